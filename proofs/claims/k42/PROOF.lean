import PyProof.Rows.All
import Wide.All
import OpenK.AllK
import Wide.FinOn
import PyProof.EqAt
import PyProof.EqKinds
import PyProof.TupleCall
import Lean
import PySem.Challenge.RW_twinriddles_k42_spans_refused
set_option Elab.async false
set_option linter.all false
set_option maxRecDepth 100000
set_option maxHeartbeats 8000000
noncomputable section
section
open PySem PySem.Spec PyProof.Rows
abbrev hV:=Value->Shared->Prop
abbrev gZ:=List (Addr×Obj)
abbrev gQ:=PySem.W.Frag
abbrev mK:=List (List Int)
abbrev ie:=List Int
abbrev ir:=List Value
abbrev jK:=Str->Option Value
abbrev hJ:=List Nat
abbrev lg:=Nat->Nat->Bool
abbrev jB:=Array Nat
abbrev mv:=Array (Int×Value)
abbrev kg:=Array Value
abbrev gT:=List Str
abbrev jf:=List Expr
abbrev sy:=Bool->Shared->Prop
abbrev vh:=Value->Value->Sem Value
abbrev sx:=Array (Option Nat)
abbrev qR:=Array (Option Value)
abbrev ji:=List (Str×Addr)
abbrev pj:=List Comprehension
abbrev mM:=Array Keyed
abbrev mL:=Nat->Keyed
abbrev yY:=Option Nat->SortSt->Prop
abbrev iu:=Nat->Prop
abbrev jo:=List Addr
abbrev gu:=Shared
abbrev gM:=Program
abbrev gG:=Around
abbrev gE:=World
abbrev iI:=SortSt
abbrev kE:=SetTable
abbrev gy:=Value
abbrev pI:=Comprehension
abbrev kR:=FuncData
abbrev ip:=Scope
abbrev gx:=Expr
abbrev gL:=Heap
abbrev gm:=Addr
end
section
open PySem PySem.Spec PyProof.Rows PySem.SeqAt
def gw:=@wpAny_bind
theorem gz:type_of% @if_pos:=@if_pos
def gA:=@wpAny_pure
theorem gC:type_of% @if_neg:=@if_neg
def ic:=@Nat.le_refl
theorem iJ:type_of% @Bool.false_eq_true:=@Bool.false_eq_true
theorem iM:type_of% @List.getElem?_eq_getElem:=@List.getElem?_eq_getElem
theorem iX:type_of% @if_false:=@if_false
theorem jc:type_of% @List.size_toArray:=@List.size_toArray
theorem jb:type_of% @Option.bind_some:=@Option.bind_some
def iq:=@Heap.lt_size
def iC:=@Option.some.inj
def iB:=@Heap.get?_push_of_some
theorem iA:type_of% @if_true:=@if_true
theorem iK:type_of% @List.mem_cons_of_mem:=@List.mem_cons_of_mem
def iN:=@List.mem_cons_self
theorem lq:type_of% @List.mem_cons:=@List.mem_cons
theorem iO:type_of% @List.getElem?_map:=@List.getElem?_map
theorem iZ:type_of% @sizeLine_eq:=@sizeLine_eq
theorem iY:type_of% @List.map_cons:=@List.map_cons
theorem nu:type_of% @List.mem_append:=@List.mem_append
theorem oI:type_of% @List.mem_map:=@List.mem_map
def pQ:=@List.getElem?_eq_some_iff
def jl:=@Bool.false_ne_true
theorem jk:type_of% @List.length_map:=@List.length_map
theorem jq:type_of% @List.length_cons:=@List.length_cons
theorem jv:type_of% @Array.length_toList:=@Array.length_toList
def jy:=@Nat.ne_of_lt
theorem jF:type_of% @List.append_assoc:=@List.append_assoc
theorem jY:type_of% @Bool.and_eq_true:=@Bool.and_eq_true
theorem kZ:type_of% @List.all_eq_true:=@List.all_eq_true
def nv:=@List.pairwise_append
theorem nV:type_of% @List.mem_singleton:=@List.mem_singleton
def kl:=@List.getElem_mem
def kF:=@List.mem_of_getElem?
def kU:=@Heap.get?_push_size
def kT:=@List.mem_of_mem_drop
def kS:=@PySem.strLen_append
def ll:=@Nat.le_trans
def lj:=@Array.getElem?_toList
def lh:=@List.take_append_drop
def lK:=@Nat.lt_of_lt_of_le
def lJ:=@List.getElem?_set_self
def lI:=@Nat.zero_le
theorem lH:type_of% @Bool.not_true:=@Bool.not_true
theorem lG:type_of% @List.map_map:=@List.map_map
def lY:=@wpAny_holding
def mC:=@Ne.symm
def mB:=@wpAny_newObj_type
theorem mz:type_of% @List.length_append:=@List.length_append
theorem my:type_of% @List.lookup_cons:=@List.lookup_cons
def mx:=@List.mem_of_mem_take
def mw:=@PySem.W.mg_none_of
def mQ:=@List.getElem?_set_ne
def pE:=@List.pairwise_cons
theorem mP:type_of% @List.not_mem_nil:=@List.not_mem_nil
def mO:=@Array.getElem?_eq_getElem
def nA:=@wpAny_mono
def ny:=@List.take_sublist
theorem sQ:type_of% @List.mem_range:=@List.mem_range
def oj:=@congrArg
def oi:=@PySem.mem_of_lookup
theorem oh:type_of% @List.drop_drop:=@List.drop_drop
def og:=@List.drop_sublist
def pq:=@List.mem_append_right
theorem pk:type_of% @List.length_take:=@List.length_take
theorem pP:type_of% @Nat.lt_irrefl:=@Nat.lt_irrefl
def pO:=@wpAny_call_entry
theorem pN:type_of% @List.length_set:=@List.length_set
theorem pM:type_of% @List.length_nil:=@List.length_nil
theorem pK:type_of% @decide_eq_true_eq:=@decide_eq_true_eq
def pJ:=@wpAny_setState_of
def rf:=@List.filterMap_cons
def rd:=@codeAny_mono
def qZ:=@eq_of_beq
theorem qY:type_of% @bind_assoc:=@bind_assoc
def qX:=@List.getElem?_of_mem
def qW:=@List.drop_eq_getElem_cons
def qV:=@List.Perm.append_left
theorem qU:type_of% @List.nil_append:=@List.nil_append
def qT:=@List.map_id
theorem qS:type_of% @List.getD_eq_getElem?_getD:=@List.getD_eq_getElem?_getD
def sO:=@decide_eq_false
def sN:=@List.append_nil
theorem sM:type_of% @List.getElem?_replicate:=@List.getElem?_replicate
def vZ:=@PyProof.Rows.slot_tuple_getitem
theorem sL:type_of% @bne_self_eq_false:=@bne_self_eq_false
def sJ:=@Prod.mk.inj
def sH:=@PySem.W.kia_one
def sG:=@wpAny_of_eq
def sD:=@wpAny_forIn_list
def sC:=@Nat.pow_succ
def sA:=@Nat.mul_assoc
def vt:=@Nat.le_of_lt
def vr:=@wpAny_truthy_bool
theorem Bg:type_of% @List.nodup_cons:=@List.nodup_cons
def vq:=@wpAny_typeOf
def vp:=@codeAny_builtin
theorem vo:type_of% @Array.getD_eq_getD_getElem?:=@Array.getD_eq_getD_getElem?
def vn:=@List.Perm.refl
def pS:=@Nat.min_eq_left
theorem pR:type_of% @or_false:=@or_false
def Iq:=@PySem.F.called_set
def rT:=@wpAny_passesOwn
theorem rS:type_of% @List.length_drop:=@List.length_drop
theorem rR:type_of% @List.map_nil:=@List.map_nil
def rQ:=@Heap.size_push
def rP:=@List.drop_eq_nil_of_le
def rO:=@List.ext_getElem?
def rN:=@List.take_of_length_le
theorem rM:type_of% @List.take_take:=@List.take_take
def rL:=@Nat.mul_add
def rK:=@List.map_congr_left
theorem rJ:type_of% @List.nodup_nil:=@List.nodup_nil
theorem yK:type_of% @beq_eq_false_iff_ne:=@beq_eq_false_iff_ne
def uO:=@wpAny_rule
def uN:=@IsTup.new
def uM:=@Nat.ne_of_gt
def uL:=@wpAny_Call_Name_kw
def K5:=@Option.isSome_iff_exists
def uK:=@List.getElem?_append_right
def uJ:=@wpAny_field
def uI:=@Heap.get?_update_self
theorem uH:type_of% @List.length_singleton:=@List.length_singleton
def uG:=@wpAny_askSetting
def uF:=@Around.under_plainId
def uE:=@List.Perm.append_right
def uD:=@List.getElem_of_mem
theorem uC:type_of% @List.extract_toArray:=@List.extract_toArray
theorem uB:type_of% @List.extract_eq_take_drop:=@List.extract_eq_take_drop
theorem uA:type_of% @List.getElem?_drop:=@List.getElem?_drop
def uz:=@List.zip_cons_cons
def uy:=@Nat.mul_comm
def ux:=@Nat.mul_one
def uw:=@Nat.mod_lt
def K0:=@Array.getElem?_eq_some_iff
theorem uv:type_of% @List.isEmpty_nil:=@List.isEmpty_nil
def ur:=@Int.toNat_natCast
def uq:=@Obj.data_mapFields
def uo:=@wpAny_specialOf
theorem um:type_of% @List.cons_append:=@List.cons_append
def wI:=@wpAny_execs_nil
def wH:=@wpAny_standAt
def wG:=@wpAny_load
def wF:=@wpAny_call
def wD:=@List.getElem?_append_left
def wC:=@wpAny_callSpecial?_slot
def wB:=@List.reverse_cons
def wA:=@Nat.le_succ
def wz:=@codeAny_of_tree
def wy:=@Nat.lt_trans
def wx:=@List.getElem?_set
def wu:=@plainId_quiet
def MW:=@Array.perm_iff_toList_perm
def wt:=@wpAny_attempt
def Bj:=@List.perm_middle
def Fc:=@List.pairwise_iff_getElem
theorem wq:type_of% @Bool.not_eq_true':=@Bool.not_eq_true'
def wo:=@List.Perm.of_eq
theorem wm:type_of% @List.map_append:=@List.map_append
def wk:=@Nat.lt_of_le_of_lt
def wj:=@Bool.or_eq_true
def wg:=@Nat.pow_le_pow_right
def MV:=@Nat.not_lt
def we:=@Heap.SameBut.update
def MU:=@List.length_eq_zero_iff
def wd:=@List.length_eraseIdx
def Fb:=@PySem.F.slot_tuple_hash
def wc:=@List.mem_map_of_mem
def wa:=@joinParts_cons
def Aq:=@Calls.Constant_str
def Ap:=@List.of_mem_zip
def Ao:=@PySem.W.cellsFrom_some
def An:=@concat_meets
def Am:=@slicePart_none
def Al:=@Heap.get?_update_other
def Ak:=@call_meets
def Aj:=@decide_eq_true
def Ai:=@Nat.lt_succ_of_lt
theorem Ah:type_of% @List.getElem?_eq_none:=@List.getElem?_eq_none
def Ag:=@Nat.lt_or_ge
def Af:=@List.pairwise_singleton
def Ae:=@List.perm_append_comm
def Ad:=@List.drop_zero
def Ac:=@AutoSeq1.sub_tuple_tuple
def Ab:=@richCompare_meets_room
def Aa:=@Nat.mul_left_comm
theorem zZ:type_of% @Array.getElem?_setIfInBounds:=@Array.getElem?_setIfInBounds
def zY:=@wpAny_isSame_ref_self
def zW:=@Array.forIn_toList
def DJ:=@wpAny_pyHash_int
def DI:=@Array.append_assoc
def DH:=@wpAny_bindName
def DG:=@Int.mul_one
def DF:=@Calls.spliced_nil
def DE:=@Calls.spliced_cons
def DD:=@noFill_tuple_add
def DC:=@seq_tuple_add
def DA:=@PySem.F.slot_tuple_add
def Dz:=@PySem.F.entry_tuple_add
def Dy:=@PySem.F.args_tuple_add_2
def Dx:=@wpAny_sequenceKey
def Dw:=@entry_tuple_getitem
def Dv:=@args_tuple_getitem
def Du:=@tupleItemsOf_
def Dt:=@evalPart_none
def Ds:=@seqIndex_of
def Dr:=@seqIndex_neg
def Dq:=@Calls.evalArgs_plain
def Dp:=@List.forIn_cons
def Dm:=@Nat.lt_asymm
def Dl:=@List.ext_getElem
def Dk:=@Nat.lt_succ_self
def Dj:=@PySem.F.plainAttrs_list
def KZ:=@F.called_tuple
def P5:=@Array.mem_toList_iff
def Di:=@List.take_succ
def Dh:=@List.singleton_append
def Dg:=@List.drop_left
def Df:=@Nat.add_zero
def De:=@listUpdate_at
def Dd:=@get?_update_seq
def Dc:=@seqEpoch_at
def C9:=@List.Perm.eq_of_pairwise
def KY:=@List.pairwise_lt_range
def C8:=@List.length_reverse
def C7:=@Nat.add_mul
def C6:=@Nat.one_mul
def C5:=@Nat.mul_zero
def C4:=@Int.emod_lt_of_pos
def C3:=@Int.emod_nonneg
def CZ:=@List.mem_erase_of_ne
def CY:=@Array.getElem?_eq_none
def CW:=@isSubtype_type
def CV:=@wpAny_setEntries_of
def CU:=@wpAny_setField
def CS:=@wpAny_isInstance
def CQ:=@codeAny_call_builtin
def CP:=@wpAny_seqItems
def HB:=@PySem.F.slot_set_contains
def Ip:=@List.mem_append_left
def Io:=@wpAny_storeName_local
def Im:=@Calls.Name_function_global
def Il:=@PyProof.Rows.callWith_type1
def Ik:=@Around.frames_deeper
def Ij:=@List.getElem?_take_of_lt
def Ii:=@List.length_replicate
def Ih:=@codeAny_call_function
def Ig:=@wpAny_newFunctionEnv_cells
def Ie:=@subscriptTail_builtinR
def Ic:=@wpAny_Call_method_late
def Ib:=@Calls.callWith_builtin
def Ia:=@F.entry_list_append
def H9:=@F.args_list_append_2
def HZ:=@wpAny_comprehension_free
def HY:=@List.getElem?_zipIdx
def HX:=@PySem.W.kas_swaps_map
def HW:=@List.take_set_of_le
def HV:=@List.drop_set_of_lt
def HU:=@List.take_succ_cons
def HS:=@List.eraseIdx_eq_take_drop_succ
def HR:=@Heap.get?_update_ne
def HQ:=@List.filterMap_append
def HP:=@List.perm_append_singleton
def HN:=@Array.getElem?_replicate
def HM:=@builtinLookup_eq_fast
def HL:=@PySem.F.slot_set_iter
def HK:=@Obj.isFreed_of_fields
def HJ:=@PySem.F.plain_list_iadd
def HI:=@PySem.F.plain_set_new
def HH:=@PySem.F.slot_set_add
def HG:=@Array.toList_append
def P7:=@PySem.F.attr_TypeError
def HF:=@FormattedValue_plain
def HE:=@formatField_int_small
def HD:=@List.perm_cons_erase
end
namespace TT
open PySem
noncomputable def adv(mask:Nat)(p:SetTable.Probe):SetTable.Probe:=
 if p.more>0 then {p with j:=p.j+1,more:=p.more-1} else
 {p with j:=(SetTable.leap mask p.i p.perturb).1,more:=SetTable.runEnd mask (SetTable.leap mask p.i p.perturb).1-(SetTable.leap mask p.i p.perturb).1,i:=(SetTable.leap mask p.i p.perturb).1,perturb:=(SetTable.leap mask p.i p.perturb).2}
noncomputable def stt(mask:Nat)(h:Int):SetTable.Probe:={j:=SetTable.bits h%(mask+1),more:=SetTable.runEnd mask (SetTable.bits h%(mask+1))-SetTable.bits h%(mask+1),i:=SetTable.bits h%(mask+1),perturb:=SetTable.bits h,dummy:=none}
noncomputable def pr(mask:Nat)(h:Int):Nat->SetTable.Probe
 |0=>stt mask h
 |n+1=>adv mask (pr mask h n)
structure TabOk(hs:ie)(t:kE):Prop where
 pow: ∃k,3<=k/\k<=11/\t.mask+1=2^k
 dum:t.dummies= #[]
 len:t.place.size=hs.length
 room:5*hs.length<3*t.mask
 ris:t.place.toList.Pairwise (· < ·)
 bd: ∀j∈t.place.toList,j<=t.mask
 road: ∀(i:Nat) (h:Int) (j:Nat),hs[i]?=some h->t.place[i]?=some j-> ∃n,(pr t.mask h n).j=j/\ ∀m,m<n->(pr t.mask h m).j∈t.place.toList
end TT
namespace L2
open PySem PySem.Spec PyProof.Rows
abbrev Key:=Sum Int Str
noncomputable def zv:Key->Value->Bool
 | .inl k,v=>Value.isInt k v
 | .inr x,v=>Value.isStrOf x v
noncomputable def TM(w:gE):Key->Int
 | .inl k=>hashInt k
 | .inr x=>hashStr w x
theorem jz: ∀{k:Key} {v:gy},zv k v=true->(∃i t,k=Sum.inl i/\v=Value.int i t)\/(∃x t,k=Sum.inr x/\v=Value.str x t)
 | .inl i,v,h=>by
  obtain⟨t,e⟩:=Value.isInt_shape (k:=i) (v:=v) h;exact .inl ⟨i,t,rfl,e⟩
 | .inr x,v,h=>by
  obtain⟨t,e⟩:=Value.isStrOf_shape (x:=x) (v:=v) h;exact .inr ⟨x,t,rfl,e⟩
theorem Hc(i:Int)(t:Tok):zv (.inl i) (.int i t)=true:=by simp[zv,Value.isInt]
theorem Hb(x:Str)(t:Tok):zv (.inr x) (.str x t)=true:=by simp[zv,Value.isStrOf]
theorem Pf(a b:Int):decide ((Sum.inl a:Key)=Sum.inl b)=(a==b):=by
 by_cases e:a=b
 ·subst e;simp
 ·have h: ¬(Sum.inl a:Key)=Sum.inl b:=fun q=>e (Sum.inl.inj q);rw[sO h];exact(yK.mpr e).symm
theorem Pc(a b:Str):decide ((Sum.inr a:Key)=Sum.inr b)=decide (a=b):=by
 by_cases e:a=b
 ·subst e;simp
 ·have h: ¬(Sum.inr a:Key)=Sum.inr b:=fun q=>e (Sum.inr.inj q);rw[sO h,sO e]
theorem Pe(a:Int)(b:Str):decide ((Sum.inl a:Key)=Sum.inr b)=false:=sO (fun q=>nomatch q)
theorem Pd(a:Str)(b:Int):decide ((Sum.inr a:Key)=Sum.inl b)=false:=sO (fun q=>nomatch q)
noncomputable def lC(prog:gM)(w:gE):PySem.KeyKind prog w Key where
 is:=zv
 hash:=TM w
 inj:=fun v a b ha hb=>by
  rcases jz ha with⟨i,t,rfl,rfl⟩|⟨x,t,rfl,rfl⟩
  ·rcases jz hb with⟨j,u,rfl,e⟩|⟨y,u,rfl,e⟩
   ·injection e with e1 _;rw[e1]
   ·exact nomatch e
  ·rcases jz hb with⟨j,u,rfl,e⟩|⟨y,u,rfl,e⟩
   ·exact nomatch e
   ·injection e with e1 _;rw[e1]
 byValue:=fun k v h=>by
  rcases jz h with⟨i,t,rfl,rfl⟩|⟨x,t,rfl,rfl⟩<;>rfl
 pyHash:=fun hv h=>by
  rcases jz hv with⟨i,t,rfl,rfl⟩|⟨x,t,rfl,rfl⟩
  ·exact DJ h
  ·exact wpAny_pyHash_str h
 eqBool:=fun hu hv h=>by
  rcases jz hu with⟨i,t,rfl,rfl⟩|⟨x,t,rfl,rfl⟩
  ·rcases jz hv with⟨j,u,rfl,rfl⟩|⟨y,u,rfl,rfl⟩
   ·rw[Pf] at h;exact wpAny_eqBool_int h
   ·rw[Pe] at h;exact SeqAt.EqAt.int_str i t y u _ _ _ _ h
  ·rcases jz hv with⟨j,u,rfl,rfl⟩|⟨y,u,rfl,rfl⟩
   ·rw[Pd] at h;exact SeqAt.EqAt.str_int x t j u _ _ _ _ h
   ·rw[Pc] at h;exact wpAny_eqBool_str h
 «strs»:=fun k x t v h=>by
  rcases jz h with⟨i,u,rfl,e⟩|⟨y,u,rfl,e⟩
  ·exact nomatch e
  ·injection e with e1 _
   subst e1;cases v<;>rfl
theorem Cc(prog:gM)(w:gE)(i:Int)(t:Tok):(lC prog w).is (.inl i) (.int i t)=true:=Hc i t
theorem Cb(prog:gM)(w:gE)(x:Str)(t:Tok):(lC prog w).is (.inr x) (.str x t)=true:=Hb x t
inductive V where
 |non|bl(b:Bool)|int(i:Int)|str(x:Str)|byt(b:Array UInt8)|flt(b:UInt64)|ref(a:gm)|ty(n:String)
 deriving DecidableEq
def RelV:V->Value->Prop
 | .non,u=>u=Value.none
 | .bl b,u=>u=Value.bool b
 | .int i,u=> ∃t,u=Value.int i t
 | .str x,u=> ∃t,u=Value.str x t
 | .byt b,u=> ∃t,u=Value.bytes b t
 | .flt b,u=> ∃t,u=Value.float b t
 | .ref a,u=>u=Value.ref a
 | .ty n,u=>u=Value.type n
abbrev Vals:List V->List Value->Prop:=Paired RelV
theorem Vals.length{xs:List V}{us:ir}(r:Vals xs us):xs.length=us.length:=Paired.length r
theorem Vals.get: ∀{xs:List V} {us:ir} {i:Nat} {x:V},Vals xs us->xs[i]?=some x-> ∃u,us[i]?=some u/\RelV x u
 |_,_,_,_,.nil,e=>by simp at e
 |_,_,0,_,.cons r _,e=>by simp at e;subst e;exact⟨_,rfl,r⟩
 |_,_,i+1,x,.cons _ t,e=>by
  obtain⟨u,h1,h2⟩:=Vals.get (i:=i) (x:=x) t (by simpa using e);exact⟨u,by simpa using h1,h2⟩
theorem Vals.set{x:V}{u:gy}(r:RelV x u): ∀{xs:List V} {us:ir} (i:Nat),Vals xs us->Vals (xs.set i x) (us.set i u)
 |_,_,_,.nil=> .nil
 |_,_,0,.cons _ t=> .cons r t
 |_,_,i+1,.cons q t=> .cons q (Vals.set r i t)
theorem Vals.append: ∀{xs ys:List V} {us ws:ir},Vals xs us->Vals ys ws->Vals (xs++ys) (us++ws)
 |_,_,_,_,.nil,s=>s
 |_,_,_,_,.cons r t,s=> .cons r (Vals.append t s)
theorem Vals.take: ∀{xs:List V} {us:ir} (n:Nat),Vals xs us->Vals (xs.take n) (us.take n)
 |_,_,0,_=> .nil
 |_,_,_+1,.nil=> .nil
 |_,_,n+1,.cons r t=> .cons r (Vals.take n t)
theorem Vals.drop: ∀{xs:List V} {us:ir} (n:Nat),Vals xs us->Vals (xs.drop n) (us.drop n)
 |_,_,0,r=>r
 |_,_,_+1,.nil=> .nil
 |_,_,n+1,.cons _ t=>Vals.drop n t
def RE:Option V->Option Value->Prop
 |some v,some u=>RelV v u
 |none,none=>True
 |_,_=>False
def KV{κ:Type}:List (κ×V)->List (κ×Value)->Prop:=Paired fun(p:κ×V) (q:κ×Value)=>p.1=q.1/\RelV p.2 q.2
noncomputable def kV:Key->V
 | .inl i=> .int i
 | .inr x=> .str x
inductive HO where
 /-- a list -/
 |lst(xs:List V)
 /-- a tuple(never changes) -/
 |tup(xs:List V)
 /-- a dict whose keys are ints and texts;one whose keys are tuples of ints and texts(the empty one is both) -/
 |dK(i3:List (Key×V))|dT(i3:List (List Key×V))
 /-- a set of ints:b6 members,b6 size -/
 |set (S:Int->Bool) (n:Nat)
 |stt (zs:List (Int×V))
 /-- an instance of the class at C,b6 dict at dx,b6 attributes -/
 |ins (C dx:gm) (fs:List (Str×V))
 /-- the dict of the instance at x -/
 |own (x:gm)
 /-- the dict of an exception -/
 |xd (fs:List (Str×V))
 /-- a bound method,f of x -/
 |met (f x:gm)
 /-- a range object lo,lo+1,.. below hi -/
 |rng (lo hi:Int)
 /-- a thing that is known to the object (the script;a dict while a loop walks it):read,never written while it is so -/
 |frz (o:Obj) (u:HO)
 /-- a code object's table -/
 |tbl (ps:kg)
 /-- any other thing,by what is true of b6 one object (a def of one's own:SetO a S n:=HO.ext fun h=> ..) -/
 |ext (φ:Heap->Prop)
abbrev Hp:=Addr->Option HO
noncomputable def upd(H:Hp)(a:gm)(o:HO):Hp:=fun b=>if b=a then some o else H b
theorem gU{H:Hp}{a:gm}{o:HO}:upd H a o a=some o:=by unfold upd;rw[gz rfl]
theorem gR{H:Hp}{a b:gm}{o:HO}(h:b≠a):upd H a o b=H b:=by unfold upd;rw[gC h]
theorem jW{H:Hp}{a b:gm}{o:HO}(h:H a=some o)(h':H b=none):a≠b:=by
 intro e;subst e;rw[h] at h';cases h'
section
variable(P:gM)(w:gE)
def ObjOk(H:Hp)(h:gL)(a:gm):HO->Prop
 | .lst xs=>xs.length<=sizeLine/\ ∃(b6:ir) (n:Nat),Vals xs b6/\h.get? a=some {cls:= .type "list",data:= .seq b6.toArray n}
 | .tup xs=>xs.length<=sizeLine/\ ∃b6:List Value,Vals xs b6/\IsTup h a b6.toArray
 | .dK i3=>i3.length<=sizeLine/\(a==sysModules)=false/\ ∃vs,KV i3 vs/\h.DictOf (lC P w) a vs
 | .dT i3=>i3.length<=sizeLine/\(a==sysModules)=false/\ ∃xs:List (List Key×Addr×Value),
   Paired (fun(p:List Key×V) (q:List Key×Addr×Value)=>p.1=q.1/\H q.2.1=some (.tup (p.1.map kV))/\RelV p.2 q.2.2) i3 xs/\
   ∃o es ep,h.get? a=some o/\o.ExactDict/\o.data= .dict es ep/\es.toList=xs.map (entryOfKey (tupleKind (lC P w)))/\(xs.map (·.1)).Nodup
 | .set S n=>h.SetOf (intKind P w) a S n
 | .stt zs=> ∃(es:mv) (n:Nat) (t:kE),h.get? a=some {cls:= .type "set",data:= .set es n t}/\Paired (fun(z:Int×V) (e:Int×Value)=>z.1=e.1/\RelV z.2 e.2) zs es.toList/\
   TT.TabOk (zs.map (·.1)) t/\t.plain=true/\t.led=!w.params.followText "set-order"
 | .ins C dx fs=>H dx=some (.own a)/\fs.length<=1000/\dx≠a/\h.get? a=some (PySem.W.instObj C dx)/\
   ∃mA,h.Ns1 dx mA/\(∀f,RE (fs.lookup f) (mA f))/\PySem.Within mA (fs.map (·.1))
 | .own _=> ∃o,h.get? a=some o
 | .xd fs=> ∃mA,h.Ns1 a mA/\ ∀f,RE (fs.lookup f) (mA f)
 | .rng lo hi=> ∃t u v,h.get? a=some {cls:= .type "range",data:= .fields #[.int lo t,.int hi u,.int 1 v]}
 | .frz o u=>h.get? a=some o/\ObjOk H h a u
 | .tbl ps=> ∃q t qs,ps[0]?=some (.str q t)/\h.get? a=some {cls:= .none,data:= .fields qs}/\TriplesOk qs.toList/\ ∀pos cv,codeAmong pos qs.toList=some cv-> ∃c ob u vs t,cv= .ref c/\H c=some (.frz ob u)/\ob.data= .fields vs/\vs[1]?=some (.str q t)
 | .met f x=>h.get? a=some (PySem.W.methodObj (.ref f) (.ref x))
 | .ext φ=>φ h/\(∃o,h.get? a=some o)/\ ∀h1 h2:Heap,φ h1->(∀o,h1.get? a=some o->h2.get? a=some o)->φ h2
def HOk(H:Hp)(h:gL):Prop:= ∀a o,H a=some o->ObjOk P w H h a o
end
section
variable {P:gM}{w:gE}{H H':Hp}{h h':gL}{a:gm}{o:HO}
theorem ObjOk.lt(x:ObjOk P w H h a o):a<h.objs.size:=by
 cases o with
 |lst xs=>obtain⟨_,_,_,_,e⟩:=x;exact iq e
 |tup xs=>obtain⟨_,_,_,p⟩:=x;exact p.lt
 |dK i3=>obtain⟨_,_,_,_,o,_,_,e,_⟩:=x;exact iq e
 |dT i3=>obtain⟨_,_,_,_,o,_,_,e,_⟩:=x;exact iq e
 |set S n=>obtain⟨o,_,_,_,e,_⟩:=x;exact iq e
 |stt zs=>obtain⟨_,_,_,e,_⟩:=x;exact iq e
 |ins C dx fs=>obtain⟨_,_,_,e,_⟩:=x;exact iq e
 |own y=>obtain⟨_,e⟩:=x;exact iq e
 |xd fs=>obtain⟨_,⟨_,_,_,e,_⟩,_⟩:=x;exact iq e
 |rng lo hi=>obtain⟨_,_,_,e⟩:=x;exact iq e
 |frz ob u=>obtain⟨e,_⟩:=x;exact iq e
 |tbl ps=>obtain⟨_,_,_,_,e,_⟩:=x;exact iq e
 |met f y=>exact iq (show h.get? a=some _ from x)
 |ext φ=>obtain⟨_,⟨_,e⟩,_⟩:=x;exact iq e
theorem Paired.mapP{α β:Type}{F G:α->β->Prop}: ∀{l₁:List α} {l₂:List β},Paired F l₁ l₂->(∀a b,F a b->G a b)->Paired G l₁ l₂
 |_,_,.nil,_=> .nil
 |_,_,.cons r t,f=> .cons (f _ _ r) (Paired.mapP t f)
theorem ObjOk.stay(x:ObjOk P w H h a o)(k: ∀b u,(b=a\/H b=some (.own a))->h.get? b=some u->h'.get? b=some u)
  (ho: ∀b,H b=some (.own a)->H' b=some (.own a))(ht: ∀b xs,H b=some (.tup xs)->H' b=some (.tup xs))(hz: ∀b ob u,H b=some (.frz ob u)->H' b=some (.frz ob u):=by exact fun _ _ _ q=>q):ObjOk P w H' h' a o:=by
 induction o with
 |lst xs=>obtain⟨z,b6,n,r,e⟩:=x;exact⟨z,b6,n,r,k _ _ (.inl rfl) e⟩
 |tup xs=>obtain⟨z,b6,r,ob,e,c⟩:=x;exact⟨z,b6,r,ob,k _ _ (.inl rfl) e,c⟩
 |dK i3=>obtain⟨z,y,vs,r,ob,es,ep,e,c⟩:=x;exact⟨z,y,vs,r,ob,es,ep,k _ _ (.inl rfl) e,c⟩
 |dT i3=>
  obtain⟨z,y,xs,r,ob,es,ep,e,c⟩:=x;exact⟨z,y,xs,Paired.mapP r fun p q z=>⟨z.1,ht _ _ z.2.1,z.2.2⟩,ob,es,ep,k _ _ (.inl rfl) e,c⟩
 |set S n=>obtain⟨ob,es,ep,t,e,c⟩:=x;exact⟨ob,es,ep,t,k _ _ (.inl rfl) e,c⟩
 |stt zs=>obtain⟨es,n,t,e,c⟩:=x;exact⟨es,n,t,k _ _ (.inl rfl) e,c⟩
 |ins C dx fs=>
  obtain⟨d,z,ne,e,mA,⟨od,es,ep,e2,c⟩,r⟩:=x;exact⟨ho _ d,z,ne,k _ _ (.inl rfl) e,mA,⟨od,es,ep,k _ _ (.inr d) e2,c⟩,r⟩
 |own y=>obtain⟨ob,e⟩:=x;exact⟨ob,k _ _ (.inl rfl) e⟩
 |xd fs=>obtain⟨mA,⟨od,es,ep,e,c⟩,r⟩:=x;exact⟨mA,⟨od,es,ep,k _ _ (.inl rfl) e,c⟩,r⟩
 |rng lo hi=>obtain⟨t,u,v,e⟩:=x;exact⟨t,u,v,k _ _ (.inl rfl) e⟩
 |frz ob u ih=>obtain⟨e,q⟩:=x;exact⟨k _ _ (.inl rfl) e,ih q⟩
 |tbl ps=>obtain⟨q,t,qs,e0,e,tr,m⟩:=x;exact⟨q,t,qs,e0,k _ _ (.inl rfl) e,tr,fun pos cv z=>let⟨c,ob,u,vs,t,h1,h2,h3⟩:=m pos cv z;⟨c,ob,u,vs,t,h1,hz _ _ _ h2,h3⟩⟩
 |met f y=>
  have e:h.get? a=some (PySem.W.methodObj (.ref f) (.ref y)):=x;show h'.get? a=some (PySem.W.methodObj (.ref f) (.ref y));exact k a _ (.inl rfl) e
 |ext φ=>obtain⟨p,⟨o,e⟩,st⟩:=x;exact⟨st _ _ p fun o q=>k _ _ (.inl rfl) q,⟨o,k _ _ (.inl rfl) e⟩,st⟩
theorem HOk.lt(x:HOk P w H h)(e:H a=some o):a<h.objs.size:=(x a o e).lt
theorem HOk.fresh(x:HOk P w H h)(e:h.objs.size<=a):H a=none:=by
 cases q:H a with
 |none=>rfl
 |some u=>exact absurd (lK (x.lt q) e) (pP _)
theorem HOk.kept(x:HOk P w H h)(k: ∀b u,h.get? b=some u->h'.get? b=some u):HOk P w H h':=fun a o e=>
 (x a o e).stay (fun b u _ q=>k b u q) (fun _ q=>q) fun _ _ q=>q
theorem HOk.laid(x:HOk P w H h)(k: ∀b u,h.get? b=some u->h'.get? b=some u)(hp:h.objs.size<=a)(new:ObjOk P w (upd H a o) h' a o):HOk P w (upd H a o) h':=fun b u e=>by
 have hn:=x.fresh hp;by_cases hb:b=a
 ·subst hb;rw[gU] at e;cases e;exact new
 ·rw[gR hb] at e;exact(x b u e).stay (fun c v _ q=>k c v q) (fun c q=>by rw[gR (jW q hn)];exact q) (fun c xs q=>by rw[gR (jW q hn)];exact q) fun c _ _ q=>by rw[gR (jW q hn)];exact q
end
def Rd(H:Hp)(a:gm)(u:HO):Prop:=H a=some u\/ ∃o,H a=some (.frz o u)
theorem Rd.ok{P:gM}{w:gE}{H:Hp}{h:gL}{a:gm}{u:HO}(r:Rd H a u)(x:HOk P w H h):ObjOk P w H h a u:=by
 rcases r with r|⟨o,r⟩
 ·exact x a u r
 ·obtain⟨_,q⟩:=x a _ r;exact q
def Mut:Option HO->Prop
 |some (.lst _)=>True
 |some (.dK _)=>True
 |some (.dT _)=>True
 |some (.set _ _)=>True
 |some (.stt _)=>True
 |some (.ins _ _ _)=>True
 |some (.ext _)=>True
 |_=>False
section
variable {P:gM}{w:gE}{H:Hp}{h h':gL}{x e:gm}{o':HO}
theorem HOk.write(ok:HOk P w H h)(mu:Mut (H x))(he:e=x\/H e=some (.own x))(k: ∀b u,b≠e->h.get? b=some u->h'.get? b=some u)(df: ∃u,h'.get? e=some u)
  (new:ObjOk P w (upd H x o') h' x o'):HOk P w (upd H x o') h':=fun b u q=>by
 have nown: ∀c y,H c=some (.own y)->c≠x:=fun c y r z=>by subst z;rw[r] at mu;exact mu
 have ntup: ∀c xs,H c=some (.tup xs)->c≠x:=fun c xs r z=>by subst z;rw[r] at mu;exact mu
 by_cases hb:b=x
 ·subst hb;rw[gU] at q;cases q;exact new
 ·rw[gR hb] at q;by_cases bL:b=e
  ·have q':H b=some (.own x):=by
    rcases he with z|z
    ·exact absurd (bL.trans z) hb
    ·rw[bL];exact z
   rw[q] at q';cases q';obtain⟨v,hv⟩:=df;exact⟨v,by rw[bL];exact hv⟩
  ·refine(ok b u q).stay (fun c v hc r=>k c v ?_ r) (fun c r=>by rw[gR (nown c b r)];exact r) (fun c xs r=>by rw[gR (ntup c xs r)];exact r) fun c _ _ r=>by rw[gR (fun z=>by subst z;rw[r] at mu;exact mu)];exact r
   rcases hc with rfl|hc
   ·exact bL
   ·rintro rfl;rcases he with z|z
    ·exact nown c b hc z
    ·rw[hc] at z;cases z;exact hb rfl
end
structure Un(fs ex:jo)(H H':Hp)(h h':gL):Prop where
 keep: ∀b o,h.get? b=some o->H b=none->b∉fs->b∉ex->h'.get? b=some o
 slot: ∀b o,h.get? b=some o->H b=none->b∈fs->b∉ex-> ∃sl,h'.get? b=some {o with slots:=sl}
 free: ∀b o,h.get? b=some o->H b=none->b∉ex->H' b=none
 there: ∀b o,h.get? b=some o->b∉ex-> ∃o',h'.get? b=some o'
 tups: ∀b xs,H b=some (.tup xs)->H' b=some (.tup xs)
 frzs: ∀b o u,H b=some (.frz o u)->H' b=some (.frz o u)
 tbls: ∀b ps,H b=some (.tbl ps)-> ∃more,H' b=some (.tbl (ps++more))
section
variable {fs fs' ex ex':jo}{H H1 H2:Hp}{h h1 h2 h':gL}{a x e:gm}{o:HO}
theorem Un.any(u:Un fs ex H H1 h h1){b:gm}{ob:Obj}(q:h.get? b=some ob)(n:H b=none)(hx:b∉ex): ∃sl,h1.get? b=some {ob with slots:=sl}:=by
 by_cases hb:b∈fs
 ·exact u.slot b ob q n hb hx
 ·exact⟨ob.slots,u.keep b ob q n hb hx⟩
theorem Un.kept(k: ∀b u,h.get? b=some u->h'.get? b=some u):Un fs ex H H h h':=
 ⟨fun b ob q _ _ _=>k b ob q,fun b ob q _ _ _=>⟨ob.slots,k b ob q⟩,fun _ _ _ n _=>n,fun b ob q _=>⟨ob,k b ob q⟩,fun _ _ q=>q,fun _ _ _ q=>q,fun _ ps q=>⟨#[],by rw[q];simp⟩⟩
theorem Un.refl:Un fs ex H H h h:=Un.kept fun _ _ q=>q
theorem Un.laid(k: ∀b u,h.get? b=some u->h'.get? b=some u)(hp:h.objs.size<=a)(hn:H a=none):Un fs ex H (upd H a o) h h' where
 keep:=fun b u q _ _ _=>k b u q
 slot:=fun b u q _ _ _=>⟨u.slots,k b u q⟩
 free:=fun b u q n _=>by rw[gR (jy (lK (iq q) hp))];exact n
 there:=fun b u q _=>⟨u,k b u q⟩
 tups:=fun b xs q=>by rw[gR (jW q hn)];exact q
 frzs:=fun b u xs q=>by rw[gR (jW q hn)];exact q
 tbls:=fun b ps q=>⟨#[],by rw[gR (jW q hn),q];simp⟩
theorem Un.write(mu:Mut (H x))(he:e=x\/H e=some (.own x))(k: ∀b u,b≠e->h.get? b=some u->h'.get? b=some u)(df: ∃u,h'.get? e=some u):Un fs ex H (upd H x o) h h':=by
 have hx: ∀b,H b=none->b≠x:=fun b n z=>by subst z;rw[n] at mu;exact mu
 have hb: ∀b,H b=none->b≠e:=fun b n z=>by
  subst z;rcases he with r|r
  ·exact hx b n r
  ·rw[n] at r;cases r
 have hm: ∀b u,H b=some u-> ¬Mut (some u)->b≠x:=fun b u q nm z=>by subst z;rw[q] at mu;exact nm mu
 refine⟨fun b u q n _ _=>k b u (hb b n) q,fun b u q n _ _=>⟨u.slots,k b u (hb b n) q⟩,fun b u q n _=>by rw[gR (hx b n)];exact n,fun b u q _=>?_,
  fun b xs q=>by rw[gR (hm b _ q fun z=>z)];exact q,fun b u xs q=>by rw[gR (hm b _ q fun z=>z)];exact q,fun b ps q=>⟨#[],by rw[gR (hm b _ q fun z=>z),q];simp⟩⟩
 by_cases bL:b=e
 ·subst bL;exact df
 ·exact⟨u,k b u bL q⟩
end
noncomputable def trk(h:gL)(H:Hp):List Addr:=(List.range h.objs.size).filter fun a=>(H a).isSome
noncomputable def yR(h:gL)(H:Hp):Heap:=PySem.W.hideAll h (trk h H)
theorem Hg(h:gL)(H:Hp):(yR h H).objs.size=h.objs.size:=PySem.W.hideAll_size _ _
theorem Kd{h:gL}{H:Hp}{b:gm}{o:Obj}(e:h.get? b=some o)(n:H b=none):(yR h H).get? b=some o:=
 PySem.W.hideAll_get _ e fun hm=>by
  have q:(H b).isSome=true:=(List.mem_filter.mp hm).2;rw[n] at q;simp at q
theorem Mm{h:gL}{H:Hp}{b:gm}{o:Obj}(e:(yR h H).get? b=some o):h.get? b=some o/\H b=none:=by
 have e':h.get? b=some o:=PySem.W.of_hideAll (trk h H) e;refine⟨e',?_⟩
 cases q:H b with
 |none=>rfl
 |some x=>
  have hm:b∈trk h H:=List.mem_filter.mpr ⟨sQ.mpr (iq e'),by simp[q]⟩;have z:(yR h H).get? b=none:=PySem.W.hideAll_none (trk h H) hm;rw[z] at e;cases e
noncomputable def MO(g h:gL)(L:gm):List (Addr×Obj):=(List.range h.objs.size).filterMap fun a=>if a=L\/(g.get? a).isSome=true then none else(h.get? a).map fun o=>(a,o)
noncomputable def hG(g h:gL)(L d:gm):List (Addr×Obj):=(MO g h L).filter fun p=>decide (p.1≠d)
structure Mod(K:gQ)(mg:jK)(base:gL):Prop where
 kin:K.In base
 glob:base.Ns mainGlobals mg
 blt: ∃mb,base.Ns builtinsNs mb/\ ∀x:Str,x≠"__name__"->mb x=bootBuiltins x
 nolimit:base.NoLimit
structure Cx where
 prog:Program
 w:World
 K:PySem.W.Frag
 mg:Str->Option Value
 base:Heap
 A:Around
 N:List Str
 s₀:Shared
 H₀:Hp
 env:Env
 outer:List Env
 stack:List Env
 ex:List Addr
 fn:Str->Bool
 calm:Bool
 pn:List (Addr×Obj)
 xe:Value->Shared->Prop
noncomputable def frs(l:List Env):List Addr:=l.filterMap (·.frame)
abbrev Cx.fs(X:Cx):List Addr:=frs X.outer
def Vis(sc:ip)(x:Str):Prop:=sc.names.lookup x=some .local\/sc.names.lookup x=some .cell\/sc.names.lookup x=some .free
def Loc(sc:ip)(x:Str):Prop:=sc.names.lookup x=some .local\/sc.names.lookup x=some .cell
def T6(env:Env)(h:gL)(m:jK)(x:Str)(u:gy):Prop:=
 (env.kindOf x=some .local/\m x=some u)\/((env.kindOf x=some .cell\/env.kindOf x=some .free)/\ ∃c,env.cells.lookup x=some c/\h.IsCell c (some u))
structure Cx.Ok(X:Cx):Prop where
 mod:Mod X.K X.mg X.base
 kind:X.env.scope.kind= .function
 glob:X.env.globals=mainGlobals
 blt:X.env.builtins=builtinsNs
 above:X.s₀.heap.objs.size<=X.env.locals
 inj: ∀x y c,X.env.cells.lookup x=some c->X.env.cells.lookup y=some c->x=y
 has: ∀x,(X.env.kindOf x=some .cell\/X.env.kindOf x=some .free)-> ∃c,X.env.cells.lookup x=some c
 cab: ∀x c,X.fn x=true->X.env.cells.lookup x=some c->X.s₀.heap.objs.size<=c
 hd:X.calm=true->X.A.handled=none
 frames:X.A.frames=some X.stack
 stk:X.stack=X.outer\/(X.stack=X.env::X.outer/\X.env.frame=some X.env.locals)
 exf: ∀b∈X.ex,b≠X.env.locals/\ ∀x c,X.env.cells.lookup x=some c->c≠b
 bs: ∀b o,X.base.get? b=some o->X.s₀.heap.get? b=some o/\X.H₀ b=none
 bsz:X.base.objs.size<=X.s₀.heap.objs.size
 noex: ∀b o,X.base.get? b=some o->b∉X.ex
 exfs: ∀b∈X.ex,b∉X.fs
 funs:X.s₀.heap.FunFrames X.base X.outer
 frf: ∀b∈X.fs,X.H₀ b=none
structure Inv(X:Cx)(pins:gZ)(σ:List (Option V))(H:Hp)(s:gu):Prop where
 ok:X.Ok
 os:s.os=X.s₀.os
 bare:AllBare s.gens
 base:Un X.fs X.ex X.H₀ H X.s₀.heap s.heap
 loc: ∃m,s.heap.Ns X.env.locals m/\ ∀(i:Nat) (x:Str) (v:V),X.N[i]?=some x->σ[i]?=some (some v)->Vis X.env.scope x-> ∃u,RelV v u/\T6 X.env s.heap m x u
 cell: ∀x c,X.env.cells.lookup x=some c-> ∃v,s.heap.IsCell c v
 free:H X.env.locals=none
 freeC: ∀x c,X.env.cells.lookup x=some c->H c=none
 pin: ∀p∈X.pn++pins,s.heap.get? p.1=some p.2/\H p.1=none/\p.1≠X.env.locals/\p.1∉X.fs/\ ∀v,p.2.data≠ .cell v
 hok:HOk X.prog X.w H s.heap
 len:σ.length=X.N.length
section
variable {X:Cx}{pins:gZ}{σ:List (Option V)}{H H':Hp}{s:gu}{h':gL}
theorem Cx.Ok.nofr(ok:X.Ok){b:gm}{o:Obj}(e:X.base.get? b=some o):b∉X.fs:=fun hb=>by
 have:=(ok.funs.mem hb).1;rw[e] at this;cases this
theorem Inv.bs(I:Inv X pins σ H s): ∀b o,X.base.get? b=some o->s.heap.get? b=some o/\H b=none:=fun b o e=>
 ⟨I.base.keep b o (I.ok.bs b o e).1 (I.ok.bs b o e).2 (I.ok.nofr e) (I.ok.noex b o e),I.base.free b o (I.ok.bs b o e).1 (I.ok.bs b o e).2 (I.ok.noex b o e)⟩
theorem Inv.bk(I:Inv X pins σ H s): ∀b o,X.base.get? b=some o->s.heap.get? b=some o:=fun b o e=>(I.bs b o e).1
theorem Inv.mod(I:Inv X pins σ H s):Mod X.K X.mg X.base:=I.ok.mod
theorem Inv.kIn(I:Inv X pins σ H s):X.K.In s.heap:=I.ok.mod.kin.keeps I.bk
theorem Inv.lt(I:Inv X pins σ H s):X.env.locals<s.heap.objs.size:=let⟨_,hn,_⟩:=I.loc;hn.lt
theorem Inv.sz(I:Inv X pins σ H s):X.s₀.heap.objs.size<=s.heap.objs.size:=ll I.ok.above (vt I.lt)
theorem Inv.nofs(I:Inv X pins σ H s){a:gm}(h:s.heap.objs.size<=a):a∉X.fs:=fun hb=>by
 obtain⟨_,o,ho,_⟩:=I.ok.funs.mem hb;exact absurd (lK (iq ho) (ll I.sz h)) (pP _)
theorem Inv.cne(I:Inv X pins σ H s): ∀x c,X.env.cells.lookup x=some c->c≠X.env.locals:=fun x c e z=>by
 obtain⟨v,o,ho,hd⟩:=I.cell x c e;obtain⟨m,⟨o',es,ep,aX,cJ,_⟩,_⟩:=I.loc;rw[z,aX] at ho;cases ho;rw[cJ] at hd;cases hd
theorem Inv.funs(I:Inv X pins σ H s):s.heap.FunFrames X.base X.outer:=by
 have all: ∀(l:List Env),(∀b∈frs l,b∈X.fs)->X.s₀.heap.FunFrames X.base l->s.heap.FunFrames X.base l:=by
  intro l
  induction l with
  |nil=>intro _ _;trivial
  |cons env r ih=>
   intro hs hl;obtain⟨hk,⟨L,o,hf,hn,ho,hd⟩,hr⟩:=hl;have hL:L∈X.fs:=hs L (by unfold frs;rw[rf,hf];exact iN);obtain⟨sl,e⟩:=I.base.slot L o ho (I.ok.frf L hL) hL fun z=>I.ok.exfs L z hL;exact⟨hk,⟨L,_,hf,hn,e,hd⟩,ih (fun b hb=>hs b (by unfold frs;rw[rf,hf];exact iK _ hb)) hr⟩
 exact all X.outer (fun _ hb=>hb) I.ok.funs
theorem Inv.stack(I:Inv X pins σ H s):s.heap.FunFrames X.base X.stack:=by
 rcases I.ok.stk with e|⟨e,hf⟩
 ·rw[e];exact I.funs
 ·rw[e];obtain⟨m,hn,_⟩:=I.loc;refine .cons (by rw[I.ok.kind];decide) hf hn ?_ I.funs;exact Heap.get?_none_of_le (ll I.ok.bsz I.ok.above)
theorem Inv.stkSub(I:Inv X pins σ H s): ∀b∈frs X.stack,b∈X.env.locals::X.fs:=fun b hb=>by
 rcases I.ok.stk with e|⟨e,hf⟩
 ·rw[e] at hb;exact iK _ hb
 ·rw[e] at hb;unfold frs at hb;rw[rf,hf] at hb;exact hb
theorem Inv.stkFree(I:Inv X pins σ H s): ∀b∈frs X.stack,H b=none:=fun b hb=>by
 rcases lq.mp (I.stkSub b hb) with e|hb
 ·rw[e];exact I.free
 ·obtain⟨_,o,ho,_⟩:=I.ok.funs.mem hb;exact I.base.free b o ho (I.ok.frf b hb) fun z=>I.ok.exfs b z hb
theorem Inv.step{g':Array GenState}{t':Nat}{d':Drawn}{ch:jo}(I:Inv X pins σ H s)
  (bC: ∀b∈ch,(b∈X.ex\/X.s₀.heap.objs.size<=b)/\b≠X.env.locals/\(∀x c,X.env.cells.lookup x=some c->c≠b)/\ ∀p∈X.pn++pins,p.1≠b)
  (keep: ∀b o,b≠X.env.locals->b∉X.fs->b∉ch->s.heap.get? b=some o->H b=none->h'.get? b=some o)
  (slot: ∀b o,b≠X.env.locals->b∈X.fs->b∉ch->s.heap.get? b=some o->H b=none-> ∃sl,h'.get? b=some {o with slots:=sl})(free: ∀b o,b∉ch->s.heap.get? b=some o->H b=none->H' b=none)
  (there: ∀b o,b∉ch->s.heap.get? b=some o-> ∃o',h'.get? b=some o')
  (tups: ∀b xs,H b=some (.tup xs)->H' b=some (.tup xs))(frzs: ∀b o u,H b=some (.frz o u)->H' b=some (.frz o u))(tbls: ∀b ps,H b=some (.tbl ps)-> ∃more,H' b=some (.tbl (ps++more)))
  (ns: ∀m,s.heap.Ns X.env.locals m->h'.Ns X.env.locals m)(hok:HOk X.prog X.w H' h')(hg:AllBare g'):
  Inv X pins σ H' {s with heap:=h',gens:=g',drawn:=d',toks:=t'}:=by
 have neL: ∀b o,X.s₀.heap.get? b=some o->b≠X.env.locals:=fun b o e=>jy (lK (iq e) I.ok.above)
 have eh: ∀b o,X.s₀.heap.get? b=some o->b∉X.ex->b∉ch:=fun b o e hx hb=>by
  rcases(bC b hb).1 with z|z
  ·exact hx z
  ·exact absurd (lK (iq e) z) (pP _)
 have cellK: ∀x c,X.env.cells.lookup x=some c-> ∀v,s.heap.IsCell c v->h'.IsCell c v:=fun x c e v ⟨o,ho,hd⟩=>by
  have dB:c∉ch:=fun z=>(bC c z).2.2.1 x c e rfl;by_cases hc:c∈X.fs
  ·obtain⟨sl,q⟩:=slot c o (I.cne x c e) hc dB ho (I.freeC x c e);exact⟨_,q,hd⟩
  ·exact⟨o,keep c o (I.cne x c e) hc dB ho (I.freeC x c e),hd⟩
 refine⟨I.ok,I.os,hg,⟨fun b o e n hb hx=>?_,fun b o e n hb hx=>?_,fun b o e n hx=>?_,fun b o e hx=>?_,fun b xs e=>tups b xs (I.base.tups b xs e),fun b o xs e=>frzs b o xs (I.base.frzs b o xs e),fun b ps e=>?_⟩,?_,fun x c e=>?_,?_,fun x c e=>?_,fun p hp=>?_,hok,I.len⟩
 ·exact keep b o (neL b o e) hb (eh b o e hx) (I.base.keep b o e n hb hx) (I.base.free b o e n hx)
 ·obtain⟨sl,e1⟩:=I.base.slot b o e n hb hx;obtain⟨dX,e2⟩:=slot b _ (neL b o e) hb (eh b o e hx) e1 (I.base.free b o e n hx);exact⟨dX,e2⟩
 ·obtain⟨o',e1⟩:=I.base.there b o e hx;exact free b o' (eh b o e hx) e1 (I.base.free b o e n hx)
 ·obtain⟨o',e1⟩:=I.base.there b o e hx;exact there b o' (eh b o e hx) e1
 ·obtain⟨m1,e1⟩:=I.base.tbls b ps e;obtain⟨m2,e2⟩:=tbls b _ e1;exact⟨m1++m2,by rw[e2,DI]⟩
 ·obtain⟨m,hn,hl⟩:=I.loc;refine⟨m,ns m hn,fun i x v e1 e2 e3=>?_⟩;obtain⟨u,r,l⟩:=hl i x v e1 e2 e3;refine⟨u,r,?_⟩;rcases l with l|⟨k,c,e,z⟩
  ·exact .inl l
  ·exact .inr ⟨k,c,e,cellK x c e _ z⟩
 ·obtain⟨v,z⟩:=I.cell x c e;exact⟨v,cellK x c e v z⟩
 ·obtain⟨m,⟨o,_,_,ho,_⟩,_⟩:=I.loc;exact free _ o (fun z=>(bC _ z).2.1 rfl) ho I.free
 ·obtain⟨v,o,ho,hd⟩:=I.cell x c e;exact free c o (fun z=>(bC c z).2.2.1 x c e rfl) ho (I.freeC x c e)
 ·obtain⟨e,n,ne,nf,d⟩:=I.pin p hp;have dB:p.1∉ch:=fun z=>(bC p.1 z).2.2.2 p hp rfl;exact⟨keep p.1 p.2 ne nf dB e n,free p.1 p.2 dB e n,ne,nf,d⟩
theorem Inv.un{t':Nat}(I:Inv X pins σ H s)(u:Un X.fs [] H H' s.heap h')(hok:HOk X.prog X.w H' h'):Inv X pins σ H' {s with heap:=h',toks:=t'}:=by
 obtain⟨m,⟨o,es,ep,ho,r⟩,_⟩:=id I.loc;obtain⟨sl,hL⟩:=u.any ho I.free (by simp)
 exact I.step (g':=s.gens) (d':=s.drawn) (ch:=[]) (fun _ z=>nomatch z) (fun b o _ hb _ e n=>u.keep b o e n hb (by simp)) (fun b o _ hb _ e n=>u.slot b o e n hb (by simp)) (fun b o _ e n=>u.free b o e n (by simp)) (fun b o _ e=>u.there b o e (by simp)) u.tups u.frzs u.tbls (fun m' hm=>by
  obtain⟨o',es',gf,aX,r'⟩:=hm;rw[ho] at aX;cases aX;exact⟨_,es',gf,hL,r'⟩) hok I.bare
theorem Inv.call{g':Array GenState}{t':Nat}{d':Drawn}{ch:jo}(I:Inv X pins σ H s)(u:Un (frs X.stack) ch H H' s.heap h')(hok:HOk X.prog X.w H' h')(hg:AllBare g')
  (bC: ∀b∈ch,(b∈X.ex\/X.s₀.heap.objs.size<=b)/\b≠X.env.locals/\(∀x c,X.env.cells.lookup x=some c->c≠b)/\ ∀p∈X.pn++pins,p.1≠b):
  Inv X pins σ H' {s with heap:=h',gens:=g',drawn:=d',toks:=t'}:=by
 obtain⟨m,⟨o,es,ep,ho,r⟩,_⟩:=id I.loc;obtain⟨sl,hL⟩:=u.any ho I.free fun z=>(bC _ z).2.1 rfl
 exact I.step (ch:=ch) bC (fun b o hL hb hc e n=>u.keep b o e n (fun z=>(lq.mp (I.stkSub b z)).elim hL hb) hc) (fun b o _ _ hc e n=>u.any e n hc) (fun b o hc e n=>u.free b o e n hc) (fun b o hc e=>u.there b o e hc) u.tups u.frzs u.tbls (fun m' hm=>by
  obtain⟨o',es',gf,aX,r'⟩:=hm;rw[ho] at aX;cases aX;exact⟨_,es',gf,hL,r'⟩) hok hg
theorem Inv.turned{t':Nat}{it:gm}(I:Inv X pins σ H s)(k: ∀b o,b≠it->s.heap.get? b=some o->h'.get? b=some o)(hn:H it=none)(hL:it≠X.env.locals)
  (h1:it∈X.ex\/X.s₀.heap.objs.size<=it)(h2: ∀x c,X.env.cells.lookup x=some c->c≠it)(h3: ∀p∈X.pn++pins,p.1≠it):Inv X pins σ H {s with heap:=h',toks:=t'}:=by
 have nit: ∀b u,H b=some u->b≠it:=fun b u e z=>by rw[z,hn] at e;cases e
 refine I.step (g':=s.gens) (d':=s.drawn) (ch:=[it]) (fun b hb=>?_) (fun b o _ _ hc e _=>k b o (fun z=>hc (by simp[z])) e) (fun b o _ _ hc e _=>⟨o.slots,k b o (fun z=>hc (by simp[z])) e⟩) (fun _ _ _ _ n=>n)
  (fun b o hc e=>⟨o,k b o (fun z=>hc (by simp[z])) e⟩) (fun _ _ e=>e) (fun _ _ _ e=>e) (fun b ps e=>⟨#[],by rw[e];simp⟩) (fun m hm=>?_) (fun b u e=>?_) I.bare
 ·have e:b=it:=by simpa using hb
  subst e;exact⟨h1,hL,h2,h3⟩
 ·obtain⟨o,es,ep,ho,r⟩:=hm;exact⟨o,es,ep,k _ o (mC hL) ho,r⟩
 ·refine(I.hok b u e).stay (fun c v hc q=>k c v ?_ q) (fun _ q=>q) fun _ _ q=>q;rcases hc with z|z
  ·rw[z];exact nit b u e
  ·exact nit c _ z
theorem Inv.tok(I:Inv X pins σ H s)(t:Nat):Inv X pins σ H {s with toks:=t}:=I.un (h':=s.heap) (t':=t) Un.refl I.hok
theorem Inv.kept{t':Nat}(I:Inv X pins σ H s)(k: ∀b u,s.heap.get? b=some u->h'.get? b=some u):Inv X pins σ H {s with heap:=h',toks:=t'}:=I.un (Un.kept k) (I.hok.kept k)
theorem Inv.laid{a:gm}{o:HO}{t':Nat}(I:Inv X pins σ H s)(k: ∀b u,s.heap.get? b=some u->h'.get? b=some u)(hp:s.heap.objs.size<=a)(new:ObjOk X.prog X.w (upd H a o) h' a o):
  Inv X pins σ (upd H a o) {s with heap:=h',toks:=t'}:=I.un (Un.laid k hp (I.hok.fresh hp)) (I.hok.laid k hp new)
theorem Inv.write{x e:gm}{o:HO}{t':Nat}(I:Inv X pins σ H s)(mu:Mut (H x))(he:e=x\/H e=some (.own x))(k: ∀b u,b≠e->s.heap.get? b=some u->h'.get? b=some u)(df: ∃u,h'.get? e=some u)
  (new:ObjOk X.prog X.w (upd H x o) h' x o):Inv X pins σ (upd H x o) {s with heap:=h',toks:=t'}:=I.un (Un.write mu he k df) (I.hok.write mu he k df new)
theorem Inv.pins_of{pins':gZ}(I:Inv X pins σ H s)(h: ∀p∈pins',s.heap.get? p.1=some p.2/\H p.1=none/\p.1≠X.env.locals/\p.1∉X.fs/\ ∀v,p.2.data≠ .cell v):Inv X pins' σ H s:=
 ⟨I.ok,I.os,I.bare,I.base,I.loc,I.cell,I.free,I.freeC,fun p hp=>(nu.mp hp).elim (fun z=>I.pin p (Ip _ z)) (h p),I.hok,I.len⟩
theorem xH{N:gT}(hN:N.Nodup){i j:Nat}{x:Str}(a:N[i]?=some x)(b:N[j]?=some x):i=j:=by
 obtain⟨h1,e1⟩:=pQ.mp a;obtain⟨h2,e2⟩:=pQ.mp b;exact(List.getElem_inj hN).mp (e1.trans e2.symm)
theorem GB{M:Model}{A:gG}{E:hV}{i:Nat}{x:Str}{v:V}{u:gy}{Q:Unit->Shared->Prop}(I:Inv X pins σ H s)(hN:X.N.Nodup)(hi:X.N[i]?=some x)(hx:Loc X.env.scope x)(r:RelV v u)
  (h: ∀s',Inv X pins (σ.set i (some v)) H s'->(∃a,Heap.SameBut a s.heap s'.heap/\(a=X.env.locals\/X.env.cells.lookup x=some a))->Q () s')(hf:X.fn x=true\/X.env.scope.names.lookup x=some .local:=by first|exact .inl rfl|exact .inr rfl|assumption):wpAny M A (storeName X.env x u) Q E s:=by
 obtain⟨m,hn,hl⟩:=id I.loc;have bK:(X.env.scope.kind== .class||(X.env.scope.kind== .module&&X.env.locals !=X.env.globals))=false:=by rw[I.ok.kind];rfl
 have eK:i<σ.length:=by rw[I.len];exact(pQ.mp hi).1
 have cne:=I.cne
 have tracked: ∀{a:gm} {h':gL},(∃o,s.heap.get? a=some o/\H a=none)->Heap.SameBut a s.heap h'->HOk X.prog X.w H h':=fun {a h'} ha hs b ob e=>by
  obtain⟨_,_,m8⟩:=ha;refine(I.hok b ob e).stay (fun c w' hc q=>(hs.2 c ?_).trans q) (fun _ q=>q) fun _ _ q=>q;rintro rfl;rcases hc with rfl|hc
  ·rw[m8] at e;cases e
  ·rw[m8] at hc;cases hc
 rcases hx with hk|hk
 ·refine Io hk hn (fun h' fA hs=>?_) bK;obtain⟨oL,_,_,hoL,_⟩:=id hn;refine h _ ⟨I.ok,I.os,I.bare,⟨fun b o e n hb hx=>?_,fun b o e n hb hx=>?_,I.base.free,fun b o e hx=>?_,I.base.tups,I.base.frzs,I.base.tbls⟩,⟨_,fA,fun j y v' e1 e2 e3=>?_⟩,fun y c e=>?_,I.free,I.freeC,fun p hp=>?_,tracked ⟨oL,hoL,I.free⟩ hs,by simpa using I.len⟩ ⟨_,hs,.inl rfl⟩
  ·exact(hs.2 b (jy (lK (iq e) I.ok.above))).trans (I.base.keep b o e n hb hx)
  ·obtain⟨sl,e1⟩:=I.base.slot b o e n hb hx;exact⟨sl,(hs.2 b (jy (lK (iq e) I.ok.above))).trans e1⟩
  ·obtain⟨o',e1⟩:=I.base.there b o e hx;exact⟨o',(hs.2 b (jy (lK (iq e) I.ok.above))).trans e1⟩
  ·by_cases hj:j=i
   ·subst hj;rw[hi] at e1;cases e1;rw[lJ eK] at e2;cases e2;exact⟨u,r,.inl ⟨hk,by simp⟩⟩
   ·rw[mQ (mC hj)] at e2;obtain⟨u',r',q⟩:=hl j y v' e1 e2 e3;refine⟨u',r',?_⟩;rcases q with⟨k,e⟩|⟨k,c,e,z⟩
    ·refine .inl ⟨k,?_⟩;have:y≠x:=fun e=>hj (xH hN e1 (e▸hi));simp[this,e]
    ·exact .inr ⟨k,c,e,z.sameBut hs (cne y c e)⟩
  ·obtain⟨w',z⟩:=I.cell y c e;exact⟨w',z.sameBut hs (cne y c e)⟩
  ·obtain⟨e,n,ne,nf,d⟩:=I.pin p hp;exact⟨(hs.2 p.1 ne).trans e,n,ne,nf,d⟩
 ·have cE:X.fn x=true:=by
   rcases hf with z|z
   ·exact z
   ·rw[z] at hk;cases hk
  obtain⟨c,hc⟩:=I.ok.has x (.inl hk);obtain⟨w',z⟩:=I.cell x c hc;refine wpAny_storeName_cell I.ok.kind hk hc z (fun h' bU hs=>?_);obtain⟨oc,dF,hocd⟩:=id z;refine h {s with heap:=h'} ⟨I.ok,I.os,I.bare,⟨fun b o e n hb hx=>?_,fun b o e n hb hx=>?_,I.base.free,fun b o e hx=>?_,I.base.tups,I.base.frzs,I.base.tbls⟩,⟨m,hn.sameBut hs (mC (cne x c hc)),fun j y v' e1 e2 e3=>?_⟩,fun y c' e=>?_,I.free,I.freeC,fun p hp=>?_,tracked ⟨oc,dF,I.freeC x c hc⟩ hs,by simpa using I.len⟩ ⟨c,hs,.inr hc⟩
  ·exact(hs.2 b (jy (lK (iq e) (I.ok.cab x c cE hc)))).trans (I.base.keep b o e n hb hx)
  ·obtain⟨sl,e1⟩:=I.base.slot b o e n hb hx;exact⟨sl,(hs.2 b (jy (lK (iq e) (I.ok.cab x c cE hc)))).trans e1⟩
  ·obtain⟨o',e1⟩:=I.base.there b o e hx;exact⟨o',(hs.2 b (jy (lK (iq e) (I.ok.cab x c cE hc)))).trans e1⟩
  ·by_cases hj:j=i
   ·subst hj;rw[hi] at e1;cases e1;rw[lJ eK] at e2;cases e2;exact⟨u,r,.inr ⟨.inl hk,c,hc,bU⟩⟩
   ·rw[mQ (mC hj)] at e2;obtain⟨u',r',q⟩:=hl j y v' e1 e2 e3;refine⟨u',r',?_⟩;rcases q with q|⟨k,c',e,z'⟩
    ·exact .inl q
    ·refine .inr ⟨k,c',e,z'.sameBut hs ?_⟩;rintro rfl;exact hj (xH hN e1 (I.ok.inj _ _ _ e hc▸hi))
  ·by_cases eL:c'=c
   ·subst eL;exact⟨_,bU⟩
   ·obtain⟨w2,z2⟩:=I.cell y c' e;exact⟨w2,z2.sameBut hs eL⟩
  ·obtain⟨e,n,ne,nf,d⟩:=I.pin p hp;refine⟨(hs.2 p.1 ?_).trans e,n,ne,nf,d⟩;intro q;rw[q,dF] at e;have q':oc=p.2:=iC e;exact d w' (by rw[<-q'];exact hocd)
theorem pX{M:Model}{A:gG}{E:hV}{i:Nat}{x:Str}{v:V}{u:gy}{Q:Unit->Shared->Prop}(I:Inv X pins σ H s)(hN:X.N.Nodup)(hi:X.N[i]?=some x)(hx:Loc X.env.scope x)(r:RelV v u)
  (h: ∀s',Inv X pins (σ.set i (some v)) H s'->Q () s')(hf:X.fn x=true\/X.env.scope.names.lookup x=some .local:=by first|exact .inl rfl|exact .inr rfl|assumption):wpAny M A (storeName X.env x u) Q E s:=
 GB I hN hi hx r (fun s' I' _=>h s' I') hf
theorem Inv.call'{s':gu}{ch:jo}(I:Inv X pins σ H s)(ho:s'.os=s.os)(u:Un (frs X.stack) ch H H' s.heap s'.heap)(hok:HOk X.prog X.w H' s'.heap)(hg:AllBare s'.gens)
  (bC: ∀b∈ch,(b∈X.ex\/X.s₀.heap.objs.size<=b)/\b≠X.env.locals/\(∀x c,X.env.cells.lookup x=some c->c≠b)/\ ∀p∈X.pn++pins,p.1≠b):Inv X pins σ H' s':=by
 obtain⟨h',g',d',t',o'⟩:=s';have e:o'=s.os:=ho;subst e;exact I.call (g':=g') (t':=t') (d':=d') u hok hg bC
end
abbrev XK:=Value->Option Addr->Hp->Prop
abbrev St:=List (Option V)
abbrev VK:=V->Hp->Prop
abbrev TE:=St->Hp->VK->Prop
abbrev TT:=St->Hp->(Bool->Hp->Prop)->Prop
abbrev TA:=St->Hp->(List V->Hp->Prop)->Prop
structure Ends where
 nx:St->Hp->Prop
 rt:VK
 bk:St->Hp->Prop:=fun _ _=>False
 ct:St->Hp->Prop:=fun _ _=>False
abbrev TS:=Ends->St->Hp->Prop
def EP(X:Cx)(pins:gZ)(σ:St)(Q:VK)(u:gy)(s':gu):Prop:= ∃v H',Inv X pins σ H' s'/\RelV v u/\Q v H'
def TP(X:Cx)(pins:gZ)(σ:St)(Q:Bool->Hp->Prop)(b:Bool)(s':gu):Prop:= ∃H',Inv X pins σ H' s'/\Q b H'
def AP(X:Cx)(pins:gZ)(σ:St)(Q:List V->Hp->Prop)(us:ir)(s':gu):Prop:= ∃vs H',Inv X pins σ H' s'/\Vals vs us/\Q vs H'
def SP(X:Cx)(pins:gZ)(D:Ends)(f:Flow)(s':gu):Prop:=
 match f with
 | .next=> ∃σ' H',Inv X pins σ' H' s'/\D.nx σ' H'
 | .brk=> ∃σ' H',Inv X pins σ' H' s'/\D.bk σ' H'
 | .cont=> ∃σ' H',Inv X pins σ' H' s'/\D.ct σ' H'
 | .ret u=> ∃v σ' H',Inv X pins σ' H' s'/\RelV v u/\D.rt v H'
def PE(X:Cx)(e:gx)(t:TE):Prop:=
 ∀(pins:gZ) (s:gu) (σ:St) (H:Hp) (Q:VK),Inv X pins σ H s->t σ H Q->wpAny (model X.prog X.w) X.A (eval e X.env) (EP X pins σ Q) X.xe s
def PT(X:Cx)(e:gx)(t:TT):Prop:=
 ∀(pins:gZ) (s:gu) (σ:St) (H:Hp) (Q:Bool->Hp->Prop),Inv X pins σ H s->t σ H Q->wpAny (model X.prog X.w) X.A (isTrue e X.env (eval e X.env)) (TP X pins σ Q) X.xe s
def PW(X:Cx)(e:gx)(t:TT):Prop:=
 ∀(whole:Sem Value) (pins:gZ) (s:gu) (σ:St) (H:Hp) (Q:Bool->Hp->Prop),Inv X pins σ H s->t σ H Q->wpAny (model X.prog X.w) X.A (isTrue e X.env whole) (TP X pins σ Q) X.xe s
theorem PW.pt{X:Cx}{e:gx}{t:TT}(h:PW X e t):PT X e t:=h _
def PA(X:Cx)(es:jf)(t:TA):Prop:=
 ∀(pos:Pos) (pins:gZ) (s:gu) (σ:St) (H:Hp) (Q:List V->Hp->Prop),Inv X pins σ H s->t σ H Q->wpAny (model X.prog X.w) X.A (spliced (backTo pos (starEach es X.env))) (AP X pins σ Q) X.xe s
def PS(X:Cx)(st:Stmt)(t:TS):Prop:=
 ∀(pins:gZ) (s:gu) (σ:St) (H:Hp) (D:Ends),Inv X pins σ H s->t D σ H->wpAny (model X.prog X.w) X.A (exec st X.env) (SP X pins D) X.xe s
def PSs(X:Cx)(st:List Stmt)(t:TS):Prop:=
 ∀(pins:gZ) (s:gu) (σ:St) (H:Hp) (D:Ends),Inv X pins σ H s->t D σ H->wpAny (model X.prog X.w) X.A (execs st X.env) (SP X pins D) X.xe s
theorem thn{α:Type}{t:Sem α}{Q Q':α->Shared->Prop}{M:Model}{A:gG}{E:hV}{s:gu}(h:wpAny M A t Q E s)(hQ: ∀a s,Q a s->Q' a s):wpAny M A t Q' E s:=nA h hQ fun _ _ x=>x
section
variable {X:Cx}
def Sg(i:Nat):TE:=fun σ H Q=> ∃v,σ[i]?=some (some v)/\Q v H
noncomputable def tC(v:V):TE:=fun _ H Q=>Q v H
theorem xq{i:Nat}{x:Str}{pos:Pos}(hN:X.N[i]?=some x)(hv:Vis X.env.scope x)(hd:(x==("__debug__":Str))=false:=by decide)(r9:(x==("__classdict__":Str))=false:=by decide):PE X (.Name x pos) (Sg i):=by
 intro pins s σ H Q I h;obtain⟨v,e,h⟩:=h;obtain⟨m,hn,hl⟩:=I.loc;obtain⟨u,r,l⟩:=hl i x v hN e hv;have fin:EP X pins σ Q u s:=⟨v,H,I,r,h⟩
 rcases l with⟨hk,hm⟩|⟨hk,c,hc,l6⟩
 ·exact wpAny_Name (wpAny_loadName_local I.ok.kind hk hn hm fin) hd
 ·rcases hk with hk|hk
  ·exact wpAny_Name (wpAny_loadName_cell I.ok.kind hk hc l6 fin) hd
  ·exact wpAny_Name (wpAny_loadName_free I.ok.kind hk hc l6 fin r9) hd
theorem D8{i j pos}:PE X (.Constant (.int i) j pos) (tC (.int i)):=fun _ _ _ H _ I h=>wpAny_Constant_int ⟨.int i,H,I.tok _,⟨_,rfl⟩,h⟩
theorem Q3{b j pos}:PE X (.Constant (.bool b) j pos) (tC (.bl b)):=fun _ _ _ H _ I h=>Constant_bool ⟨.bl b,H,I,rfl,h⟩
theorem OL{j pos}:PE X (.Constant .none j pos) (tC .non):=fun _ _ _ H _ I h=>Constant_none ⟨.non,H,I,rfl,h⟩
theorem OH{x j pos}:PE X (.Constant (.str x) j pos) (tC (.str x)):=fun _ _ _ H _ I h=>Aq ⟨.str x,H,I.tok _,⟨_,rfl⟩,h⟩
def Gl(X:Cx)(x:Str):Prop:=X.env.kindOf x=some .globalImplicit
theorem tN{E:hV}{pins:gZ}{s:gu}{σ:St}{H:Hp}{x:Str}{u:gy}{pos:Pos}{Q:hV}(I:Inv X pins σ H s)(hg:Gl X x)(hm:X.mg x=some u)(h:Q u s)
  (hd:(x==("__debug__":Str))=false:=by decide):wpAny (model X.prog X.w) X.A (eval (.Name x pos) X.env) Q E s:=
 Im I.ok.kind hg (Calls.loadGlobal_global (by rw[I.ok.glob];exact I.mod.glob.keeps I.bk) hm h) hd
theorem xR{E:hV}{pins:gZ}{s:gu}{σ:St}{H:Hp}{x:Str}{u:gy}{pos:Pos}{Q:hV}(I:Inv X pins σ H s)(hg:Gl X x)(hm:X.mg x=none)(hv:bootBuiltins x=some u)(h:Q u s)
  (hn:x≠"__name__":=by decide)(hd:(x==("__debug__":Str))=false:=by decide):wpAny (model X.prog X.w) X.A (eval (.Name x pos) X.env) Q E s:=by
 obtain⟨mb,h1,h2⟩:=I.mod.blt;exact Im I.ok.kind hg (Calls.loadGlobal_builtin (by rw[I.ok.glob];exact I.mod.glob.keeps I.bk) hm (by rw[I.ok.blt];exact h1.keeps I.bk) ((h2 x hn).trans hv) h) hd
theorem AH{x:Str}{v:V}{u:gy}{pos:Pos}(hg:Gl X x)(hm:X.mg x=some u)(r:RelV v u)(hd:(x==("__debug__":Str))=false:=by decide):PE X (.Name x pos) (tC v):=
 fun _ _ _ H _ I h=>tN I hg hm ⟨v,H,I,r,h⟩ hd
theorem FK{x:Str}{v:V}{u:gy}{pos:Pos}(hg:Gl X x)(hm:X.mg x=none)(hv:bootBuiltins x=some u)(r:RelV v u)(hn:x≠"__name__":=by decide)(hd:(x==("__debug__":Str))=false:=by decide):PE X (.Name x pos) (tC v):=
 fun _ _ _ H _ I h=>xR I hg hm hv ⟨v,H,I,r,h⟩ hn hd
def t2I(ta tb:TE)(k:Int->Int->Hp->Prop):St->Hp->Prop:=fun σ H=>ta σ H fun x H1=>tb σ H1 fun y H2=> ∃i j,x= .int i/\y= .int j/\k i j H2
variable {a b:gx}{ta tb:TE}{pos:Pos}
noncomputable def tCmp(p:Int->Int->Bool)(ta tb:TE):TE:=fun σ H Q=>t2I ta tb (fun i j H2=>Q (.bl (p i j)) H2) σ H
def tB(t:TE):TT:=fun σ H Q=>t σ H fun x H1=> ∃c,x= .bl c/\Q c H1
theorem Oq{e:gx}{t:TE}(h:PE X e t)(he: ∀whole,isTrue e X.env whole=(do let v <-whole;standAt e.pos;holding [v] (truthy v)):=by intro _;rfl):PT X e (tB t):=by
 intro pins s σ H Q I hw;refine isTrue_plain (thn (h pins s σ H _ I hw) fun v s1 ⟨x,H1,I1,r1,q1⟩=>?_) (he _);obtain⟨d,rfl,q⟩:=q1;cases r1;exact vr ⟨H1,I1,q⟩
variable {tA tB':TT}{hG:jf}
noncomputable def tOr(t u:TT):TT:=fun σ H Q=>t σ H fun c H1=>if c=true then Q true H1 else u σ H1 Q
noncomputable def tNot(t:TT):TT:=fun σ H Q=>t σ H fun c H1=>Q (!c) H1
theorem Oo(ha:PT X a tA):PW X (.BoolOp .Or [a] pos) tA:=by
 intro wh pins s σ H Q I h;refine isTrue_or (thn (ha pins s σ H Q I h) fun c s1 e=>?_)
 cases c with
 |false=>exact isTrue_or_nil e
 |true=>exact e
theorem QV(ha:PT X a tA)(hb:PW X (.BoolOp .Or (b::hG) pos) tB'):PW X (.BoolOp .Or (a::b::hG) pos) (tOr tA tB'):=by
 intro wh pins s σ H Q I h;refine isTrue_or (thn (ha pins s σ H _ I h) fun c s1 ⟨H1,I1,q1⟩=>?_)
 cases c with
 |true=>exact⟨H1,I1,q1⟩
 |false=>exact hb wh pins s1 σ H1 Q I1 q1
theorem Ot(ha:PT X a tA):PT X (.UnaryOp .Not a pos) (tNot tA):=by
 intro pins s σ H Q I h;exact isTrue_not (ha pins s σ H (fun c H1=>Q (!c) H1) I h)
def Qq(ta tb:TE):TE:=fun σ H Q=>ta σ H fun x H1=> ∃c,x= .bl c/\if c=true then tb σ H1 Q else Q (.bl false) H1
def Qh(ta:TE):TE:=fun σ H Q=>ta σ H fun x H1=> ∃c,x= .bl c/\Q (.bl (!c)) H1
theorem OI{op}{t:TE}(h:PE X a t):PE X (.BoolOp op [a] pos) t:=fun pins s σ H Q I hw=>BoolOp_one (h pins s σ H Q I hw)
theorem ON(ha:PE X a ta)(hb:PE X (.BoolOp .And (b::hG) pos) tb):PE X (.BoolOp .And (a::b::hG) pos) (Qq ta tb):=by
 intro pins s σ H Q I h;refine BoolOp_and (thn (ha pins s σ H _ I h) fun v s1 ⟨x,H1,I1,r1,q1⟩=>?_);obtain⟨c,rfl,q1⟩:=q1;cases r1;refine vr ?_
 cases c with
 |true=>exact hb pins s1 σ H1 Q I1 q1
 |false=>exact⟨.bl false,H1,I1,rfl,q1⟩
theorem OJ(ha:PE X a ta):PE X (.UnaryOp .Not a pos) (Qh ta):=by
 intro pins s σ H Q I h;refine UnaryOp_ (thn (ha pins s σ H _ I h) fun v s1 ⟨x,H1,I1,r1,q1⟩=>?_);obtain⟨c,rfl,q1⟩:=q1;cases r1;exact not_of (vr ⟨.bl (!c),H1,I1,rfl,q1⟩)
noncomputable def tIf(t:TT)(ta tb:TE):TE:=fun σ H Q=>t σ H fun c H1=>if c=true then ta σ H1 Q else tb σ H1 Q
theorem JE{c:gx}(hc:PT X c tA)(ha:PE X a ta)(hb:PE X b tb):PE X (.IfExp c a b pos) (tIf tA ta tb):=by
 intro pins s σ H Q I h;refine wpAny_IfExp (thn (hc pins s σ H _ I h) fun d s1 ⟨H1,I1,q1⟩=>?_)
 cases d with
 |true=>exact ha pins s1 σ H1 Q I1 q1
 |false=>exact hb pins s1 σ H1 Q I1 q1
end
def SqL(K:gQ)(H:Hp)(a:gm)(xs:List V):Prop:=
 Rd H a (.lst xs)\/
  ∃(o:Obj) (b6:kg) (n:Nat),K.lookup a=some o/\o.cls= .type "list"/\o.dict=none/\o.data= .seq b6 n/\b6.size<=sizeLine/\Vals xs b6.toList
def SqT(K:gQ)(H:Hp)(a:gm)(xs:List V):Prop:=
 Rd H a (.tup xs)\/
  ∃(o:Obj) (b6:kg) (n:Nat),K.lookup a=some o/\o.cls= .type "tuple"/\o.data= .seq b6 n/\b6.size<=sizeLine/\Vals xs b6.toList
noncomputable def TY:Value->Option V
 | .none=>some .non
 | .bool b=>some (.bl b)
 | .int i _=>some (.int i)
 | .str x _=>some (.str x)
 | .bytes b _=>some (.byt b)
 | .float b _=>some (.flt b)
 | .ref a=>some (.ref a)
 | .type n=>some (.ty n)
 |_=>none
theorem RelV.abs{x:V}{u:gy}(r:RelV x u):TY u=some x:=by
 cases x with
 |non=>cases r;rfl
 |bl _=>cases r;rfl
 |int _=>obtain⟨t,rfl⟩:=r;rfl
 |str _=>obtain⟨t,rfl⟩:=r;rfl
 |byt _=>obtain⟨t,rfl⟩:=r;rfl
 |flt _=>obtain⟨t,rfl⟩:=r;rfl
 |ref _=>cases r;rfl
 |ty _=>cases r;rfl
theorem RelV.inj{x y:V}{u:gy}(r:RelV x u)(q:RelV y u):x=y:=iC (r.abs.symm.trans q.abs)
theorem Vals.inj: ∀{xs ys:List V} {us:ir},Vals xs us->Vals ys us->xs=ys
 |_,_,_,.nil,.nil=>rfl
 |_,_,_,.cons r t,.cons r' t'=>by rw[r.inj r',Vals.inj t t']
section
variable {X:Cx}{pins:gZ}{σ:St}{H:Hp}{s:gu}{a:gm}{xs ys:List V}
theorem SqL.of{K:gQ}(h:H a=some (.lst xs)):SqL K H a xs:= .inl (.inl h)
theorem Inv.list(I:Inv X pins σ H s)(h:SqL X.K H a xs): ∃b6:List Value,Vals xs b6/\PlainL s.heap a b6.toArray/\xs.length<=sizeLine:=by
 rcases h with h|⟨o,b6,n,hk,hc,hd,hs,hz,r⟩
 ·obtain⟨z,b6,n,r,e⟩:=h.ok I.hok;exact⟨b6,r,⟨_,n,e,rfl,rfl,rfl⟩,z⟩
 ·refine⟨b6.toList,r,⟨o,n,I.kIn a o hk,hc,hd,by simpa using hs⟩,?_⟩;have e:=r.length;simp only[jv] at e;omega
theorem Inv.tuple(I:Inv X pins σ H s)(h:SqT X.K H a xs): ∃b6:List Value,Vals xs b6/\IsTup s.heap a b6.toArray/\xs.length<=sizeLine:=by
 rcases h with h|⟨o,b6,n,hk,hc,hs,hz,r⟩
 ·obtain⟨z,b6,r,p⟩:=h.ok I.hok;exact⟨b6,r,p,z⟩
 ·refine⟨b6.toList,r,⟨o,I.kIn a o hk,hc,n,by simpa using hs⟩,?_⟩;have e:=r.length;simp only[jv] at e;omega
theorem Inv.list_inj(I:Inv X pins σ H s)(h:SqL X.K H a xs)(h':SqL X.K H a ys):xs=ys:=by
 obtain⟨b6,r,⟨o,n,e,_,_,d⟩,_⟩:=I.list h;obtain⟨its',r',⟨o',n',e',_,_,d'⟩,_⟩:=I.list h';rw[e] at e';cases e';rw[d] at d';injection d' with d1 _
 have:b6=its':=by simpa using oj Array.toList d1
 subst this;exact r.inj r'
theorem Inv.tuple_inj(I:Inv X pins σ H s)(h:SqT X.K H a xs)(h':SqT X.K H a ys):xs=ys:=by
 obtain⟨b6,r,⟨o,e,_,n,d⟩,_⟩:=I.tuple h;obtain⟨its',r',⟨o',e',_,n',d'⟩,_⟩:=I.tuple h';rw[e] at e';cases e';rw[d] at d';injection d' with d1 _
 have:b6=its':=by simpa using oj Array.toList d1
 subst this;exact r.inj r'
end
abbrev Cx.wish(X:Cx)(E:hV):Cx:={X with xe:=E}
abbrev Cx.nox(X:Cx):Cx:=X.wish fun _ _=>False
theorem Cx.Ok.wish{X:Cx}(ok:X.Ok)(E:hV):(X.wish E).Ok:=
 ⟨ok.mod,ok.kind,ok.glob,ok.blt,ok.above,ok.inj,ok.has,ok.cab,ok.hd,ok.frames,ok.stk,ok.exf,ok.bs,ok.bsz,ok.noex,ok.exfs,ok.funs,ok.frf⟩
theorem Cx.Ok.unwish{X:Cx}{E:hV}(ok:(X.wish E).Ok):X.Ok:=
 ⟨ok.mod,ok.kind,ok.glob,ok.blt,ok.above,ok.inj,ok.has,ok.cab,ok.hd,ok.frames,ok.stk,ok.exf,ok.bs,ok.bsz,ok.noex,ok.exfs,ok.funs,ok.frf⟩
section
variable {X:Cx}{pins:gZ}{σ:St}{H:Hp}{s:gu}{E:hV}
theorem Inv.wish(I:Inv X pins σ H s)(E:hV):Inv (X.wish E) pins σ H s:=⟨I.ok.wish E,I.os,I.bare,I.base,I.loc,I.cell,I.free,I.freeC,I.pin,I.hok,I.len⟩
theorem Inv.unwish(I:Inv (X.wish E) pins σ H s):Inv X pins σ H s:=⟨I.ok.unwish,I.os,I.bare,I.base,I.loc,I.cell,I.free,I.freeC,I.pin,I.hok,I.len⟩
theorem SP.unwish{D:Ends}{f:Flow}{s':gu}(h:SP (X.wish E) pins D f s'):SP X pins D f s':=by
 cases f with
 |next=>obtain⟨σ',H',I,q⟩:=h;exact⟨σ',H',I.unwish,q⟩
 |brk=>obtain⟨σ',H',I,q⟩:=h;exact⟨σ',H',I.unwish,q⟩
 |cont=>obtain⟨σ',H',I,q⟩:=h;exact⟨σ',H',I.unwish,q⟩
 |ret u=>obtain⟨v,σ',H',I,r,q⟩:=h;exact⟨v,σ',H',I.unwish,r,q⟩
theorem PSs.nox{st:List Stmt}{t:TS}(h:PSs X.nox st t):PSs X st t:=fun pins s σ H D I hw=>
 nA (h pins s σ H D (I.wish _) hw) (fun _ _ q=>q.unwish) fun _ _ z=>False.elim z
end
section
variable {X:Cx}{st:Stmt}{hG:List Stmt}{t u:TS}{e:gx}{te:TE}{pos:Pos}
noncomputable def Qi:TS:=fun D σ H=>D.nx σ H
noncomputable def Sj(t u:TS):TS:=fun D σ H=>t {D with nx:=u D} σ H
theorem FD:PSs X [] Qi:=fun _ _ σ H _ I h=>wI ⟨σ,H,I,h⟩
theorem oD(h1:PS X st t)(h2:PSs X hG u):PSs X (st::hG) (Sj t u):=by
 intro pins s σ H D I h;refine wpAny_execs_cons (thn (h1 pins s σ H {D with nx:=u D} I h) fun f s1 q=>?_)
 cases f with
 |next=>
  obtain⟨σ',H',I',q⟩:=q;exact h2 pins s1 σ' H' D I' q
 |ret v=>exact q
 |brk=>exact q
 |cont=>exact q
theorem Inv.quiet{pins:gZ}{σ:St}{H:Hp}{s:gu}(I:Inv X pins σ H s):interactive X.env=false:=by simp[interactive,I.ok.kind]
noncomputable def Qk(te:TE):TS:=fun D σ H=>te σ H fun _ H1=>D.nx σ H1
theorem FE(he:PE X e te)(hs:swapsWith e none pos.line X.env=pure false:=by rfl):PS X (.Expr e pos) (Qk te):=by
 intro pins s σ H D I h;exact wpAny_Expr_any (thn (he pins s σ H _ I h) fun v s1 ⟨x,H1,I1,r1,q1⟩=>⟨σ,H1,I1,q1⟩) I.quiet hs
noncomputable def Sm(te:TE):TS:=fun D σ H=>te σ H D.rt
theorem Jo(he:PE X e te):PS X (.Return (some e) pos) (Sm te):=by
 intro pins s σ H D I h;exact wpAny_Return_some (thn (he pins s σ H _ I h) fun v s1 ⟨x,H1,I1,r1,q1⟩=>⟨x,σ,H1,I1,r1,q1⟩)
noncomputable def Su(c:TT)(t u:TS):TS:=fun D σ H=>c σ H fun b H1=>if b=true then t D σ H1 else u D σ H1
theorem Nc{c:gx}{a b:List Stmt}{tc:TT}(hc:PT X c tc)(ha:PSs X a t)(hb:PSs X b u):PS X (.If c a b pos) (Su tc t u):=by
 intro pins s σ H D I h;refine wpAny_If (thn (hc pins s σ H _ I h) fun d s1 ⟨H1,I1,q1⟩=>?_)
 cases d with
 |true=>exact ha pins s1 σ H1 D I1 q1
 |false=>exact hb pins s1 σ H1 D I1 q1
end
abbrev TG:=V->St->Hp->(St->Hp->Prop)->Prop
def PG(X:Cx)(target:gx)(t:TG):Prop:=
 ∀(pins:gZ) (s:gu) (σ:St) (H:Hp) (v:V) (u:gy) (Q:St->Hp->Prop),Inv X pins σ H s->RelV v u->t v σ H Q->
  wpAny (model X.prog X.w) X.A (assign target X.env u) (fun _ s'=> ∃σ' H',Inv X pins σ' H' s'/\Q σ' H') X.xe s
abbrev P0:=V->V->V->Hp->(Hp->Prop)->Prop
def RF(X:Cx)(t:P0):Prop:=
 ∀(pins:gZ) (s:gu) (σ:St) (H:Hp) (o i v:V) (ov iv u:gy) (Q:Hp->Prop),Inv X pins σ H s->RelV o ov->RelV i iv->RelV v u->t o i v H Q->
  wpAny (model X.prog X.w) X.A (setItem ov iv u) (fun _ s'=> ∃H',Inv X pins σ H' s'/\Q H') X.xe s
section
variable {X:Cx}{pos:Pos}
noncomputable def Nj(i:Nat):TG:=fun v σ H Q=>Q (σ.set i (some v)) H
theorem Mb{i:Nat}{x:Str}(hN:X.N.Nodup)(hi:X.N[i]?=some x)(hx:Loc X.env.scope x)(hf:X.fn x=true\/X.env.scope.names.lookup x=some .local:=by first|exact .inl rfl|exact .inr rfl|assumption):PG X (.Name x pos) (Nj i):=by
 intro pins s σ H v u Q I r h;exact wpAny_assign_Name (pX I hN hi hx r (fun s' I'=>⟨_,H,I',h⟩) hf)
noncomputable def gSub(to ti:TE)(t:P0):TG:=fun v σ H Q=>to σ H fun o H1=>ti σ H1 fun i H2=>t o i v H2 fun H3=>Q σ H3
theorem OF{o i:gx}{to ti:TE}{t:P0}(ho:PE X o to)(hi:PE X i ti)(hs:RF X t)
  (ha: ∀v,assign (.Subscript o i pos) X.env v=(do
   let ov <-holding [v] (eval o X.env)
   let iv <-holding [v,ov] (eval i X.env)
   standAt pos
   holding [v,ov,iv] (setItem ov iv v)
   release [v,ov,iv] []):=by intro _;rfl):PG X (.Subscript o i pos) (gSub to ti t):=by
 intro pins s σ H v u Q I r h;rw[ha];refine gw (lY (thn (ho pins s σ H _ I h) fun ov s1 ⟨x,H1,I1,r1,q1⟩=>?_));refine gw (lY (thn (hi pins s1 σ H1 _ I1 q1) fun iv s2 ⟨y,H2,I2,r2,q2⟩=>?_));refine gw (wH (gw (lY (thn (hs pins s2 σ H2 x y v ov iv u _ I2 r1 r2 r q2) fun _ s3 ⟨H3,I3,q3⟩=>?_))));exact wpAny_release ⟨σ,H3,I3,q3⟩
noncomputable def Qp(te:TE)(g:TG):TS:=fun D σ H=>te σ H fun x H1=>g x σ H1 D.nx
theorem OB{tg e:gx}{te:TE}{g:TG}(he:PE X e te)(hg:PG X tg g)(hs:swapsWithSole [tg] e pos.line X.env=pure false:=by rfl)(hw:swappedStores [tg] e X.env=pure none:=by rfl)
  (h1:(assignEach [tg] X.env).map (·.2)=[assign tg X.env]:=by rfl):PS X (.Assign [tg] e pos) (Qp te g):=by
 intro pins s σ H D I h;refine wpAny_Assign_stores (thn (he pins s σ H _ I h) fun v s1 ⟨x,H1,I1,r1,q1⟩=>?_) hs hw;rw[h1];exact thn (hg pins s1 σ H1 x v _ I1 r1 q1) fun _ s2 q=>q
theorem Jn{i:Nat}{x:Str}{e:gx}{te:TE}{pos':Pos}(hN:X.N.Nodup)(hi:X.N[i]?=some x)(hx:Loc X.env.scope x)(he:PE X e te)(hs:swapsWith e (some (.Name x pos')) pos.line X.env=pure false:=by rfl)(hf:X.fn x=true\/X.env.scope.names.lookup x=some .local:=by first|exact .inl rfl|exact .inr rfl|assumption):
  PS X (.Assign [.Name x pos'] e pos) (Qp te (Nj i)):=by
 intro pins s σ H D I h;refine wpAny_Assign_Name (thn (he pins s σ H _ I h) fun v s1 ⟨y,H1,I1,r1,q1⟩=>?_) hs;exact pX I1 hN hi hx r1 (fun s2 I2=>⟨_,H1,I2,q1⟩) hf
def Sn(i j:Nat)(ta:TA):TS:=fun D σ H=>ta σ H fun vs H1=> ∃v w,vs=[v,w]/\D.nx ((σ.set i (some v)).set j (some w)) H1
theorem OA{i j:Nat}{x y:Str}{a b:gx}{ta:TA}{px py pt:Pos}{kt k2 aT}(hc:X.calm=true)(hN:X.N.Nodup)(hi:X.N[i]?=some x)(hj:X.N[j]?=some y)(o4:i≠j)
  (hx:X.env.scope.names.lookup x=some .local)(hy:X.env.scope.names.lookup y=some .local)(ha:PA X [a,b] ta)
  (hw:swappedStores [.Tuple [.Name x px,.Name y py] kt pt] (.Tuple [a,b] k2 aT) X.env=pure (some [x,y]))
  (hs:swapsWithSole [.Tuple [.Name x px,.Name y py] kt pt] (.Tuple [a,b] k2 aT) pos.line X.env=pure false:=by rfl):
  PS X (.Assign [.Tuple [.Name x px,.Name y py] kt pt] (.Tuple [a,b] k2 aT) pos) (Sn i j ta):=by
 intro pins s σ H D I h;rw[exec_Assign_arm];refine gw (wH ?_);rw[hs];refine gw (gA ?_);rw[gC (by decide)];refine gw (Tuple_ (thn (ha _ pins s σ H _ I h) fun us s1 ⟨vs,H1,I1,r1,q1⟩=>?_));obtain⟨v,w,e1,q1⟩:=q1;subst e1
 obtain⟨u1,u2,rfl,rv,aS⟩: ∃u1 u2,us=[u1,u2]/\RelV v u1/\RelV w u2:=by
  cases r1 with
  |cons p q=>
   cases q with
   |cons p' q'=>
    cases q';exact⟨_,_,rfl,p,p'⟩
 refine mB ?_ (by show 2<=sizeLine;decide);have I2:Inv X pins σ H1 {s1 with heap:=s1.heap.push {cls:= .type "tuple",data:= .seq [u1,u2].toArray}}:=I1.kept (t':=s1.toks) fun b o e=>iB _ e;rw[hw];refine gw (gA ?_);show wpAny (model X.prog X.w) X.A (do rule "assign.swapped-stores";let items <-unpackItems (.ref s1.heap.objs.size) 2 none;assignInOrder [fun v=>bindName X.env y v,fun v=>bindName X.env x v] items.reverse;pure Flow.next) _ _ _
 refine gw (uO (gw (unpackItems_tuple (items:= #[u1,u2]) (I.ok.hd hc) (uN s1.heap _) fun h' bx=>?_)));have I3:=I2.kept (h':=h') (t':=s1.toks) fun b o e=>bx b o (jy (iq e)) e;show wpAny _ _ (assignInOrder [fun v=>bindName X.env y v,fun v=>bindName X.env x v] [u2,u1]>>=fun _=>pure Flow.next) _ _ _;refine gw (assignInOrder_cons (DH (pX I3 hN hj (.inl hy) aS (fun s2 I4=>?_) (.inr hy))));refine assignInOrder_cons (DH (pX I4 hN hi (.inl hx) rv (fun s3 I5=>assignInOrder_nil (gA ?_)) (.inr hx)));rw[List.set_comm _ _ (mC o4)] at I5;exact⟨_,H1,I5,q1⟩
def NI(c:TT)(tb:TS):TS:=fun D σ H=> ∃W:Nat->St->Hp->Prop,(∃m,W m σ H)/\ ∀m σ H,W m σ H->
 c σ H fun b H1=>if b=true then ∃N:St->Hp->Prop,(∀σ' H',N σ' H'-> ∃m',m'<m/\W m' σ' H')/\tb {D with nx:=N,ct:=N,bk:=D.nx} σ H1 else D.nx σ H1
theorem Jm{c:gx}{body:List Stmt}{tc:TT}{tb:TS}(hp:PassesOwn (model X.prog X.w) X.A X.env X.xe)(hc:PT X c tc)(hb:PSs X body tb):PS X (.While c body [] pos) (NI tc tb):=by
 intro pins s σ H D I h;obtain⟨W,⟨m0,w0⟩,turn⟩:=h;refine wpAny_While (codeAny_whileLoop (fun n s'=> ∃σ' H',Inv X pins σ' H' s'/\W n σ' H') ?_ m0 ⟨σ,H,I,w0⟩);rintro n s1 ⟨σ1,H1,I1,w1⟩;refine rT hp (thn (hc pins s1 σ1 H1 _ I1 (turn n σ1 H1 w1)) fun b s2 ⟨H2,I2,q2⟩=>?_)
 cases b with
 |true=>
  obtain⟨N,hN,q2⟩:=q2;rw[gz rfl];refine rT hp (thn (hb pins s2 σ1 H2 _ I2 q2) fun f s3 q3=>?_)
  cases f with
  |next=>
   obtain⟨σ3,H3,I3,n3⟩:=q3;obtain⟨m',hm,w3⟩:=hN σ3 H3 n3;exact⟨m',hm,σ3,H3,I3,w3⟩
  |cont=>
   obtain⟨σ3,H3,I3,n3⟩:=q3;obtain⟨m',hm,w3⟩:=hN σ3 H3 n3;exact⟨m',hm,σ3,H3,I3,w3⟩
  |brk=>exact q3
  |ret v=>exact q3
 |false=>
  rw[gC jl];exact wI ⟨σ1,H2,I2,q2⟩
end
structure It where
 go:Nat->Hp->Prop
 yld:Nat->Hp->V->Hp->Prop
 stop:Nat->Hp->Prop
def pH(X:Cx)(pins:gZ)(H:Hp)(b:gm):Prop:=
 H b=none/\b≠X.env.locals/\b∉X.fs/\(b∈X.ex\/X.s₀.heap.objs.size<=b)/\(∀x c,X.env.cells.lookup x=some c->c≠b)/\ ∀p∈X.pn++pins,p.1≠b
theorem Inv.fpOk{X:Cx}{pins:gZ}{σ:St}{H H':Hp}{s:gu}{b:gm}(I:Inv X pins σ H s)(hb:s.heap.objs.size<=b)(hn:H' b=none):pH X pins H' b:=by
 refine⟨hn,uM (lK I.lt hb),I.nofs hb,.inr (ll I.sz hb),fun x c e z=>?_,fun p hp z=>?_⟩
 ·obtain⟨v,q⟩:=I.cell x c e;exact absurd (lK q.lt (by rw[z];exact hb)) (pP _)
 ·exact absurd (lK (iq (I.pin p hp).1) (by rw[z];exact hb)) (pP _)
structure Turn(P:gM)(w:gE)(K:gQ)(tg:gx)(J:It)(fp:jo)(it:gm)(tn:Nat->Heap->Prop):Prop where
 mem:it∈fp
 obj: ∀i h,tn i h-> ∀b∈fp,∃o,h.get? b=some o/\ ∀v,o.data≠ .cell v
 keep: ∀i h h',tn i h->(∀b∈fp,∀o,h.get? b=some o->h'.get? b=some o)->tn i h'
 item: ∀(X:Cx),X.prog=P->X.w=w->X.K=K->X.calm=true-> ∀(i:Nat) (pins:gZ) (s:gu) (σ:St) (H:Hp) (E:hV),Inv X pins σ H s->(∀b∈fp,pH X pins H b)->tn i s.heap->J.go i H->
  wpAny (model P w) X.A (pyNext (.ref it)) (fun r s1=> ∃u,r=some u/\
   wpAny (model P w) X.A (letOwnedTupleGo tg (.ref it) u) (fun _ s2=> ∃x H',Inv X pins σ H' s2/\RelV x u/\J.yld i H x H'/\tn (i+1) s2.heap/\ ∀b∈fp,H' b=none) E s1) E s
 done: ∀(X:Cx),X.prog=P->X.w=w->X.K=K->X.calm=true-> ∀(i:Nat) (pins:gZ) (s:gu) (σ:St) (H:Hp) (E:hV),Inv X pins σ H s->(∀b∈fp,pH X pins H b)->tn i s.heap->J.stop i H->
  wpAny (model P w) X.A (pyNext (.ref it)) (fun r s1=>r=none/\Inv X pins σ H s1) E s
 self: ∀(A:gG) (i:Nat) (s:gu) (Q:hV) (E:hV),tn i s.heap->Q (.ref it) s->wpAny (model P w) A (pyIter (.ref it)) Q E s
abbrev TI:=St->Hp->(It->Hp->Prop)->Prop
def PIE(X:Cx)(pins:gZ)(σ:St)(tg:gx)(R:It->Hp->Prop)(ej:gy)(s2:gu):Prop:=
 ∃(it:gm) (fp:jo) (tn:Nat->Heap->Prop) (J:It) (H':Hp),ej= .ref it/\Inv X pins σ H' s2/\Turn X.prog X.w X.K tg J fp it tn/\tn 0 s2.heap/\(∀b∈fp,pH X pins H' b)/\R J H'
def PI(X:Cx)(tg iter:gx)(wi:TI):Prop:=
 ∀(pins:gZ) (s:gu) (σ:St) (H:Hp) (R:It->Hp->Prop),Inv X pins σ H s->wi σ H R->
  wpAny (model X.prog X.w) X.A (eval iter X.env) (fun v s1=>wpAny (model X.prog X.w) X.A (pyIter v) (PIE X pins σ tg R) X.xe s1) X.xe s
theorem Kf{M:Model}{A:gG}{E:hV}{s:gu}{tg:gx}{it:gm}{u:gy}{o:Obj}{n:String}{vs:kg}{Q:Unit->Shared->Prop}(ho:s.heap.get? it=some o)(hc:o.cls= .type n)(hd:o.data= .fields vs)
  (hn:["enumerate","zip","dict_itemiterator","dict_reverseitemiterator","odict_iterator","itertools.zip_longest","itertools.pairwise"].contains n=false)(hQ:Q () s):wpAny M A (letOwnedTupleGo tg (.ref it) u) Q E s:=by
 unfold letOwnedTupleGo
 cases tg<;>first
  |exact gA hQ
  |(cases u<;>first
    |exact gA hQ
    |(
      refine gw (wG ho ?_);rw[hc,hd];show wpAny M A (if(["enumerate","zip","dict_itemiterator","dict_reverseitemiterator","odict_iterator","itertools.zip_longest","itertools.pairwise"].contains n&&vs[0]?==some (rawInt _))=true then _ else _) Q E s;rw[gC (by intro h;rw[hn,Bool.false_and] at h;cases h)];exact gA hQ))
noncomputable def Itl(K:gQ)(a:gm):It:=
 ⟨fun i H=> ∃xs x,SqL K H a xs/\xs[i]?=some x,fun i H x H'=>H'=H/\ ∀xs,SqL K H a xs->xs[i]?=some x,fun i H=> ∃xs,SqL K H a xs/\xs.length<=i⟩
noncomputable def Itt(K:gQ)(a:gm):It:=
 ⟨fun i H=> ∃xs x,SqT K H a xs/\xs[i]?=some x,fun i H x H'=>H'=H/\ ∀xs,SqT K H a xs->xs[i]?=some x,fun i H=> ∃xs,SqT K H a xs/\xs.length<=i⟩
noncomputable def Itr(lo:Int)(n:Nat):It:=⟨fun i _=>i<n,fun i H x H'=>H'=H/\x= .int (lo+i),fun i _=>n<=i⟩
theorem Gz{P:gM}{w:gE}{K:gQ}{tg:gx}(a it:gm):Turn P w K tg (Itl K a) [it] it (fun i h=>h.IsListIter it a i) where
 mem:=by simp
 obj:=fun i h st b hb=>by
  have e:b=it:=by simpa using hb
  subst e;obtain⟨o,e,c,d⟩:=st;exact⟨o,e,fun v z=>by rw[d] at z;cases z⟩
 keep:=fun i h h' st k=>st.at fun o e=>k it (by simp) o e
 item:=by
  intro X hP hw hK hc i pins s σ H E I hf st hg;subst hP hw hK;obtain⟨xs,x,hq,hx⟩:=hg;obtain⟨b6,rv,p,hz⟩:=I.list hq;obtain⟨u,hu,ru⟩:=rv.get hx;obtain⟨f0,f1,f2,f3,f4,f5⟩:=hf it (by simp);refine wpAny_pyNext_list_item st p.isList (x:=u) (by simpa using hu) fun h' b7 sb=>?_;have I1:Inv X pins σ H {s with heap:=h'}:=I.turned (t':=s.toks) (fun b o hb e=>(sb.2 b hb).trans e) f0 f1 f3 f4 f5;obtain⟨o,e,c,d⟩:=id b7;exact⟨u,rfl,Kf (s:={s with heap:=h'}) e c d (by decide) ⟨x,H,I1,ru,⟨rfl,fun ys hy=>by rw[I.list_inj hy hq];exact hx⟩,b7,fun b hb=>(hf b hb).1⟩⟩
 done:=by
  intro X hP hw hK hc i pins s σ H E I hf st hg;subst hP hw hK;obtain⟨xs,hq,hx⟩:=hg;obtain⟨b6,rv,p,hz⟩:=I.list hq;obtain⟨f0,f1,f2,f3,f4,f5⟩:=hf it (by simp);have hl:=rv.length;exact wpAny_pyNext_list_end (I.ok.hd hc) st p.isList (by simp;omega) fun h' eb=>⟨rfl,I.turned (t':=s.toks) (fun b o hb e=>eb b o hb e) f0 f1 f3 f4 f5⟩
 self:=fun _ _ _ _ _ st h=>wpAny_pyIter_listiter st h
theorem DN{P:gM}{w:gE}{K:gQ}{tg:gx}(a it:gm):Turn P w K tg (Itt K a) [it] it (fun i h=>h.IsTupleIter it a i) where
 mem:=by simp
 obj:=fun i h st b hb=>by
  have e:b=it:=by simpa using hb
  subst e;obtain⟨o,e,c,d⟩:=st;exact⟨o,e,fun v z=>by rw[d] at z;cases z⟩
 keep:=fun i h h' st k=>st.at fun o e=>k it (by simp) o e
 item:=by
  intro X hP hw hK hc i pins s σ H E I hf st hg;subst hP hw hK;obtain⟨xs,x,hq,hx⟩:=hg;obtain⟨b6,rv,p,hz⟩:=I.tuple hq;obtain⟨u,hu,ru⟩:=rv.get hx;obtain⟨f0,f1,f2,f3,f4,f5⟩:=hf it (by simp);refine wpAny_pyNext_tuple_item st (show s.heap.IsTuple a b6.toArray from p) (x:=u) (by simpa using hu) fun h' b7 sb=>?_;have I1:Inv X pins σ H {s with heap:=h'}:=I.turned (t':=s.toks) (fun b o hb e=>(sb.2 b hb).trans e) f0 f1 f3 f4 f5;obtain⟨o,e,c,d⟩:=id b7;exact⟨u,rfl,Kf (s:={s with heap:=h'}) e c d (by decide) ⟨x,H,I1,ru,⟨rfl,fun ys hy=>by rw[I.tuple_inj hy hq];exact hx⟩,b7,fun b hb=>(hf b hb).1⟩⟩
 done:=by
  intro X hP hw hK hc i pins s σ H E I hf st hg;subst hP hw hK;obtain⟨xs,hq,hx⟩:=hg;obtain⟨b6,rv,p,hz⟩:=I.tuple hq;obtain⟨f0,f1,f2,f3,f4,f5⟩:=hf it (by simp);have hl:=rv.length;exact wpAny_pyNext_tuple_end (I.ok.hd hc) st (show s.heap.IsTuple a b6.toArray from p) (by simp;omega) fun h' eb=>⟨rfl,I.turned (t':=s.toks) (fun b o hb e=>eb b o hb e) f0 f1 f3 f4 f5⟩
 self:=fun _ _ _ _ _ st h=>wpAny_pyIter_tupleiter st h
theorem DO{P:gM}{w:gE}{K:gQ}{tg:gx}(it:gm)(lo:Int)(n:Nat):Turn P w K tg (Itr lo n) [it] it (fun i h=>IsRangeIter h it (lo+(i:Nat)*1) ((n:Int)-(i:Nat)) 1) where
 mem:=by simp
 obj:=fun i h st b hb=>by
  have e:b=it:=by simpa using hb
  subst e
  exact⟨_,st,fun v z=>by
   have z':Data.fields _=Data.cell v:=z;cases z'⟩
 keep:=fun i h h' st k=>k it (by simp) _ st
 item:=by
  intro X hP hw hK hc i pins s σ H E I hf st hg;subst hP hw hK;obtain⟨f0,f1,f2,f3,f4,f5⟩:=hf it (by simp);have W:=Walks.range (prog:=X.prog) (w:=X.w) (I.ok.hd hc) it lo 1 n;refine W.item i s _ _ hg st fun v h' tk hv b7 kk=>?_;obtain⟨t,rfl⟩:=hv;have I1:Inv X pins σ H {s with heap:=h',toks:=tk}:=I.turned (fun b o hb e=>kk b o (by simpa using hb) e) f0 f1 f3 f4 f5;refine⟨_,rfl,Kf (s:={s with heap:=h',toks:=tk}) (n:="range_iterator") b7 rfl rfl (by decide) ⟨.int (lo+i),H,I1,⟨t,?_⟩,⟨rfl,rfl⟩,b7,fun b hb=>(hf b hb).1⟩⟩;rw[DG]
 done:=by
  intro X hP hw hK hc i pins s σ H E I hf st hg;subst hP hw hK;obtain⟨f0,f1,f2,f3,f4,f5⟩:=hf it (by simp);exact wpAny_pyNext_range_end (I.ok.hd hc) st (by have:n<=i:=hg;omega) fun h' eb=>⟨rfl,I.turned (t':=s.toks) (fun b o hb e=>eb b o hb e) f0 f1 f3 f4 f5⟩
 self:=fun _ _ _ _ _ st h=>wpAny_pyIter_rangeiter st h
section
variable {X:Cx}{tg:gx}
def Rk(K:gQ)(tl:TE):TI:=fun σ H R=>tl σ H fun x H1=> ∃a,x= .ref a/\(∃xs,SqL K H1 a xs)/\R (Itl K a) H1
def TR(K:gQ)(tl:TE):TI:=fun σ H R=>tl σ H fun x H1=> ∃a,x= .ref a/\(∃xs,SqT K H1 a xs)/\R (Itt K a) H1
theorem Ma{l:gx}{tl:TE}(hl:PE X l tl):PI X tg l (Rk X.K tl):=by
 intro pins s σ H R I h;refine thn (hl pins s σ H _ I h) fun v s1 ⟨x,H1,I1,r1,q1⟩=>?_;obtain⟨a,e,⟨xs,hq⟩,q⟩:=q1;subst e;cases r1;obtain⟨b6,rv,p,hz⟩:=I1.list hq;refine wpAny_pyIter_list p.isList ?_;refine⟨s1.heap.objs.size,[s1.heap.objs.size],_,_,H1,rfl,I1.kept (t':=s1.toks) fun b o e=>iB _ e,Gz a _,⟨_,kU _ rfl,rfl,rfl⟩,fun b hb=>?_,q⟩;have e:b=s1.heap.objs.size:=by simpa using hb
 subst e;exact I1.fpOk (ic _) (I1.hok.fresh (ic _))
theorem OE{l:gx}{tl:TE}(hl:PE X l tl):PI X tg l (TR X.K tl):=by
 intro pins s σ H R I h;refine thn (hl pins s σ H _ I h) fun v s1 ⟨x,H1,I1,r1,q1⟩=>?_;obtain⟨a,e,⟨xs,hq⟩,q⟩:=q1;subst e;cases r1;obtain⟨b6,rv,p,hz⟩:=I1.tuple hq;refine wpAny_pyIter_tuple (show s1.heap.IsTuple a b6.toArray from p) ?_;refine⟨s1.heap.objs.size,[s1.heap.objs.size],_,_,H1,rfl,I1.kept (t':=s1.toks) fun b o e=>iB _ e,DN a _,⟨_,kU _ rfl,rfl,rfl⟩,fun b hb=>?_,q⟩;have e:b=s1.heap.objs.size:=by simpa using hb
 subst e;exact I1.fpOk (ic _) (I1.hok.fresh (ic _))
theorem Jc{pins:gZ}{σ:St}{H:Hp}{s:gu}{R:It->Hp->Prop}{E:hV}{lo hi:Int}{t u v:Tok}{tk:Nat}(I:Inv X pins σ H s)(h1: -(2^62)<=lo)(h2:lo<2^62)(h3: -(2^62)<=hi)(h4:hi<2^62)
  (q:R (Itr lo (hi-lo).toNat) H):wpAny (model X.prog X.w) X.A (pyIter (.ref s.heap.objs.size)) (PIE X pins σ tg R) E {s with heap:=s.heap.push {cls:= .type "range",data:= .fields #[.int lo t,.int hi u,.int 1 v]},toks:=tk}:=by
 refine wpAny_pyIter_range (IsRange.new ..) (small_one h1 h2 h3 h4) ?_;have I1:Inv X pins σ H {s with heap:=s.heap.push {cls:= .type "range",data:= .fields #[.int lo t,.int hi u,.int 1 v]},toks:=tk}:=I.kept fun b o e=>iB _ e
 refine⟨(s.heap.push {cls:= .type "range",data:= .fields #[.int lo t,.int hi u,.int 1 v]}).objs.size,[(s.heap.push {cls:= .type "range",data:= .fields #[.int lo t,.int hi u,.int 1 v]}).objs.size],_,_,H,rfl,
  I1.kept (t':=tk) fun b o e=>iB _ e,DO _ lo (hi-lo).toNat,?_,fun b hb=>?_,q⟩
 ·have e1:lo+((0:Nat):Int)*1=lo:=by simp
  have e2:(((hi-lo).toNat:Nat):Int)-((0:Nat):Int)=Builtin.Range.rangeSize lo hi 1:=by rw[rangeSize_one];split<;>omega
  show IsRangeIter _ _ (lo+((0:Nat):Int)*1) ((((hi-lo).toNat:Nat):Int)-((0:Nat):Int)) 1;rw[e1,e2];exact kU _ rfl
 ·have e:b=(s.heap.push {cls:= .type "range",data:= .fields #[.int lo t,.int hi u,.int 1 v]}).objs.size:=by simpa using hb
  subst e;exact I1.fpOk (ic _) (I1.hok.fresh (ic _))
def Rj(ta:TA):TI:=fun σ H R=>ta σ H fun vs H1=> ∃j:Int,vs=[.int j]/\ -(2^62)<=j/\j<2^62/\R (Itr 0 j.toNat) H1
theorem GW{a:gx}{ta:TA}{p pos:Pos}(hg:Gl X "range")(hm:X.mg "range"=none)(ha:PA X [a] ta)(hs:starEach [a] X.env=[(false,eval a X.env)]:=by rfl):PI X tg (.Call (.Name "range" p) [a] [] pos) (Rj ta):=by
 intro pins s σ H R I h;refine Call_ (xR I hg hm boot_range (Il (thn (ha pos pins s σ H _ I h) fun us s1 ⟨vs,H1,I1,r1,q1⟩=>?_) hs rfl));obtain⟨j,e,q1,q2,q⟩:=q1;subst e
 cases r1 with
 |cons r rr=>
  cases rr;obtain⟨t,rfl⟩:=r;exact call_range_1 (Jc I1 (by omega) (by omega) q1 q2 (by simpa using q))
def Sv(wi:TI)(g:TG)(tb:TS):TS:=fun D σ H=>wi σ H fun J H1=> ∃W:Nat->Nat->St->Hp->Prop,(∃m,W 0 m σ H1)/\ ∀i m σ H,W i m σ H->
 (J.stop i H/\D.nx σ H)\/(J.go i H/\ ∃N:St->Hp->Prop,(∀σ' H',N σ' H'-> ∃m',m'<m/\W (i+1) m' σ' H')/\ ∀x H',J.yld i H x H'->g x σ H' fun σ2 H2=>tb {D with nx:=N,ct:=N,bk:=D.nx} σ2 H2)
noncomputable def xo(fp:jo)(h:gL):List (Addr×Obj):=fp.filterMap fun b=>(h.get? b).map fun o=>(b,o)
theorem oR{fp:jo}{h:gL}{b:gm}{o:Obj}(hb:b∈fp)(e:h.get? b=some o):(b,o)∈xo fp h:=List.mem_filterMap.mpr ⟨b,hb,by rw[e];rfl⟩
theorem G5{fp:jo}{h:gL}{p:Addr×Obj}(hp:p∈xo fp h):p.1∈fp/\h.get? p.1=some p.2:=by
 obtain⟨b,hb,e⟩:=List.mem_filterMap.mp hp
 cases q:h.get? b with
 |none=>rw[q] at e;cases e
 |some o=>
  rw[q] at e;have e':(b,o)=p:=iC e;subst e';exact⟨hb,q⟩
theorem Inv.pinned{pins:gZ}{σ:St}{H:Hp}{s:gu}{fp:jo}(I:Inv X pins σ H s)(hf: ∀b∈fp,pH X pins H b)(ho: ∀b∈fp,∃o,s.heap.get? b=some o/\ ∀v,o.data≠ .cell v):Inv X (pins++xo fp s.heap) σ H s:=
 I.pins_of fun p hp=>(nu.mp hp).elim (fun z=>I.pin p (pq _ z)) fun z=>by
  obtain⟨hb,e⟩:=G5 z;obtain⟨f0,f1,f2,_⟩:=hf p.1 hb;obtain⟨o,e',d⟩:=ho p.1 hb;rw[e] at e';cases e';exact⟨e,f0,f1,f2,d⟩
theorem Inv.unpinned{pins pl:gZ}{σ:St}{H:Hp}{s:gu}(I:Inv X (pins++pl) σ H s):Inv X pins σ H s:=I.pins_of fun p hp=>I.pin p (pq _ (Ip _ hp))
theorem Jq{iter:gx}{body:List Stmt}{wi:TI}{g:TG}{tb:TS}{pos:Pos}(hp:PassesOwn (model X.prog X.w) X.A X.env X.xe)(hc:X.calm=true)(hi:PI X tg iter wi)(hg:PG X tg g)(hb:PSs X body tb)
  (hs: ∀x,foldedSetIterable iter X.env x=pure x:=by intro _;rfl):PS X (.For tg iter body [] pos) (Sv wi g tb):=by
 intro pins s σ H D I h;refine wpAny_For (thn (hi pins s σ H _ I h) fun v s1 h1=>thn h1 fun ej s2 h2=>?_) hs;obtain⟨it,fp,tn,J,H2,e,I2,T,i8,f2,W,⟨m0,w0⟩,turn⟩:=h2;subst e;have au: ∀{H':Hp},(∀b∈fp,H' b=none)-> ∀b∈fp,pH X pins H' b:=fun hn b hb=>⟨hn b hb,(f2 b hb).2⟩
 refine codeAny_forLoop_any (fun n s'=> ∃i σ' H',Inv X pins σ' H' s'/\tn i s'.heap/\(∀b∈fp,H' b=none)/\W i n σ' H') ?_ m0 ⟨0,σ,H2,I2,i8,fun b hb=>(f2 b hb).1,w0⟩;rintro n s3 ⟨i,σ3,H3,I3,n5,dq,w3⟩;rcases turn i n σ3 H3 w3 with⟨stop,qn⟩|⟨go,N,hN,step⟩
 ·refine rT hp (thn (T.done X rfl rfl rfl hc i pins s3 σ3 H3 X.xe I3 (au dq) n5 stop) fun r s4 ⟨hr,I4⟩=>?_);subst hr;exact wI ⟨σ3,H3,I4,qn⟩
 ·refine rT hp (thn (T.item X rfl rfl rfl hc i pins s3 σ3 H3 X.xe I3 (au dq) n5 go) fun r s4 ⟨u,hr,h4⟩=>?_);subst hr;refine rT hp (thn h4 fun _ s5 ⟨x,H5,I5,r5,y5,bF,fY⟩=>?_);have gh:=I5.pinned (au fY) (T.obj _ _ bF);refine rT hp (thn (hg _ s5 σ3 H5 x u _ gh r5 (step x H5 y5)) fun _ s6 ⟨σ6,H6,I6,q6⟩=>?_);refine rT hp (thn (hb _ s6 σ6 H6 _ I6 q6) fun f s7 q7=>?_)
  have again: ∀{σ7:St} {H7:Hp},Inv X (pins++xo fp s5.heap) σ7 H7 s7->N σ7 H7-> ∃m,m<n/\ ∃i σ' H',Inv X pins σ' H' s7/\tn i s7.heap/\(∀b∈fp,H' b=none)/\W i m σ' H':=fun {σ7 H7} I7 n7=>by
   obtain⟨m',hm,w7⟩:=hN σ7 H7 n7;refine⟨m',hm,i+1,σ7,H7,I7.unpinned,T.keep _ _ _ bF fun b hb o e=>(I7.pin (b,o) (pq _ (pq _ (oR hb e)))).1,fun b hb=>?_,w7⟩;obtain⟨o,e,d⟩:=T.obj _ _ bF b hb;exact(I7.pin (b,o) (pq _ (pq _ (oR hb e)))).2.1
  cases f with
  |next=>obtain⟨σ7,H7,I7,n7⟩:=q7;exact again I7 n7
  |cont=>obtain⟨σ7,H7,I7,n7⟩:=q7;exact again I7 n7
  |brk=>obtain⟨σ7,H7,I7,q7⟩:=q7;exact⟨σ7,H7,I7.unpinned,q7⟩
  |ret v=>obtain⟨x7,σ7,H7,I7,r7,q7⟩:=q7;exact⟨x7,σ7,H7,I7.unpinned,r7,q7⟩
end
abbrev R2:=V->V->Hp->VK->Prop
def OpR(X:Cx)(f:vh)(r:R2):Prop:=
 ∀(pins:gZ) (s:gu) (σ:St) (H:Hp) (x y:V) (v u:gy) (Q:VK),Inv X pins σ H s->RelV x v->RelV y u->r x y H Q->
  wpAny (model X.prog X.w) X.A (f v u) (EP X pins σ Q) X.xe s
def UnR(X:Cx)(f:Value->Sem Value)(r:V->Hp->VK->Prop):Prop:=
 ∀(pins:gZ) (s:gu) (σ:St) (H:Hp) (x:V) (v:gy) (Q:VK),Inv X pins σ H s->RelV x v->r x H Q->
  wpAny (model X.prog X.w) X.A (f v) (EP X pins σ Q) X.xe s
def ju(X:Cx)(f:gy)(r:List V->Hp->VK->Prop):Prop:=
 ∀(pins:gZ) (s:gu) (σ:St) (H:Hp) (xs:List V) (us:ir) (Q:VK),Inv X pins σ H s->Vals xs us->r xs H Q->
  wpAny (model X.prog X.w) X.A (call f us) (EP X pins σ Q) X.xe s
def TZ(X:Cx)(r:V->Hp->(Bool->Hp->Prop)->Prop):Prop:=
 ∀(pins:gZ) (s:gu) (σ:St) (H:Hp) (x:V) (v:gy) (Q:Bool->Hp->Prop),Inv X pins σ H s->RelV x v->r x H Q->
  wpAny (model X.prog X.w) X.A (truthy v) (TP X pins σ Q) X.xe s
noncomputable def tOp(r:R2)(ta tb:TE):TE:=fun σ H Q=>ta σ H fun x H1=>tb σ H1 fun y H2=>r x y H2 Q
def tUn(r:V->Hp->VK->Prop)(ta:TE):TE:=fun σ H Q=>ta σ H fun x H1=>r x H1 Q
def rI(C:Int->Int->Prop)(g:Int->Int->V):R2:=fun x y H Q=> ∃i j,x= .int i/\y= .int j/\C i j/\Q (g i j) H
def rI0(g:Int->Int->V):R2:=fun x y H Q=> ∃i j,x= .int i/\y= .int j/\Q (g i j) H
def rU(g:Int->V):V->Hp->VK->Prop:=fun x H Q=> ∃i,x= .int i/\Q (g i) H
section
variable {X:Cx}{a b c:gx}{ta tb tc:TE}{pos:Pos}
theorem PR(ha:PE X a ta)(hb:PE X b tb){pins:gZ}{s:gu}{σ:St}{H:Hp}{R:V->V->Hp->Prop}(I:Inv X pins σ H s)
  (h:ta σ H fun x H1=>tb σ H1 fun y H2=>R x y H2){Q:hV}{f:vh}
  (hf: ∀v u s2 x y H2,Inv X pins σ H2 s2->RelV x v->RelV y u->R x y H2->wpAny (model X.prog X.w) X.A (f v u) Q X.xe s2):
  wpAny (model X.prog X.w) X.A (eval a X.env) (fun v s₁=>wpAny (model X.prog X.w) X.A (eval b X.env) (fun u s₂=>wpAny (model X.prog X.w) X.A (f v u) Q X.xe s₂) X.xe s₁) X.xe s:=by
 refine thn (ha pins s σ H _ I h) fun v s1 ⟨x,H1,I1,r1,q1⟩=>?_;refine thn (hb pins s1 σ H1 _ I1 q1) fun u s2 ⟨y,H2,I2,r2,q2⟩=>?_;exact hf v u s2 x y H2 I2 r1 r2 q2
theorem QZ{op:Operator}{r:R2}(ho:OpR X (binaryOp op) r)(ha:PE X a ta)(hb:PE X b tb):PE X (.BinOp a op b pos) (tOp r ta tb):=by
 intro pins s σ H Q I h;exact wpAny_BinOp (PR ha hb I h fun v u s2 x y H2 I2 rx ry q=>ho pins s2 σ H2 x y v u Q I2 rx ry q)
theorem QY{op:UnaryOp}{r:V->Hp->VK->Prop}(ho:UnR X (unaryOp op) r)(ha:PE X a ta):PE X (.UnaryOp op a pos) (tUn r ta):=by
 intro pins s σ H Q I h;exact UnaryOp_ (thn (ha pins s σ H _ I h) fun v s1 ⟨x,H1,I1,r1,q1⟩=>ho pins s1 σ H1 x v Q I1 r1 q1)
theorem opI{f:vh}{C:Int->Int->Prop}{g:Int->Int->Int}
  (rule: ∀(i j:Int) (t u:Tok) (s:gu) (Q:hV) (E:hV),C i j->Q (.int (g i j) s.toks) {s with toks:=s.toks+1}->wpAny (model X.prog X.w) X.A (f (.int i t) (.int j u)) Q E s):
  OpR X f (rI C fun i j=> .int (g i j)):=by
 intro pins s σ H x y v u Q I rx ry h;obtain⟨i,j,rfl,rfl,hc,q⟩:=h;obtain⟨t,rfl⟩:=rx;obtain⟨t',rfl⟩:=ry;exact rule i j t t' s _ _ hc ⟨.int (g i j),H,I.tok _,⟨_,rfl⟩,q⟩
theorem Q9{f:vh}{g:Int->Int->Int}
  (rule: ∀(i j:Int) (t u:Tok) (s:gu) (Q:hV) (E:hV),Q (.int (g i j) s.toks) {s with toks:=s.toks+1}->wpAny (model X.prog X.w) X.A (f (.int i t) (.int j u)) Q E s):
  OpR X f (rI0 fun i j=> .int (g i j)):=by
 intro pins s σ H x y v u Q I rx ry h;obtain⟨i,j,rfl,rfl,q⟩:=h;obtain⟨t,rfl⟩:=rx;obtain⟨t',rfl⟩:=ry;exact rule i j t t' s _ _ ⟨.int (g i j),H,I.tok _,⟨_,rfl⟩,q⟩
theorem Mj{f:vh}{g:Int->Int->Bool}
  (rule: ∀(i j:Int) (t u:Tok) (s:gu) (Q:hV) (E:hV),Q (.bool (g i j)) s->wpAny (model X.prog X.w) X.A (f (.int i t) (.int j u)) Q E s):
  OpR X f (rI0 fun i j=> .bl (g i j)):=by
 intro pins s σ H x y v u Q I rx ry h;obtain⟨i,j,rfl,rfl,q⟩:=h;obtain⟨t,rfl⟩:=rx;obtain⟨t',rfl⟩:=ry;exact rule i j t t' s _ _ ⟨.bl (g i j),H,I,rfl,q⟩
def HA(i j:Int):Prop:=0<j/\j<1073741824
def vP(i j:Int):Prop:=0<=j/\j<=1000000/\i.natAbs<2^64
def CMul(i j:Int):Prop:=(-(2^64)<i/\i<2^64)\/(-(2^64)<j/\j<2^64)
theorem CMul.ok{i j:Int}(h:CMul i j):IntMulOk i j:=by
 rcases h with⟨h1,h2⟩|⟨h1,h2⟩
 ·exact .of_left (intBits_le_64 h1 h2)
 ·exact .of_right (intBits_le_64 h1 h2)
theorem OW:OpR X (binaryOp .Add) (rI0 fun i j=> .int (i+j)):=Q9 fun _ _ _ _ _ _ _ q=>add_int q
theorem OQ:OpR X (binaryOp .Sub) (rI0 fun i j=> .int (i-j)):=Q9 fun _ _ _ _ _ _ _ q=>sub_int q
theorem OT:OpR X (binaryOp .Mult) (rI CMul fun i j=> .int (i*j)):=opI fun _ _ _ _ _ _ _ hc q=>mul_int q hc.ok
theorem Mh:OpR X (binaryOp .FloorDiv) (rI HA fun i j=> .int (i / j)):=opI fun i j _ _ _ _ _ hc q=>by
 have h1:(0:Int)<j:=hc.1;have h2:j<1073741824:=hc.2;exact floordiv_int (by omega) (by rw[Int.fdiv_eq_ediv_of_nonneg i (by omega)];exact q) (.inl (PyProof.noPylong_small (by omega)))
theorem OU:OpR X (binaryOp .Mod) (rI (fun _ j=>0<j) fun i j=> .int (i%j)):=opI fun i j _ _ _ _ _ hc q=>by
 have h1:(0:Int)<j:=hc;exact mod_int' (by omega) (by rw[Int.fmod_eq_emod_of_nonneg i (by omega)];exact q)
theorem OR:OpR X (binaryOp .Pow) (rI vP fun i j=> .int (i^j.toNat)):=opI fun _ _ _ _ _ _ _ hc q=>pow_int_small hc.1 hc.2.1 hc.2.2 q
theorem unI{f:Value->Sem Value}{g:Int->Int}
  (rule: ∀(i:Int) (t:Tok) (s:gu) (Q:hV) (E:hV),Q (.int (g i) s.toks) {s with toks:=s.toks+1}->wpAny (model X.prog X.w) X.A (f (.int i t)) Q E s):
  UnR X f (rU fun i=> .int (g i)):=by
 intro pins s σ H x v Q I rx h;obtain⟨i,rfl,q⟩:=h;obtain⟨t,rfl⟩:=rx;exact rule i t s _ _ ⟨.int (g i),H,I.tok _,⟨_,rfl⟩,q⟩
theorem NF:UnR X (unaryOp .USub) (rU fun i=> .int (-i)):=unI fun _ _ _ _ _ q=>neg_int q
theorem AZ{pins:gZ}{σ:St}{H:Hp}{s:gu}{Q:VK}{k k':Bool}(I:Inv X pins σ H s)(q:Q (.bl k) H)(e:k=k'):EP X pins σ Q (.bool k') s:=by
 subst e;exact⟨.bl k,H,I,rfl,q⟩
theorem Q5:OpR X (compareOp .Lt) (rI0 fun i j=> .bl (decide (i<j))):=Mj fun _ _ _ _ _ _ _ q=>lt_int q
theorem Q6:OpR X (compareOp .LtE) (rI0 fun i j=> .bl (decide (i<=j))):=Mj fun _ _ _ _ _ _ _ q=>le_int q
theorem Q7:OpR X (compareOp .Gt) (rI0 fun i j=> .bl (decide (j<i))):=Mj fun _ _ _ _ _ _ _ q=>gt_int q
theorem Q8:OpR X (compareOp .GtE) (rI0 fun i j=> .bl (decide (j<=i))):=Mj fun _ _ _ _ _ _ _ q=>ge_int q
theorem JO:OpR X (compareOp .Is) (fun x y H Q=>y= .non/\Q (.bl (decide (x= .non))) H):=by
 intro pins s σ H x y v u Q I rx ry h;obtain⟨rfl,q⟩:=h;cases ry;refine is_none_gen (AZ I q ?_)
 cases x<;>first
  |(cases rx;rfl)
  |(obtain⟨t,rfl⟩:=rx;rfl)
theorem FQ:OpR X (compareOp .IsNot) (fun x y H Q=>y= .non/\Q (.bl (!decide (x= .non))) H):=by
 intro pins s σ H x y v u Q I rx ry h;obtain⟨rfl,q⟩:=h;cases ry;refine isnot_none_gen (AZ I q ?_)
 cases x<;>first
  |(cases rx;rfl)
  |(obtain⟨t,rfl⟩:=rx;rfl)
theorem JU(b:gx){op:CmpOp}(h:op≠ .In:=by decide)(h2:op≠ .NotIn:=by decide):behindInMarks op b=false:=by
 have e1:(op==CmpOp.In)=false:=by cases op<;>first|rfl|exact absurd rfl h
 have e2:(op==CmpOp.NotIn)=false:=by cases op<;>first|rfl|exact absurd rfl h2
 cases b<;>simp[behindInMarks,e1,e2]
theorem Md{op:CmpOp}{r:R2}(ho:OpR X (compareOp op) r)(ha:PE X a ta)(hb:PE X b tb)(hm:behindInMarks op b=false):PE X (.Compare a [op] [b] pos) (tOp r ta tb):=by
 intro pins s σ H Q I h;exact wpAny_Compare1 (PR ha hb I h fun v u s2 x y H2 I2 rx ry q=>ho pins s2 σ H2 x y v u Q I2 rx ry q) hm
def Qf(t:TE):TT:=fun σ H Q=>t σ H fun x H'=> ∃k,x= .bl k/\Q k H'
theorem LY{op:CmpOp}{r:R2}(ho:OpR X (compareOp op) r)(ha:PE X a ta)(hb:PE X b tb)(hm:behindInMarks op b=false):PT X (.Compare a [op] [b] pos) (Qf (tOp r ta tb)):=by
 intro pins s σ H Q I h
 refine wpAny_isTrue_Compare1 (thn (ha pins s σ H _ I h) fun v s1 ⟨x,H1,I1,r1,q1⟩=>thn (hb pins s1 σ H1 _ I1 q1) fun u s2 ⟨y,H2,I2,r2,q2⟩=>
  thn (ho pins s2 σ H2 x y v u _ I2 r1 r2 q2) fun c s3 ⟨z,H3,I3,r3,k,e,q3⟩=>?_) hm
 subst e;cases r3;exact vr ⟨H3,I3,q3⟩
def IM(r r':R2)(ta tb tc:TE):TE:=fun σ H Q=>ta σ H fun x H1=>tb σ H1 fun y H2=>r x y H2 fun z H3=> ∃k,z= .bl k/\
 (if k=true then tc σ H3 fun w' H4=>r' y w' H4 Q else Q (.bl false) H3)
theorem JG{op aa:CmpOp}{r r':R2}(ho:OpR X (compareOp op) r)(aX:OpR X (compareOp aa) r')(ha:PE X a ta)(hb:PE X b tb)(hc:PE X c tc)
  (hm:lastMarks [op,aa] [b,c]=false:=by with_unfolding_all rfl):PE X (.Compare a [op,aa] [b,c] pos) (IM r r' ta tb tc):=by
 intro pins s σ H Q I h
 refine Compare_chain (thn (ha pins s σ H _ I h) fun v s1 ⟨x,H1,I1,r1,q1⟩=>chain_link (thn (hb pins s1 σ H1 _ I1 q1) fun u s2 ⟨y,H2,I2,r2,q2⟩=>
  thn (ho pins s2 σ H2 x y v u _ I2 r1 r2 q2) fun d s3 ⟨z,H3,I3,r3,k,e,q3⟩=>?_)) hm
 subst e;cases r3;refine vr ?_
 cases k with
 |false=>exact ite_ff ⟨.bl false,H3,I3,rfl,q3⟩
 |true=>exact ite_tt (chain_last (thn (hc pins s3 σ H3 _ I3 q3) fun w' s4 ⟨z',H4,I4,r4,q4⟩=>aX pins s4 σ H4 y z' u w' Q I4 r2 r4 q4))
def RD(K:gQ)(x:V)(H:Hp)(k:Bool):Prop:=
 match x with
 | .non=>k=false
 | .bl b=>k=b
 | .int i=>k=(i !=0)
 | .str y=>y.length<=sizeLine/\k=((y.length:Int) !=0)
 | .byt y=>y.size<=sizeLine/\k=((y.size:Int) !=0)
 | .ref p=>(∃xs,SqL K H p xs/\k=!xs.isEmpty)\/(∃xs,SqT K H p xs/\k=!xs.isEmpty)\/ ∃i3,H p=some (.dK i3)/\k=!i3.isEmpty
 |_=>False
theorem Ey{κ:Type}{i3:List (κ×V)}{vs:List (κ×Value)}(r:KV i3 vs):(!vs.isEmpty)=!i3.isEmpty:=by
 cases r<;>rfl
theorem xX{xs:List V}{b6:ir}(r:Vals xs b6):(!b6.toArray.isEmpty)=!xs.isEmpty:=by
 cases r<;>simp
theorem xP:(sizeLine:Nat)<2^63:=by rw[iZ];decide
theorem NH:TZ X (fun x H Q=> ∃k,RD X.K x H k/\Q k H):=by
 intro pins s σ H x v Q I rx h;obtain⟨k,e,q⟩:=h;have hl:=xP;have hs:sizeLine=16777216:=iZ
 cases x with
 |non=>
  cases rx;have e':k=false:=e;subst e';exact truthy_none ⟨H,I,q⟩
 |bl b=>
  cases rx;have e':k=b:=e;subst e';exact vr ⟨H,I,q⟩
 |int i=>
  obtain⟨t,rfl⟩:=rx;have e':k=(i !=0):=e;subst e';exact PySem.P.truthy_int ⟨H,I,q⟩
 |str y=>
  obtain⟨t,rfl⟩:=rx;obtain⟨hy,e'⟩:y.length<=sizeLine/\k=((y.length:Int) !=0):=e;subst e';exact PySem.P.truthy_str (by omega) ⟨H,I.tok _,q⟩
 |byt y=>
  obtain⟨t,rfl⟩:=rx;obtain⟨hy,e'⟩:y.size<=sizeLine/\k=((y.size:Int) !=0):=e;subst e';exact PySem.W.truthy_bytes (by omega) ⟨H,I.tok _,q⟩
 |ref p=>
  cases rx;have e':(∃xs,SqL X.K H p xs/\k=!xs.isEmpty)\/(∃xs,SqT X.K H p xs/\k=!xs.isEmpty)\/ ∃i3,H p=some (.dK i3)/\k=!i3.isEmpty:=e;rcases e' with⟨xs,hx,e'⟩|⟨xs,hx,e'⟩|⟨i3,hx,e'⟩
  ·subst e';obtain⟨b6,r,pl,hz⟩:=I.list hx;have hlen:=r.length;exact wpAny_truthy_list pl.isList (by simp only[jc];omega) ⟨H,I.tok _,by rw[xX r];exact q⟩
  ·subst e';obtain⟨b6,r,pl,hz⟩:=I.tuple hx;have hlen:=r.length;exact truthy_tuple pl (by simp only[jc];omega) ⟨H,I.tok _,by rw[xX r];exact q⟩
  ·subst e';obtain⟨hz,hS,vs,r,m⟩:i3.length<=sizeLine/\(p==sysModules)=false/\ ∃vs,KV i3 vs/\s.heap.DictOf (lC X.prog X.w) p vs:=I.hok p _ hx;have hlen:i3.length=vs.length:=Paired.length r;exact wpAny_truthy_dict hS m (by omega) ⟨H,I.tok _,by rw[Ey r];exact q⟩
 |_=>exact(show False from e).elim
theorem Jj(ha:PE X a ta)(he: ∀whole,isTrue a X.env whole=(do let v <-whole;standAt a.pos;holding [v] (truthy v))):
  PT X a (fun σ H Q=>ta σ H fun x H'=> ∃k,RD X.K x H' k/\Q k H'):=by
 intro pins s σ H Q I h;exact isTrue_plain (thn (ha pins s σ H _ I h) fun v s1 ⟨x,H1,I1,r1,q1⟩=>NH pins s1 σ H1 x v Q I1 r1 q1) (he _)
theorem Eb:OpR X (binaryOp .Add) (fun x y H Q=> ∃i j,x= .str i/\y= .str j/\i.length+j.length<=sizeLine/\Q (.str (i++j)) H):=by
 intro pins s σ H x y v u Q I rx ry h;obtain⟨i,j,rfl,rfl,hz,q⟩:=h;obtain⟨t,rfl⟩:=rx;obtain⟨t',rfl⟩:=ry;exact add_str (fun t' tk=>⟨.str (i++j),H,I.tok _,⟨_,rfl⟩,q⟩) hz
theorem rh{x:V}{us:ir}(r:Vals [x] us): ∃u,us=[u]/\RelV x u:=by
 cases r with
 |cons r1 r2=>cases r2;exact⟨_,rfl,r1⟩
theorem Bt{x y:V}{us:ir}(r:Vals [x,y] us): ∃u w',us=[u,w']/\RelV x u/\RelV y w':=by
 cases r with
 |cons r1 r2=>
  cases r2 with
  |cons r3 r4=>cases r4;exact⟨_,_,rfl,r1,r3⟩
theorem KD:ju X (.builtin "abs") (fun xs H Q=> ∃i,xs=[.int i]/\Q (.int (if i<0 then -i else i)) H):=by
 intro pins s σ H xs us Q I r h;obtain⟨i,rfl,q⟩:=h;obtain⟨u,rfl,t,rfl⟩:=rh r;exact call_abs_int fun u tk=>⟨.int (if i<0 then -i else i),H,I.tok _,⟨_,rfl⟩,q⟩
theorem Hu(hc:X.calm=true):ju X (.builtin "max") (fun xs H Q=> ∃i j,xs=[.int i,.int j]/\Q (.int (if j>i then j else i)) H):=by
 intro pins s σ H xs us Q I r h;obtain⟨i,j,rfl,q⟩:=h;obtain⟨u,w',rfl,⟨t,rfl⟩,⟨t',rfl⟩⟩:=Bt r;refine max_two_ints (I.ok.hd hc) fun h' tk k=>⟨_,H,I.kept k,?_,q⟩
 by_cases hj:j>i
 ·rw[gz hj,gz hj];exact⟨_,rfl⟩
 ·rw[gC hj,gC hj];exact⟨_,rfl⟩
theorem Ht(hc:X.calm=true):ju X (.builtin "min") (fun xs H Q=> ∃i j,xs=[.int i,.int j]/\Q (.int (if j<i then j else i)) H):=by
 intro pins s σ H xs us Q I r h;obtain⟨i,j,rfl,q⟩:=h;obtain⟨u,w',rfl,⟨t,rfl⟩,⟨t',rfl⟩⟩:=Bt r;refine min_two_ints (I.ok.hd hc) fun h' tk k=>⟨_,H,I.kept k,?_,q⟩
 by_cases hj:j<i
 ·rw[gz hj,gz hj];exact⟨_,rfl⟩
 ·rw[gC hj,gC hj];exact⟨_,rfl⟩
theorem zL:ju X (.type "int") (fun xs H Q=>(∃i,xs=[.int i]/\Q (.int i) H)\/ ∃k,xs=[.bl k]/\Q (.int (if k then 1 else 0)) H):=by
 intro pins s σ H xs us Q I r h;rcases h with⟨i,rfl,q⟩|⟨k,rfl,q⟩
 ·obtain⟨u,rfl,t,rfl⟩:=rh r;exact call_int_int ⟨.int i,H,I,⟨_,rfl⟩,q⟩
 ·obtain⟨u,rfl,r1⟩:=rh r;cases r1;exact call_int_bool ⟨.int (if k then 1 else 0),H,I.tok _,⟨_,rfl⟩,q⟩
end
section
variable {prog:gM}{w:gE}{A:gG}{E:hV}{s:gu}{K:gQ}{x dx C f:gm}{mA:jK}{name:Str}{v:gy}
end
section
variable {P:gM}{w:gE}{H H':Hp}{h h':gL}{a C dx:gm}{fs fs':List (Str×V)}
end
section
variable {X:Cx}{pins:gZ}{σ:St}{H:Hp}{s:gu}{a C dx:gm}{fs:List (Str×V)}{f:Str}{v:V}{A:gG}{E:hV}
end
section
variable {X:Cx}{o e value:gx}{f:Str}{pos pos' tpos:Pos}{ta tv:TE}
end
section
variable {X:Cx}{pins:gZ}{σ:St}{H:Hp}{s:gu}{A:gG}{E:hV}{Q:hV}{c:gy}{b:Bool}
end
structure Room(k:Nat)(A:gG):Prop where
 hd:A.handled=none
 dp:A.depth+3*k+5<recursionLimit
 un:A.units+16*k+200<cLine
theorem Room.mono{j k:Nat}{A:gG}(r:Room k A)(h:j<=k):Room j A:=⟨r.hd,by have:=r.dp;omega,by have:=r.un;omega⟩
theorem Room.deeper{k:Nat}{A:gG}(r:Room (k+1) A)(env:Env):Room k (A.deeper env):=
 ⟨r.hd,by have:=r.dp;show A.depth+1+3*k+5<_;omega,by have:=r.un;show A.units+3+16*k+200<_;omega⟩
theorem Room.depth{k:Nat}{A:gG}(r:Room k A):A.depth<recursionLimit:=by have:=r.dp;omega
noncomputable def So:TA:=fun _ H Q=>Q [] H
noncomputable def Qm(ta:TE)(tr:TA):TA:=fun σ H Q=>ta σ H fun x H1=>tr σ H1 fun xs H2=>Q (x::xs) H2
section
variable {X:Cx}{e:gx}{es:jf}{te:TE}{t:TA}{pos:Pos}
theorem nW:PA X [] So:=fun _ _ _ _ H Q I h=>DF ⟨[],H,I,.nil,h⟩
theorem kN(ha:PE X e te)(hr:PA X es t)(hs:starEach (e::es) X.env=(false,eval e X.env)::starEach es X.env:=by rfl):PA X (e::es) (Qm te t):=by
 intro pos pins s σ H Q I h;rw[hs];show wpAny _ _ (spliced ((false,eval e X.env)::backTo pos (starEach es X.env))) _ _ s;refine DE (thn (ha pins s σ H _ I h) fun u s1 ⟨x,H1,I1,r1,q1⟩=>?_);exact thn (hr pos pins s1 σ H1 _ I1 q1) fun us s2 ⟨xs,H2,I2,r2,q2⟩=>⟨x::xs,H2,I2,.cons r1 r2,q2⟩
noncomputable def Si(t:TA):TE:=fun σ H Q=>t σ H fun xs H1=>xs.length<=sizeLine/\ ∀p,H1 p=none->Q (.ref p) (upd H1 p (.tup xs))
noncomputable def Sq(t:TA):TE:=fun σ H Q=>t σ H fun xs H1=>xs.length<=sizeLine/\ ∀p,H1 p=none->Q (.ref p) (upd H1 p (.lst xs))
theorem OG{x1}(h:PA X es t):PE X (.Tuple es x1 pos) (Si t):=by
 intro pins s σ H Q I hq;refine wpAny_Tuple_spliced (thn (h pos pins s σ H _ I hq) fun us s1 ⟨xs,H1,I1,r,z,q⟩=>⟨by rw[<-r.length];exact z,?_⟩);have hf:H1 s1.heap.objs.size=none:=I1.hok.fresh (ic _);refine⟨.ref s1.heap.objs.size,upd H1 s1.heap.objs.size (.tup xs),I1.laid (t':=s1.toks) (fun b u e=>iB _ e) (ic _) ?_,rfl,q _ hf⟩;exact⟨z,us,r,⟨_,kU _ rfl,rfl,_,rfl⟩⟩
theorem OM(h:PA X es t):PE X (.List es pos) (Sq t):=by
 intro pins s σ H Q I hq;refine wpAny_List_spliced (thn (h pos pins s σ H _ I hq) fun us s1 ⟨xs,H1,I1,r,z,q⟩=>⟨by rw[<-r.length];exact z,?_⟩);have hf:H1 s1.heap.objs.size=none:=I1.hok.fresh (ic _);refine⟨.ref s1.heap.objs.size,upd H1 s1.heap.objs.size (.lst xs),I1.laid (t':=s1.toks) (fun b u e=>iB _ e) (ic _) ?_,rfl,q _ hf⟩;exact⟨z,us,0,r,kU _ rfl⟩
end
abbrev Sp:=List V->Hp->VK->XK->Prop
abbrev CXT:=List Env->Hp->Shared->XK->Value->Shared->Prop
structure Env0(P:gM)(w:gE)(K:gQ)(mg:jK)(base:gL)(A:gG)(outer:List Env)(s:gu)(H:Hp):Prop where
 frames:A.frames=some outer
 mod:Mod K mg base
 bs: ∀b o,base.get? b=some o->s.heap.get? b=some o/\H b=none
 bsz:base.objs.size<=s.heap.objs.size
 funs:s.heap.FunFrames base outer
 frf: ∀b∈frs outer,H b=none
 hok:HOk P w H s.heap
 bare:AllBare s.gens
def CE(outer:List Env)(P:gM)(w:gE)(H:Hp)(s:gu)(Q:VK)(u:gy)(s':gu):Prop:=
 ∃v H',s'.os=s.os/\AllBare s'.gens/\Un (frs outer) [] H H' s.heap s'.heap/\HOk P w H' s'.heap/\RelV v u/\Q v H'
def CR(CX:CXT)(outer:List Env)(P:gM)(w:gE)(H:Hp)(s:gu)(Q:VK)(E:XK)(r:Result)(s':gu):Prop:=
 match r with
 | .ok (.ret u)=>CE outer P w H s Q u s'
 | .ok _=>False
 | .error e=>CX outer H s E e s'
structure FnOk(P:gM)(w:gE)(K:gQ)(mg:jK)(base:gL)(CX:CXT)(k:Nat)(f:gm)(fd:kR)(ps:gT)(sp:Sp):Prop where
 len: ∀vs H Q E,sp vs H Q E->vs.length=ps.length
 run: ∀(A:gG) (outer:List Env) (s:gu) (H:Hp) (args:Args) (us:ir) (vs:List V) (Q:VK) (E:XK),Room k A->Env0 P w K mg base A outer s H->BindsTo s fd args (ps.zip us)->Vals vs us->sp vs H Q E->
  codeAny (model P w) A (.call (.ref f) args) (CR CX outer P w H s Q E) s
theorem FnOk.mono{P:gM}{w:gE}{K:gQ}{mg:jK}{base:gL}{CX:CXT}{j k:Nat}{f:gm}{fd:kR}{ps:gT}{sp:Sp}(F:FnOk P w K mg base CX j f fd ps sp)(h:j<=k):
  FnOk P w K mg base CX k f fd ps sp:=⟨F.len,fun A outer s H args us vs Q E hr=>F.run A outer s H args us vs Q E (hr.mono h)⟩
section
variable {X:Cx}{pins:gZ}{σ:St}{H:Hp}{s s':gu}
theorem Inv.env0(I:Inv X pins σ H s):Env0 X.prog X.w X.K X.mg X.base X.A X.stack s H:=
 ⟨I.ok.frames,I.ok.mod,I.bs,ll I.ok.bsz I.sz,I.stack,I.stkFree,I.hok,I.bare⟩
theorem Inv.after{Q:VK}{u:gy}(I:Inv X pins σ H s)(h:CE X.stack X.prog X.w H s Q u s'):EP X pins σ Q u s':=by
 obtain⟨v,H',os,bare,un,hok,r,q⟩:=h;obtain⟨hh,g,d,t,eU⟩:=s';obtain rfl:eU=s.os:=os;exact⟨v,H',I.call (h':=hh) (g':=g) (d':=d) (t':=t) (ch:=[]) un hok bare (fun b z=>absurd z (by simp)),r,q⟩
end
noncomputable def Qn(sp:Sp)(bX:List V)(E:XK)(t:TA):TE:=fun σ H Q=>t σ H fun vs H1=>sp (vs++bX) H1 Q E
def Binds(K:gQ)(fd:kR)(ps:gT)(ds:ir):Prop:=
 ∀(s:gu) (us:ir),K.In s.heap->(us++ds).length=ps.length->BindsTo s fd ⟨us,[]⟩ (ps.zip (us++ds))
theorem Binds.all{K:gQ}{fd:kR}{ps:gT}(h: ∀us:List Value,us.length=ps.length->bindArgs fd ⟨us,[]⟩=pure (ps.zip us)):Binds K fd ps []:=fun s us _ hl=>by
 rw[sN] at hl ⊢;exact .of_eq (h us hl)
def Bf(CX:CXT)(X:Cx)(E:XK):Prop:= ∀(pins:gZ) (σ:St) (H:Hp) (s:gu) (e:gy) (s':gu),Inv X pins σ H s->CX X.stack H s E e s'->X.xe e s'
section
variable {X:Cx}{CX:CXT}{k:Nat}{f C:gm}{fd:kR}{ps:gT}{sp:Sp}{bX:List V}{ds:ir}{E:XK}{x m:Str}{p pos apos:Pos}{e o:gx}{es:jf}{ta:TE}{t:TA}
theorem NV{pins:gZ}{σ:St}{H:Hp}{s:gu}{Q:VK}{us:ir}{vs:List V}(F:FnOk X.prog X.w X.K X.mg X.base CX k f fd ps sp)(hr:Room k X.A)(hb:Binds X.K fd ps ds)(hd:Vals bX ds)(hx:Bf CX X E)
  (I:Inv X pins σ H s)(r:Vals vs us)(h:sp (vs++bX) H Q E):wpAny (model X.prog X.w) X.A (call (.ref f) us) (EP X pins σ Q) X.xe s:=by
 have r2:Vals (vs++bX) (us++ds):=r.append hd;have hl:(us++ds).length=ps.length:=by rw[<-r2.length];exact F.len _ _ _ _ h
 refine wF (rd (F.run X.A X.stack s H ⟨us,[]⟩ (us++ds) (vs++bX) Q E hr I.env0 (hb s us I.kIn hl) r2 h) fun r s' hq=>?_)
 cases r with
 |error e=>exact hx pins σ H s e s' I hq
 |ok fl=>
  cases fl with
  |ret u=>exact I.after hq
  |next=>exact False.elim hq
  |brk=>exact False.elim hq
  |cont=>exact False.elim hq
theorem FH(F:FnOk X.prog X.w X.K X.mg X.base CX k f fd ps sp)(hr:Room k X.A)(hg:Gl X x)(hm:X.mg x=some (.ref f))(hk:PySem.W.keepIn X.K (.ref f)=true)(hb:Binds X.K fd ps ds)(hd:Vals bX ds)(hx:Bf CX X E)
  (ha:PA X (e::es) t)(m9:(x==("__debug__":Str))=false:=by decide)(he:starEach (e::es) X.env=(false,eval e X.env)::starEach es X.env:=by rfl)(j5:(backTo pos (starEach es X.env)).any (·.1)=false:=by rfl):
  PE X (.Call (.Name x p) (e::es) [] pos) (Qn sp bX E t):=by
 intro pins s σ H Q I h;refine uL (tN I hg hm ?_ m9);refine PySem.W.callWith_K (h₀:=X.base) I.ok.mod.kin hk (thn (ha pos pins s σ H _ I h) fun us s1 ⟨vs,H1,I1,r,q⟩=>⟨I1.kIn,?_⟩) he j5;exact NV F hr hb hd hx I1 r q
end
section
variable {X:Cx}{CX:CXT}{k:Nat}{f C:gm}{fd:kR}{ps ks:gT}{sp:Sp}{E:XK}{x m:Str}{p pos apos kpos:Pos}{e o:gx}{es:jf}{kws:List Keyword}{te ta:TE}{t tk:TA}{nm:Option Str}
variable {g:List Value->List Value->List Value}{gV:List V->List V->List V}
end
structure FnScope(N P:gT)(sc:ip):Prop where
 kind:sc.kind= .function
 co:sc.isCoroutine=false
 gen:sc.isGenerator=false
 nd:N.Nodup
 pre:N.take P.length=P
 par: ∀x∈P,sc.names.lookup x=some .local\/sc.names.lookup x=some .cell
 nofree: ∀y∈sc.names,y.2≠ .free
theorem zQ{kindOf:Str->Option NameKind}{x:Str}: ∀{binds:List (Str×Value)} {m:jK},(∀v,(x,v)∉binds)->bindL kindOf binds m x=m x
 |[],_,_=>rfl
 |(n,v)::r,m,h=>by
  unfold bindL;rw[zQ fun w hw=>h w (iK _ hw)];split
  ·have:x≠n:=by rintro rfl;exact h v iN
   simp[this]
  ·rfl
theorem zT{kindOf:Str->Option NameKind}{x:Str}: ∀{binds:List (Str×Value)} {m:jK},(∀v,(x,v)∉binds)->bindC kindOf binds m x=m x
 |[],_,_=>rfl
 |(n,v)::r,m,h=>by
  unfold bindC;rw[zT fun w hw=>h w (iK _ hw)];split
  ·rfl
  ·have:x≠n:=by rintro rfl;exact h v iN
   simp[this]
theorem zS{kindOf:Str->Option NameKind}{x:Str}{v:gy}: ∀{P:gT} {vs:ir} {i:Nat} {m:jK},P.Nodup->P[i]?=some x->vs[i]?=some v->kindOf x=some .local->
  bindL kindOf (P.zip vs) m x=some v
 |[],_,_,_,_,h,_,_=>by simp at h
 |_::_,[],_,_,_,_,h,_=>by simp at h
 |p::P,w::vs,0,m,nd,h1,h2,hk=>by
  simp at h1 h2;subst h1;subst h2;show bindL kindOf ((p,w)::P.zip vs) m p=_;unfold bindL;rw[zQ fun v hv=>(Bg.mp nd).1 (Ap hv).1,gz hk];simp
 |p::P,w::vs,i+1,m,nd,h1,h2,hk=>by
  show bindL kindOf ((p,w)::P.zip vs) m x=_;unfold bindL;exact zS (i:=i) (Bg.mp nd).2 (by simpa using h1) (by simpa using h2) hk
theorem zU{kindOf:Str->Option NameKind}{x:Str}{v:gy}: ∀{P:gT} {vs:ir} {i:Nat} {m:jK},P.Nodup->P[i]?=some x->vs[i]?=some v->kindOf x≠some .local->
  bindC kindOf (P.zip vs) m x=some v
 |[],_,_,_,_,h,_,_=>by simp at h
 |_::_,[],_,_,_,_,h,_=>by simp at h
 |p::P,w::vs,0,m,nd,h1,h2,hk=>by
  simp at h1 h2;subst h1;subst h2;show bindC kindOf ((p,w)::P.zip vs) m p=_;unfold bindC;rw[zT fun v hv=>(Bg.mp nd).1 (Ap hv).1,gC hk];simp
 |p::P,w::vs,i+1,m,nd,h1,h2,hk=>by
  show bindC kindOf ((p,w)::P.zip vs) m x=_;unfold bindC;exact zU (i:=i) (Bg.mp nd).2 (by simpa using h1) (by simpa using h2) hk
noncomputable def nB(N:gT)(vs:List V):St:=vs.map some++List.replicate (N.length-vs.length) none
noncomputable def nX(CX:CXT)(P:gM)(w:gE)(K:gQ)(mg:jK)(base:gL)(N:gT)(qual:Str)(scope:ip)(f:gm)(cd:gy)(A:gG)(outer:List Env)(s:gu)(H:Hp)(E:XK):Cx where
 prog:=P
 w:=w
 K:=K
 mg:=mg
 base:=base
 A:=A.deeper (envOfC qual scope s.heap.objs.size f cd)
 N:=N
 s₀:=s
 H₀:=H
 env:=envOfC qual scope s.heap.objs.size f cd
 outer:=outer
 stack:=envOfC qual scope s.heap.objs.size f cd::outer
 ex:=[]
 calm:=true
 fn:=fun _=>true
 pn:=[]
 xe:=fun e s'=>wpAny (model P w) (A.deeper (envOfC qual scope s.heap.objs.size f cd)) (leaving (envOfC qual scope s.heap.objs.size f cd) e) (fun _ aq=>CX outer H s E e aq) (fun e' aq=>CX outer H s E e' aq) s'
theorem CB{sc:ip}{n:Nat}{x:Str}(h:sc.names.lookup x=some .cell): ∃c,(cellsFrom n sc.names []).lookup x=some c:=by
 have q:=Ao sc.names n [] (.inl h);exact K5.mp q
theorem zw{CX:CXT}{P:gM}{w:gE}{K:gQ}{mg:jK}{base:gL}{N ps:gT}{qual:Str}{scope:ip}{f:gm}{cd:gy}{A:gG}{outer:List Env}{s s1:gu}{H:Hp}{E:XK}{us:ir}{vs:List V}
  (S:FnScope N ps scope)(hd:A.handled=none)(e0:Env0 P w K mg base A outer s H)(hl:vs.length=ps.length)(r:Vals vs us)
  (x:InCallC s s.heap.objs.size (bindL (envOfC qual scope s.heap.objs.size f cd).kindOf (ps.zip us) fun _=>none) (cellsFrom (s.heap.objs.size+1) scope.names []) (bindC (envOfC qual scope s.heap.objs.size f cd).kindOf (ps.zip us) fun _=>none) s1):
  Inv (nX CX P w K mg base N qual scope f cd A outer s H E) [] (nB N vs) H s1:=by
 have j5:ps.length<=N.length:=by have:=oj List.length S.pre;rw[pk] at this;omega
 obtain⟨h1,tk,rfl,hk⟩:=x.done;have bw: ∀b:Addr,b∉(nX CX P w K mg base N qual scope f cd A outer s H E).ex:=fun b z=>absurd (show b∈([]:List Addr) from z) (by simp)
 refine⟨⟨e0.mod,S.kind,rfl,rfl,ic _,fun y z c h1 h2=>?_,fun y hy=>?_,fun y c _ h=>?_,fun _=>hd,Ik e0.frames,.inr ⟨rfl,rfl⟩,fun b z=>absurd z (bw b),e0.bs,e0.bsz,fun b _ _=>bw b,fun b z=>absurd z (bw b),e0.funs,e0.frf⟩,
  rfl,e0.bare,Un.kept hk,⟨_,x.toInCall.ns,fun i y v h1 h2 h3=>?_⟩,fun y c h=>⟨_,x.cell y c h⟩,e0.hok.fresh (ic _),fun y c h=>?_,fun p hp=>absurd (show p∈([]:List (Addr×Obj)) from hp) (by simp),e0.hok.kept hk,?_⟩
 ·exact name_of_addr x.apart (oi h1) (oi h2)
 ·have hy:scope.names.lookup y=some .cell\/scope.names.lookup y=some .free:=hy;rcases hy with hy|hy
  ·exact CB hy
  ·exact absurd rfl (S.nofree _ (oi hy))
 ·exact vt (x.above y c (oi h))
 ·have hi:i<vs.length:=by
   unfold nB at h2;by_cases hi:i<vs.length
   ·exact hi
   ·rw[uK (by simpa using hi)] at h2;rw[sM] at h2;split at h2<;>cases h2
  have ha:vs[i]?=some v:=by
   unfold nB at h2;rw[wD (by simpa using hi),iO] at h2
   cases e:vs[i]? with
   |none=>rw[e] at h2;cases h2
   |some a=>rw[e] at h2;cases h2;rfl
  obtain⟨u,hu,rv⟩:=r.get ha
  have hp:ps[i]?=some y:=by
   rw[<-S.pre,Ij (by omega)];exact h1
  have ndP:ps.Nodup:=by rw[<-S.pre];exact S.nd.sublist (ny _ _)
  refine⟨u,rv,?_⟩;rcases S.par y (kF hp) with k|k
  ·exact .inl ⟨k,zS ndP hp hu k⟩
  ·obtain⟨c,e⟩:=CB (n:=s.heap.objs.size+1) k;refine .inr ⟨.inl k,c,e,?_⟩;have q:=x.cell y c e;rw[zU ndP hp hu (by show scope.names.lookup y≠_;rw[k];decide)] at q;exact q
 ·exact e0.hok.fresh (vt (x.above y c (oi h)))
 ·unfold nB;show _=N.length;rw[mz,jk,Ii];omega
theorem Kl{CX:CXT}{P:gM}{w:gE}{K:gQ}{mg:jK}{base:gL}{k:Nat}{f:gm}{name qual:Str}{params:Arguments}{body:List Stmt}{scope:ip}{dV kV doc pm f9 ct oc:gy}{an od:Option Addr}
  {y9:qR}{N ps:gT}{sp:Sp}(lk:K.lookup f=some ⟨oc,od,.func (PySem.W.fnOf name qual params body scope dV kV doc pm an f9 ct),y9⟩)(r9:PySem.W.codeIn K f9 qual=true)(S:FnScope N ps scope)
  (len: ∀vs H Q E,sp vs H Q E->vs.length=ps.length)
  (o7: ∀(A:gG) (outer:List Env) (s:gu) (H:Hp) (vs:List V) (Q:VK) (E:XK),Room k (A.deeper (envOfC qual scope s.heap.objs.size f f9))->sp vs H Q E->
   ∃t,PSs (nX CX P w K mg base N qual scope f f9 A outer s H E) body t/\t {nx:=fun _ H'=>Q .non H',rt:=Q} (nB N vs) H):
  FnOk P w K mg base CX (k+1) f (PySem.W.fnOf name qual params body scope dV kV doc pm an f9 ct) ps sp:=by
 refine⟨len,fun A outer s H args us vs Q E hr e0 hb r cp=>?_⟩;have hl:=len _ _ _ _ cp;have KX:K.In s.heap:=e0.mod.kin.keeps fun b o e=>(e0.bs b o e).1;have lim:s.heap.NoLimit:=e0.mod.nolimit.keeps fun b o e=>(e0.bs b o e).1
 have ba: ∀y∈ps.zip us,scope.names.lookup y.1=some .local\/(scope.names.lookup y.1=some .cell/\((cellsFrom (s.heap.objs.size+1) scope.names []).lookup y.1).isSome=true):=fun⟨n,v⟩ hy=>by
  rcases S.par n (Ap hy).1 with q|q
  ·exact .inl q
  ·exact .inr ⟨q,Ao _ _ _ (.inl q)⟩
 refine Ih hr.depth (KX _ _ lk) rfl S.co S.gen rfl (PySem.W.codeRec_of KX r9) (hb _ _ _ _ ?_);refine Ig S.kind ba fun env he s1 x=>?_;subst he;refine⟨lim.keeps x.toInCall.keep,codeAny_func ?_⟩;obtain⟨t,ht,hq⟩:=o7 A outer s H vs Q E (hr.deeper _) cp;have I:Inv (nX CX P w K mg base N qual scope f f9 A outer s H E) [] (nB N vs) H s1:=zw S hr.hd e0 hl r x;refine nA (ht [] s1 (nB N vs) H _ I hq) (fun fl s' hs=>?_) fun e s' hs=>hs
 have fin: ∀{σ':St} {H':Hp} {v:V} {u:gy},Inv (nX CX P w K mg base N qual scope f f9 A outer s H E) [] σ' H' s'->RelV v u->Q v H'->CE outer P w H s Q u s':=
  fun {σ' H' v u} J rv q=>⟨v,H',J.os,J.bare,J.base,J.hok,rv,q⟩
 cases fl with
 |ret u=>
  obtain⟨v,σ',H',J,rv,q⟩:=hs;exact fin J rv q
 |next=>
  obtain⟨σ',H',J,q⟩:=hs;exact fin (v:=V.non) (u:=Value.none) J rfl q
 |brk=>
  obtain⟨_,_,_,q⟩:=hs;exact False.elim q
 |cont=>
  obtain⟨_,_,_,q⟩:=hs;exact False.elim q
section
variable {X:Cx}{x:Str}{p pos:Pos}{e:gx}{es:jf}{t:TA}{id T:String}{r:List V->Hp->VK->Prop}
def tCB(r:List V->Hp->VK->Prop)(t:TA):TE:=fun σ H Q=>t σ H fun vs H1=>r vs H1 Q
theorem tK(hc:ju X (.builtin id) r)(hg:Gl X x)(hm:X.mg x=none)(hv:bootBuiltins x=some (.builtin id))(ha:PA X (e::es) t)(hn:x≠"__name__":=by decide)(m9:(x==("__debug__":Str))=false:=by decide)
  (he:starEach (e::es) X.env=(false,eval e X.env)::starEach es X.env:=by rfl)(j5:(backTo pos (starEach es X.env)).any (·.1)=false:=by rfl):PE X (.Call (.Name x p) (e::es) [] pos) (tCB r t):=by
 intro pins s σ H Q I h;refine uL (xR I hg hm hv ?_ hn m9);exact PyProof.Rows.callWith_builtin1 (thn (ha pos pins s σ H _ I h) fun us s1 ⟨vs,H1,I1,r1,q1⟩=>hc pins s1 σ H1 vs us Q I1 r1 q1) he j5
theorem oE(hc:ju X (.type T) r)(hg:Gl X x)(hm:X.mg x=none)(hv:bootBuiltins x=some (.type T))(ha:PA X (e::es) t)(hn:x≠"__name__":=by decide)(m9:(x==("__debug__":Str))=false:=by decide)
  (he:starEach (e::es) X.env=(false,eval e X.env)::starEach es X.env:=by rfl)(j5:(backTo pos (starEach es X.env)).any (·.1)=false:=by rfl):PE X (.Call (.Name x p) (e::es) [] pos) (tCB r t):=by
 intro pins s σ H Q I h;refine uL (xR I hg hm hv ?_ hn m9);exact Il (thn (ha pos pins s σ H _ I h) fun us s1 ⟨vs,H1,I1,r1,q1⟩=>hc pins s1 σ H1 vs us Q I1 r1 q1) he j5
end
end L2
namespace HT
open PySem PyProof.Rows
section
open PySem.SeqAt
open PySem.AutoSeq1 (wpAny_loadPart')
open PySem.MeetsSeq PySem.MeetsSeq2 PySem.MeetsSeq3
end
section
variable {prog:gM}{w:gE}{A:gG}{E:hV}{s:gu}
theorem RA{t b:gm}{vs ws:ir}{Q:hV}(ht:IsTup s.heap t vs.toArray)(hb:IsTup s.heap b ws.toArray)(hv:vs≠[])
  (h1:ws=[]->Q (.ref t) s)(h2:ws≠[]->Q (.ref s.heap.objs.size) {s with heap:=s.heap.push {cls:= .type "tuple",data:= .seq (vs++ws).toArray}})
  (cU:vs.length+ws.length<=sizeLine):wpAny (model prog w) A (binaryOp .Add (.ref t) (.ref b)) Q E s:=by
 obtain⟨⟨cls,dd,data,sl⟩,ho,hc,n,hd⟩:=id ht;obtain⟨⟨cQ,y6,data2,u5⟩,v5,bh,n2,hd2⟩:=id hb;simp only at hc hd bh hd2;subst hc hd bh hd2;have e:vs.toArray++ws.toArray=(vs++ws).toArray:=by simp
 by_cases hw:ws=[]
 ·exact An ⟨_,ho,rfl⟩ ⟨_,v5,rfl⟩ DD DC DA Dz (Dy _ _)
   (tuple_addW1 t b vs.toArray ws.toArray n n2 dd y6 sl u5 (by simpa using hv) (by simp[hw])) ⟨ho,v5,h1 hw⟩
 ·refine An ⟨_,ho,rfl⟩ ⟨_,v5,rfl⟩ DD DC DA Dz (Dy _ _)
   (tuple_addW2 t b vs.toArray ws.toArray n n2 dd y6 sl u5 (by simpa using hv) (by simpa using hw) (by rw[jc,jc];exact cU)) ⟨ho,v5,?_⟩
  rw[e];exact h2 hw
noncomputable def sIx(n d:Nat):Option Int->Nat
 |none=>d
 |some v=>if v<0 then(v+(n:Int)).toNat else min v.toNat n
theorem NU(n d:Nat)(hd:d<=n)(o:Option Int):sIx n d o<=n:=by
 cases o with
 |none=>exact hd
 |some v=>
  show(if v<0 then(v+(n:Int)).toNat else min v.toNat n)<=n;by_cases hv:v<0
  ·rw[gz hv];omega
  ·rw[gC hv];exact Nat.min_le_right _ _
theorem Gj(v:Int)(n d:Nat):(if v<0 then max (v+(n:Int)) 0 else min v (n:Int))=((sIx n d (some v):Nat):Int):=by
 show(if v<0 then max (v+(n:Int)) 0 else min v (n:Int))=(((if v<0 then(v+(n:Int)).toNat else min v.toNat n):Nat):Int)
 by_cases hv:v<0
 ·simp only[gz hv];omega
 ·simp only[gC hv];omega
theorem E7(lo hi:Option Int)(n:Nat):Builtin.Slice.sliceAdjust lo hi 1 (n:Int)=(((sIx n 0 lo:Nat):Int),((sIx n n hi:Nat):Int)):=by
 have h1: ¬((1:Int)<0):=by omega
 unfold Builtin.Slice.sliceAdjust;simp only[h1,iX];refine Prod.ext ?_ ?_
 ·cases lo with
  |none=>rfl
  |some v=>exact Gj v n 0
 ·cases hi with
  |none=>rfl
  |some v=>exact Gj v n n
theorem D6(i j:Nat):Builtin.Slice.slicePlaces (i:Int) (j:Int) 1=j-i:=by
 unfold Builtin.Slice.slicePlaces;have h1:(1:Int)>0:=by omega
 simp only[h1,iA,Int.ediv_one];split<;>omega
theorem wV{v:gy}{o:Option Int}{Q:Option Int->Shared->Prop}(p:IsPart v o)(h:Q o s):wpAny (model prog w) A (Builtin.Slice.slicePartIndex v) Q E s:=by
 cases p with
 |none=>exact Am h
 |int i t=>exact slicePart_int h
theorem oy{sl:gm}{vl vu:gy}{lo hi:Option Int}{n:Nat}{Q:Int×Int×Nat->Shared->Prop}(hs:s.heap.IsSliceOf sl vl vu .none)(pl:IsPart vl lo)(pu:IsPart vu hi)
  (h:Q (((sIx n 0 lo:Nat):Int),1,sIx n n hi-sIx n 0 lo) s):wpAny (model prog w) A (Builtin.Slice.sliceApplied (.ref sl) (pure (n:Int))) Q E s:=by
 obtain⟨os,aG,cK,bB⟩:=id hs;unfold Builtin.Slice.sliceApplied Builtin.Slice.sliceFields;refine gw (gw (uJ aG bB (x:=vl) rfl (gw (uJ aG bB (x:=vu) rfl (gw (uJ aG bB (x:= .none) rfl (gA ?_)))))));refine gw (Am ?_);show wpAny _ _ (if((1:Int)==0)=true then _ else _) _ _ s;rw[gC (by decide)];refine gw (wV pl (gw (wV pu (gw (gA ?_)))));show wpAny _ _ (match Builtin.Slice.sliceAdjust lo hi 1 (n:Int) with|(lo,hi)=>pure (lo,(1:Int),Builtin.Slice.slicePlaces lo hi 1)) _ _ s;rw[E7 lo hi n];show wpAny _ _ (pure (((sIx n 0 lo:Nat):Int),(1:Int),Builtin.Slice.slicePlaces ((sIx n 0 lo:Nat):Int) ((sIx n n hi:Nat):Int) 1)) _ _ s;rw[D6];exact gA h
theorem Jz(xs:kg)(i k:Nat):((List.range k).filterMap fun(m:Nat)=>xs[((i:Int)+(m:Int)*1).toNat]?).toArray=((xs.toList.drop i).take k).toArray:=by
 have e:(fun(m:Nat)=>xs[((i:Int)+(m:Int)*1).toNat]?)=fun m=>xs[i+m]?:=by
  funext m;have:((i:Int)+(m:Int)*1).toNat=i+m:=by omega
  rw[this]
 rw[e];have:=pick_run xs i k;rw[List.filterMap_map] at this;have e2:((fun x=>xs[x]?)∘fun x=>i+x)=fun m=>xs[i+m]?:=rfl;rw[e2] at this;rw[this]
theorem EB{t sl:gm}{items:kg}{vl vu:gy}{lo hi:Option Int}{Q:hV}(ht:IsTup s.heap t items)(hs:s.heap.IsSliceOf sl vl vu .none)(pl:IsPart vl lo)(pu:IsPart vu hi)
  (hw: ¬(sIx items.size 0 lo=0/\sIx items.size items.size hi=items.size))
  (h:Q (.ref s.heap.objs.size) {s with heap:=s.heap.push {cls:= .type "tuple",data:= .seq ((items.toList.drop (sIx items.size 0 lo)).take (sIx items.size items.size hi-sIx items.size 0 lo)).toArray}})
  (cU:items.size<=sizeLine):wpAny (model prog w) A (getItem (.ref t) (.ref sl)) Q E s:=by
 have o6:sizeOk (.seq ((items.toList.drop (sIx items.size 0 lo)).take (sIx items.size items.size hi-sIx items.size 0 lo)).toArray):=by
  show((items.toList.drop (sIx items.size 0 lo)).take (sIx items.size items.size hi-sIx items.size 0 lo)).toArray.size<=sizeLine;rw[jc,pk,rS,jv];omega
 have hj:sIx items.size items.size hi<=items.size:=NU _ _ (ic _) hi;obtain⟨os,aG,cK,bB⟩:=id hs;have dM:s.TypeIs (.ref sl) "slice":=⟨os,aG,cK⟩
 unfold getItem
 try with_reducible refine lY ?_
 first|refine gw (gA ?_)|skip
 refine gw (Dx ht.typeIs (by decide) ?_)
 refine gw (wC (name:=Str.ofString "__getitem__") ht.typeIs vZ
  (pO vZ ht.typeIs Dw ?_ (Dv _ _)))
 show wpAny _ _ (Builtin.Tuple.tupleItemsOf (.ref t)>>=_) _ _ s;refine gw (Du ht ?_);refine gw (vq dM ?_);rw[gz (by decide)];refine gw (oy hs pl pu ?_)
 have aK: ¬((((sIx items.size 0 lo:Nat):Int)==0&&(1:Int)==1&&(sIx items.size items.size hi-sIx items.size 0 lo)==items.size)=true):=by
  intro q;rw[jY,jY] at q;have q1:((sIx items.size 0 lo:Nat):Int)=0:=qZ q.1.1;have q2:sIx items.size items.size hi-sIx items.size 0 lo=items.size:=qZ q.2;exact hw ⟨by omega,by omega⟩
 show wpAny _ _ (if(((sIx items.size 0 lo:Nat):Int)==0&&(1:Int)==1&&(sIx items.size items.size hi-sIx items.size 0 lo)==items.size)=true then _ else _) _ _ s;rw[gC aK,Jz]
 first
  |exact gw (m:=Builtin.Tuple.tupleExact _) (mB (gA ⟨_,rfl,gA h⟩) o6)
  |exact gw (m:=Builtin.Tuple.tupleExact _) (mB (gw (gA (gA ⟨_,rfl,gA h⟩))) o6)
  |exact gw (gw (m:=Builtin.Tuple.tupleExact _) (mB (gA (gA ⟨_,rfl,gA h⟩)) o6))
  |exact gw (gw (m:=Builtin.Tuple.tupleExact _) (mB (gA ⟨_,rfl,gA h⟩) o6))
end
end HT
namespace L2
open PySem PySem.Spec PyProof.Rows
abbrev TO:=St->Hp->(Option Int->Hp->Prop)->Prop
def PO(X:Cx)(e:Option Expr)(t:TO):Prop:=
 ∀(pins:gZ) (s:gu) (σ:St) (H:Hp) (Q:Option Int->Hp->Prop),Inv X pins σ H s->t σ H Q->
  wpAny (model X.prog X.w) X.A (evalPart e X.env) (fun u s'=> ∃o H',Inv X pins σ H' s'/\IsPart u o/\Q o H') X.xe s
noncomputable def Lf:TO:=fun _ H Q=>Q none H
def Qg(t:TE):TO:=fun σ H Q=>t σ H fun x H1=> ∃i,x= .int i/\Q (some i) H1
section
variable {X:Cx}{e:gx}{te:TE}{lo hi:Option Expr}{tl th:TO}{pos p2:Pos}
theorem FG:PO X none Lf:=by
 intro pins s σ H Q I h;rw[Dt];exact gA ⟨none,H,I,.none,h⟩
theorem FF(h:PE X e te):PO X (some e) (Qg te):=by
 intro pins s σ H Q I hw;rw[evalPart_some];refine thn (h pins s σ H _ I hw) fun u s1 ⟨x,H1,I1,r1,q1⟩=>?_;obtain⟨i,rfl,q⟩:=q1;obtain⟨t,rfl⟩:=r1;exact⟨some i,H1,I1,.int i t,q⟩
def SlR(X:Cx)(r:V->Option Int->Option Int->Hp->VK->Prop):Prop:=
 ∀(pins:gZ) (s:gu) (σ:St) (H:Hp) (x:V) (v vl vu:gy) (lo hi:Option Int) (sl:gm) (Q:VK),Inv X pins σ H s->RelV x v->s.heap.IsSliceOf sl vl vu .none->IsPart vl lo->IsPart vu hi->r x lo hi H Q->
  ∃T id,typeLookup (.type T) "__getitem__"=pure (some (.builtin id))/\s.TypeIs v T/\wpAny (model X.prog X.w) X.A (getItem v (.ref sl)) (EP X pins σ Q) X.xe s
def tSl(r:V->Option Int->Option Int->Hp->VK->Prop)(te:TE)(tl th:TO):TE:=fun σ H Q=>te σ H fun x H1=>tl σ H1 fun l H2=>th σ H2 fun u H3=>r x l u H3 Q
theorem BY{r:V->Option Int->Option Int->Hp->VK->Prop}(hr:SlR X r)(he:PE X e te)(hl:PO X lo tl)(hu:PO X hi th):PE X (.Subscript e (.Slice lo hi none p2) pos) (tSl r te tl th):=by
 intro pins s σ H Q I h;refine Subscript_ (thn (he pins s σ H _ I h) fun v s1 ⟨x,H1,I1,r1,q1⟩=>?_);refine wpAny_Slice (thn (hl pins s1 σ H1 _ I1 q1) fun vl s2 ⟨l,H2,I2,pl,q2⟩=>thn (hu pins s2 σ H2 _ I2 q2) fun vu s3 ⟨u,H3,I3,pu,q3⟩=>?_);rw[Dt];refine gA ?_;have I4:Inv X pins σ H3 {s3 with heap:=s3.heap.push {cls:= .type "slice",data:= .fields #[vl,vu,.none]}}:=I3.kept (t':=s3.toks) fun b ob q=>iB _ q;obtain⟨T,id,hT,ht,hg⟩:=hr pins {s3 with heap:=s3.heap.push {cls:= .type "slice",data:= .fields #[vl,vu,.none]}} σ H3 x v vl vu l u s3.heap.objs.size Q I4 r1 (Heap.IsSliceOf.new ..) pl pu q3;show wpAny (model X.prog X.w) X.A (subscriptTail e (.Slice lo hi none p2) v (.ref s3.heap.objs.size)) (EP X pins σ Q) X.xe {s3 with heap:=s3.heap.push {cls:= .type "slice",data:= .fields #[vl,vu,.none]}};exact tail_any (ops:=[.ref s3.heap.objs.size,v]) ht hT hg (by with_unfolding_all rfl)
noncomputable def Cw(xs:List V)(lo hi:Option Int):List V:=(xs.drop (HT.sIx xs.length 0 lo)).take (HT.sIx xs.length xs.length hi-HT.sIx xs.length 0 lo)
theorem vE(xs:List V)(lo hi:Option Int):(Cw xs lo hi).length<=xs.length:=by
 unfold Cw;rw[pk,rS];omega
def Tv(K:gQ):V->Option Int->Option Int->Hp->VK->Prop:=fun x lo hi H Q=> ∃a xs,x= .ref a/\SqT K H a xs/\
 ¬(HT.sIx xs.length 0 lo=0/\HT.sIx xs.length xs.length hi=xs.length)/\ ∀p,H p=none->Q (.ref p) (upd H p (.tup (Cw xs lo hi)))
theorem NQ:SlR X (Tv X.K):=by
 intro pins s σ H x v vl vu lo hi sl Q I rx hs pl pu h;obtain⟨a,xs,rfl,hx,hw,q⟩:=h;cases rx;obtain⟨b6,r,ht,hz⟩:=I.tuple hx;have hlen:b6.toArray.size=xs.length:=by rw[jc];exact r.length.symm
 refine⟨"tuple",_,vZ.lookup,ht.typeIs,?_⟩;refine HT.EB ht hs pl pu (by rw[hlen];exact hw) ?_ (by rw[hlen];exact hz);rw[hlen];refine⟨.ref s.heap.objs.size,_,I.laid (t':=s.toks) (o:= .tup (Cw xs lo hi)) (fun b ob q=>iB _ q) (ic _) ?_,rfl,q _ (I.hok.fresh (ic _))⟩;exact⟨ll (vE xs lo hi) hz,_,(r.drop (HT.sIx xs.length 0 lo)).take (HT.sIx xs.length xs.length hi-HT.sIx xs.length 0 lo),uN _ _⟩
def QM(K:gQ):R2:=fun x y H Q=> ∃a b xs ys,x= .ref a/\y= .ref b/\SqT K H a xs/\SqT K H b ys/\xs≠[]/\xs.length+ys.length<=sizeLine/\
 (ys=[]->Q (.ref a) H)/\(ys≠[]-> ∀p,H p=none->Q (.ref p) (upd H p (.tup (xs++ys))))
theorem Vals.nil_iff{xs:List V}{us:ir}(r:Vals xs us):us=[]↔xs=[]:=by
 cases r with
 |nil=>simp
 |cons _ _=>simp
theorem Mi:OpR X (binaryOp .Add) (QM X.K):=by
 intro pins s σ H x y v u Q I rx ry h;obtain⟨a,b,xs,ys,rfl,rfl,ha,hb,hx,hz,q1,q2⟩:=h;cases rx;cases ry;obtain⟨b6,r1,p1,_⟩:=I.tuple ha;obtain⟨g0,r2,p2,_⟩:=I.tuple hb;refine HT.RA p1 p2 (fun z=>hx (r1.nil_iff.mp z)) (fun z=>⟨.ref a,H,I,rfl,q1 (r2.nil_iff.mp z)⟩) (fun z=>?_) (by rw[<-r1.length,<-r2.length];exact hz);refine⟨.ref s.heap.objs.size,_,I.laid (t':=s.toks) (o:= .tup (xs++ys)) (fun b ob q=>iB _ q) (ic _) ?_,rfl,q2 (fun w=>z (r2.nil_iff.mpr w)) _ (I.hok.fresh (ic _))⟩;exact⟨by rw[mz];exact hz,_,r1.append r2,uN _ _⟩
end
noncomputable def ixN(n:Nat)(i:Int):Option Nat:=if 0<=i then(if i<n then some i.toNat else none) else if -(n:Int)<=i then some (i+n).toNat else none
noncomputable def atI{α:Type}(xs:List α)(i:Int):Option α:=(ixN xs.length i).bind fun j=>xs[j]?
theorem AO{n:Nat}{i:Int}{j:Nat}(h:ixN n i=some j):seqIndex? i n=some j/\j<n/\ -(n:Int)<=i/\i<n:=by
 unfold ixN at h;by_cases h0:0<=i
 ·rw[gz h0] at h;by_cases h1:i<n
  ·rw[gz h1] at h;have e:i.toNat=j:=iC h;exact⟨by rw[Ds h0 h1,e],by omega,by omega,h1⟩
  ·rw[gC h1] at h;cases h
 ·rw[gC h0] at h;by_cases h1: -(n:Int)<=i
  ·rw[gz h1] at h;have e:(i+n).toNat=j:=iC h;exact⟨by rw[Dr (by omega) h1,e],by omega,h1,by omega⟩
  ·rw[gC h1] at h;cases h
theorem Gr{α:Type}{xs:List α}{i:Int}{v:α}(h:atI xs i=some v): ∃j,seqIndex? i xs.length=some j/\xs[j]?=some v/\j<xs.length/\ -(xs.length:Int)<=i/\i<xs.length:=by
 unfold atI at h
 cases e:ixN xs.length i with
 |none=>rw[e] at h;cases h
 |some j=>
  rw[e] at h;obtain⟨h1,h2,h3,h4⟩:=AO e;exact⟨j,h1,h,h2,h3,h4⟩
def Be(b:gx):Prop:= ∀o i,subscripted b false o i=operate [o,i] (getItem o i)
def IxR(X:Cx)(r:R2):Prop:=
 ∀(value slice:gx) (pins:gZ) (s:gu) (σ:St) (H:Hp) (x y:V) (v u:gy) (Q:VK),Inv X pins σ H s->RelV x v->RelV y u->r x y H Q->
  subscripted slice false v u=operate [v,u] (getItem v u)->wpAny (model X.prog X.w) X.A (subscriptTail value slice v u) (EP X pins σ Q) X.xe s
def MtR(X:Cx)(id:String)(r:V->List V->Hp->VK->Prop):Prop:=
 ∀(pins:gZ) (s:gu) (σ:St) (H:Hp) (x:V) (xs:List V) (v:gy) (us:ir) (Q:VK),Inv X pins σ H s->RelV x v->Vals xs us->r x xs H Q->
  wpAny (model X.prog X.w) X.A (call (.builtin id) (v::us)) (EP X pins σ Q) X.xe s
section
variable {X:Cx}{a b:gx}{ta tb:TE}{pos:Pos}
theorem Q0{r:R2}(hr:IxR X r)(ha:PE X a ta)(hb:PE X b tb)(hs:Be b):PE X (.Subscript a b pos) (tOp r ta tb):=by
 intro pins s σ H Q I h;exact Subscript_ (PR ha hb I h fun v u s2 x y H2 I2 rx ry q=>hr a b pins s2 σ H2 x y v u Q I2 rx ry q (hs _ _))
def TF(K:gQ):R2:=fun x y H Q=> ∃p xs i v,x= .ref p/\y= .int i/\SqL K H p xs/\atI xs i=some v/\Q v H
def TC(K:gQ):R2:=fun x y H Q=> ∃p xs i v,x= .ref p/\y= .int i/\SqT K H p xs/\atI xs i=some v/\Q v H
theorem Mu:IxR X (TF X.K):=by
 intro value slice pins s σ H x y v u Q I rx ry h hs;obtain⟨p,xs,i,z,rfl,rfl,hq,he,q⟩:=h;cases rx;obtain⟨t,rfl⟩:=ry;obtain⟨b6,r,pl,hz⟩:=I.list hq;obtain⟨j,h1,h2,h3,h4,h5⟩:=Gr he;obtain⟨w,ew,aS⟩:=r.get h2;have hl:=r.length;have hn:=xP;have fin:EP X pins σ Q w s:=⟨z,H,I,aS,q⟩
 by_cases h0:0<=i
 ·have hj:i.toNat=j:=by
   rw[Ds h0 h5] at h1;exact iC h1
  exact item_listR pl.isList h0 (by omega) (by rw[hj];simpa using ew) fin hs
 ·have hj:(i+(b6.toArray.size:Int)).toNat=j:=by
   rw[Dr (by omega) h4] at h1;rw[jc,<-hl];exact iC h1
  exact Ie (x:=w) pl.isList.typeIs slot_list_getitem.lookup
   (wpAny_getItem_list_neg (Q:=fun r s'=>r=w/\EP X pins σ Q r s') pl.isList (by omega) (by rw[jc]<;>omega) (by omega) (by rw[hj];simpa using ew) ⟨rfl,fin⟩) hs
theorem Pg:IxR X (TC X.K):=by
 intro value slice pins s σ H x y v u Q I rx ry h hs;obtain⟨p,xs,i,z,rfl,rfl,hq,he,q⟩:=h;cases rx;obtain⟨t,rfl⟩:=ry;obtain⟨b6,r,pl,hz⟩:=I.tuple hq;obtain⟨j,h1,h2,h3,h4,h5⟩:=Gr he;obtain⟨w,ew,aS⟩:=r.get h2;have hl:=r.length;have hn:=xP;have fin:EP X pins σ Q w s:=⟨z,H,I,aS,q⟩
 exact Ie (x:=w) pl.typeIs slot_tuple_getitem.lookup
  (getItem_tuple (j:=j) (Q:=fun r s'=>r=w/\EP X pins σ Q r s') pl (by omega) (by omega) (by rw[jc,<-hl];exact h1) (by simpa using ew) ⟨rfl,fin⟩) hs
theorem Er(b6:ir)(n j:Nat)(u:gy):Obj.mapSeq (·.setIfInBounds j u) {cls:= .type "list",data:= .seq b6.toArray n}={cls:= .type "list",data:= .seq (b6.set j u).toArray n}:=by
 simp[Obj.mapSeq]
theorem Inv.lst{pins:gZ}{σ:St}{H:Hp}{s:gu}{p:gm}{xs:List V}(I:Inv X pins σ H s)(h:H p=some (.lst xs)):
  ∃(b6:ir) (n:Nat),Vals xs b6/\s.heap.get? p=some {cls:= .type "list",data:= .seq b6.toArray n}/\xs.length<=sizeLine:=by
 obtain⟨z,b6,n,r,e⟩:=I.hok p _ h;exact⟨b6,n,r,e,z⟩
theorem Inv.lstUpd{pins:gZ}{σ:St}{H:Hp}{s:gu}{p:gm}{xs ys:List V}{b6 its':ir}{n n':Nat}{f:Obj->Obj}(I:Inv X pins σ H s)(h:H p=some (.lst xs))
  (ho:s.heap.get? p=some {cls:= .type "list",data:= .seq b6.toArray n})(hf:f {cls:= .type "list",data:= .seq b6.toArray n}={cls:= .type "list",data:= .seq its'.toArray n'})(r:Vals ys its')(hz:ys.length<=sizeLine)(t:Nat):
  Inv X pins σ (upd H p (.lst ys)) {s with heap:=s.heap.update p f,toks:=t}:=by
 have e:(s.heap.update p f).get? p=some {cls:= .type "list",data:= .seq its'.toArray n'}:=by
  rw[uI f ho (by rw[hf]<;>rfl),hf]
 refine I.write (x:=p) (e:=p) (by rw[h];trivial) (.inl rfl) (fun b u hb q=>(Al _ _ (mC hb)).trans q) ⟨_,e⟩ ?_;exact⟨hz,its',n',r,e⟩
def QJ:V->V->V->Hp->(Hp->Prop)->Prop:=fun o i v H Q=> ∃p xs k j,o= .ref p/\i= .int k/\H p=some (.lst xs)/\ixN xs.length k=some j/\Q (upd H p (.lst (xs.set j v)))
theorem IW:RF X QJ:=by
 intro pins s σ H o i v ov iv u Q I ro ri rv h;obtain⟨p,xs,k,j,rfl,rfl,hp,hj,q⟩:=h;cases ro;obtain⟨t,rfl⟩:=ri;obtain⟨b6,n,r,ho,hz⟩:=I.lst hp;obtain⟨h1,h2,h3,h4⟩:=AO hj;have hl:=r.length;have hn:=xP
 have I':Inv X pins σ (upd H p (.lst (xs.set j v))) {s with heap:=s.heap.update p (Obj.mapSeq (·.setIfInBounds j u))}:=
  I.lstUpd hp ho (Er b6 n j u) (r.set rv j) (by rw[pN];exact hz) s.toks
 by_cases h0:0<=k
 ·have hk:k.toNat=j:=by
   rw[Ds h0 h4] at h1;exact iC h1
  exact PySem.W.ki_setAt ho h0 (by omega) (by rw[jc,<-hl];exact h4) (by rw[hk];exact⟨_,I',q⟩)
 ·have hk:(k+(b6.toArray.size:Int)).toNat=j:=by
   rw[Dr (by omega) h3] at h1;rw[jc,<-hl];exact iC h1
  exact PySem.W.ki_setBack ho (by omega) (by rw[jc,<-hl];exact h3) (by omega) (by rw[hk];exact⟨_,I',q⟩)
theorem Aw(lo hi:Option Int)(n:Nat):(sliceBounds lo hi none n).1=((HT.sIx n 0 lo:Nat):Int)/\(sliceBounds lo hi none n).2.1=((HT.sIx n n hi:Nat):Int)/\(sliceBounds lo hi none n).2.2=1:=by
 refine⟨?_,?_,rfl⟩
 ·cases lo with
  |none=>simp[sliceBounds,HT.sIx]
  |some i=>
   simp only[sliceBounds,HT.sIx,Option.getD_none,show(1:Int)>0 by decide,iA];by_cases h:i<0
   ·simp only[h,iA]<;>omega
   ·simp only[h,iX]<;>omega
 ·cases hi with
  |none=>simp[sliceBounds,HT.sIx]
  |some i=>
   simp only[sliceBounds,HT.sIx,Option.getD_none,show(1:Int)>0 by decide,iA];by_cases h:i<0
   ·simp only[h,iA]<;>omega
   ·simp only[h,iX]<;>omega
theorem yN(b6:ir)(lo hi:Option Int):slicePick b6.toArray lo hi none=((b6.drop (HT.sIx b6.length 0 lo)).take (HT.sIx b6.length b6.length hi-HT.sIx b6.length 0 lo)).toArray:=by
 obtain⟨h1,h2,h3⟩:=Aw lo hi b6.toArray.size;unfold slicePick;rw[h1,h2,h3];simp only[sliceRange_one,pick_run,jc]<;>rfl
def Tw(K:gQ):V->Option Int->Option Int->Hp->VK->Prop:=fun x lo hi H Q=> ∃a xs,x= .ref a/\SqL K H a xs/\ ∀p,H p=none->Q (.ref p) (upd H p (.lst (Cw xs lo hi)))
theorem Li:SlR X (Tw X.K):=by
 intro pins s σ H x v vl vu lo hi sl Q I rx hs pl pu h;obtain⟨a,xs,rfl,hx,q⟩:=h;cases rx;obtain⟨b6,r,ht,hz⟩:=I.list hx;have hlen:=r.length;refine⟨"list",_,slot_list_getitem.lookup,ht.isList.typeIs,?_⟩;refine wpAny_getItem_list_slice ht.isList hs pl pu .none (by simp) ?_ (by rw[jc]<;>omega);rw[yN,<-hlen];refine⟨.ref s.heap.objs.size,_,I.laid (t':=s.toks) (o:= .lst (Cw xs lo hi)) (fun b ob q=>iB _ q) (ic _) ?_,rfl,q _ (I.hok.fresh (ic _))⟩;exact⟨ll (vE xs lo hi) hz,_,0,(r.drop (HT.sIx xs.length 0 lo)).take (HT.sIx xs.length xs.length hi-HT.sIx xs.length 0 lo),kU _ rfl⟩
noncomputable def Nl:V->Bool
 | .non=>true
 | .bl _=>true
 | .int _=>true
 | .str _=>true
 |_=>false
noncomputable def eqV:V->V->Bool
 | .non,.non=>true
 | .bl a,.bl b=>a==b
 | .bl a,.int b=>(if a then 1 else 0)==b
 | .int a,.bl b=>a==(if b then 1 else 0)
 | .int a,.int b=>a==b
 | .str a,.str b=>a==b
 |_,_=>false
theorem kD{A:gG}{s:gu}{y x:V}{u v:gy}(ry:RelV y u)(rx:RelV x v)(fy:Nl y=true)(fx:Nl x=true):SeqAt.EqAt A s u v (eqV y x):=by
 cases y with
 |non=>
  cases ry
  cases x with
  |non=>cases rx;exact SeqAt.EqAt.same _
  |bl b=>cases rx;exact SeqAt.EqAt.none_bool b
  |int b=>obtain⟨t,rfl⟩:=rx;exact SeqAt.EqAt.none_int b t
  |str b=>obtain⟨t,rfl⟩:=rx;exact SeqAt.EqAt.none_str b t
  |_=>exact absurd (show false=true from fx) jl
 |bl a=>
  cases ry
  cases x with
  |non=>cases rx;exact SeqAt.EqAt.bool_none a
  |bl b=>cases rx;exact SeqAt.EqAt.bool_bool a b
  |int b=>obtain⟨t,rfl⟩:=rx;exact SeqAt.EqAt.bool_int a b t
  |str b=>obtain⟨t,rfl⟩:=rx;exact SeqAt.EqAt.bool_str a b t
  |_=>exact absurd (show false=true from fx) jl
 |int a=>
  obtain⟨t',rfl⟩:=ry
  cases x with
  |non=>cases rx;exact SeqAt.EqAt.int_none a t'
  |bl b=>cases rx;exact SeqAt.EqAt.int_bool a t' b
  |int b=>obtain⟨t,rfl⟩:=rx;exact SeqAt.EqAt.int_int a t' b t
  |str b=>obtain⟨t,rfl⟩:=rx;exact SeqAt.EqAt.int_str a t' b t
  |_=>exact absurd (show false=true from fx) jl
 |str a=>
  obtain⟨t',rfl⟩:=ry
  cases x with
  |non=>cases rx;exact SeqAt.EqAt.str_none a t'
  |bl b=>cases rx;exact SeqAt.EqAt.str_bool a t' b
  |int b=>obtain⟨t,rfl⟩:=rx;exact SeqAt.EqAt.str_int a t' b t
  |str b=>obtain⟨t,rfl⟩:=rx;exact SeqAt.EqAt.str_str a t' b t
  |_=>exact absurd (show false=true from fx) jl
 |_=>exact absurd (show false=true from fy) jl
theorem uf:ju X (.builtin "len") (fun xs H Q=> ∃p ys,xs=[.ref p]/\(SqL X.K H p ys\/SqT X.K H p ys)/\Q (.int ys.length) H):=by
 intro pins s σ H xs us Q I r h;obtain⟨p,ys,rfl,hq,q⟩:=h;obtain⟨u,rfl,rx⟩:=rh r;cases rx;have hn:=xP;rcases hq with hq|hq
 ·obtain⟨b6,r',pl,hz⟩:=I.list hq;have hlen:=r'.length;exact Calls.call_len_list pl.isList (by simp only[jc]<;>omega) ⟨.int ys.length,H,I.tok _,⟨s.toks+1,by rw[jc,hlen]⟩,q⟩
 ·obtain⟨b6,r',pl,hz⟩:=I.tuple hq;have hlen:=r'.length;exact len_tuple pl (by simp only[jc]<;>omega) ⟨.int ys.length,H,I.tok _,⟨s.toks+1,by rw[jc,hlen]⟩,q⟩
theorem ue:ju X (.type "list") (fun xs H Q=> ∃p ys,xs=[.ref p]/\(SqL X.K H p ys\/SqT X.K H p ys)/\ ∀l,H l=none->Q (.ref l) (upd H l (.lst ys))):=by
 intro pins s σ H xs us Q I r h;obtain⟨p,ys,rfl,hq,q⟩:=h;obtain⟨u,rfl,rx⟩:=rh r;cases rx
 have fin: ∀(b6:ir),Vals ys b6->ys.length<=sizeLine-> ∀(h':gL) (c':Nat),(∀b o',s.heap.get? b=some o'->h'.get? b=some o')->
   h'.get? s.heap.objs.size=some {cls:= .type "list",dict:=none,data:= .seq b6.toArray c',slots:= #[]}->EP X pins σ Q (.ref s.heap.objs.size) {s with heap:=h'}:=fun b6 r' hz h' c' kp e=>
  ⟨.ref s.heap.objs.size,_,I.laid (t':=s.toks) kp (ic _) (show ObjOk X.prog X.w _ h' _ (.lst ys) from⟨hz,b6,c',r',e⟩),rfl,q _ (I.hok.fresh (ic _))⟩
 rcases hq with hq|hq
 ·obtain⟨b6,r',pl,hz⟩:=I.list hq;have hlen:=r'.length;obtain⟨o,ho,hc,n,hd⟩:=pl.isList;exact call_list_seq p (.inl rfl) ho hc hd (fun h' c' kp e=>fin b6 r' hz h' c' kp e) (by simp only[jc]<;>omega)
 ·obtain⟨b6,r',pl,hz⟩:=I.tuple hq;have hlen:=r'.length;obtain⟨o,ho,hc,n,hd⟩:=pl;exact call_list_seq p (.inr rfl) ho hc hd (fun h' c' kp e=>fin b6 r' hz h' c' kp e) (by simp only[jc]<;>omega)
theorem rG:ju X (.type "tuple") (fun xs H Q=> ∃p ys,xs=[.ref p]/\((SqL X.K H p ys/\ ∀l,H l=none->Q (.ref l) (upd H l (.tup ys)))\/(SqT X.K H p ys/\Q (.ref p) H))):=by
 intro pins s σ H xs us Q I r h;obtain⟨p,ys,rfl,h⟩:=h;obtain⟨u,rfl,rx⟩:=rh r;cases rx;rcases h with⟨hq,q⟩|⟨hq,q⟩
 ·obtain⟨b6,r',pl,hz⟩:=I.list hq;have hlen:=r'.length;refine call_tuple_list pl.isList (fun h' kp=>?_) (by simp only[jc]<;>omega);have I1:Inv X pins σ H {s with heap:=h'}:=I.kept (t':=s.toks) kp
  have I2:Inv X pins σ (upd H h'.objs.size (.tup ys)) {s with heap:=h'.push {cls:= .type "tuple",data:= .seq b6.toArray}}:=
   I1.laid (t':=s.toks) (fun b o e=>iB _ e) (ic _) (show ObjOk X.prog X.w _ _ _ (.tup ys) from⟨hz,b6,r',uN _ _⟩)
  exact⟨.ref h'.objs.size,_,I2,rfl,q _ (I1.hok.fresh (ic _))⟩
 ·obtain⟨b6,r',pl,hz⟩:=I.tuple hq;exact call_tuple_same pl ⟨.ref p,H,I,rfl,q⟩
def tyV(K:gQ)(T:String)(x:V)(H:Hp):Prop:=match x with
 | .str _=>T="str"
 | .int _=>T="int"
 | .ref p=>(T="list"/\ ∃xs,SqL K H p xs)\/(T="tuple"/\ ∃o,K.lookup p=some o/\o.cls= .type "tuple"/\o.dict=none)\/
   (T="dict"/\((∃i3,H p=some (.dK i3))\/ ∃i3,H p=some (.dT i3)))\/(T="set"/\ ∃S n,H p=some (.set S n))
 |_=>False
theorem NG{pins:gZ}{σ:St}{H:Hp}{s:gu}{T:String}{x:V}{v:gy}(I:Inv X pins σ H s)(r:RelV x v)(ty:tyV X.K T x H):
  s.TypeIs v T/\ ∀a,v= .ref a-> ∃ob,s.heap.get? a=some ob/\ob.dict=none:=by
 cases x with
 |str z=>
  obtain⟨t,rfl⟩:=r;cases(show T="str" from ty);exact⟨typeIs_str s z t,fun _ e=>nomatch e⟩
 |int i=>
  obtain⟨t,rfl⟩:=r;cases(show T="int" from ty);exact⟨typeIs_int s i t,fun _ e=>nomatch e⟩
 |ref p=>
  cases r;rcases ty with⟨rfl,xs,hq⟩|⟨rfl,o,hk,hc,hd⟩|⟨rfl,hk⟩|⟨rfl,S,n,hk⟩
  ·obtain⟨b6,_,pl,_⟩:=I.list hq;refine⟨pl.isList.typeIs,fun a e=>?_⟩;cases e;obtain⟨o,n,e,c,hd,_⟩:=pl;exact⟨o,e,hd⟩
  ·refine⟨⟨o,I.kIn p o hk,hc⟩,fun a e=>?_⟩;cases e;exact⟨o,I.kIn _ o hk,hd⟩
  ·have z: ∃o,s.heap.get? p=some o/\o.ExactDict:=by
    rcases hk with⟨i3,hk⟩|⟨i3,hk⟩
    ·obtain⟨_,_,_,_,o,_,_,e,ex,_⟩:=I.hok p _ hk;exact⟨o,e,ex⟩
    ·obtain⟨_,_,_,_,o,_,_,e,ex,_⟩:=I.hok p _ hk;exact⟨o,e,ex⟩
   obtain⟨o,e,ex⟩:=z;refine⟨⟨o,e,ex.1⟩,fun a e2=>?_⟩;cases e2;exact⟨o,e,ex.2.1⟩
  ·obtain⟨o,_,_,_,e,ex,_⟩:=I.hok p _ hk;refine⟨⟨o,e,ex.1⟩,fun a e2=>?_⟩;cases e2;exact⟨o,e,ex.2.1⟩
 |_=>exact False.elim ty
def tBM(K:gQ)(T:String)(r:V->List V->Hp->VK->Prop)(to:TE)(t:TA):TE:=fun σ H Q=>to σ H fun x H1=>tyV K T x H1/\t σ H1 fun xs H2=>r x xs H2 Q
variable {o e:gx}{es:jf}{to:TE}{t:TA}{name:Str}{apos i4:Pos}{T id:String}{r:V->List V->Hp->VK->Prop}
theorem JH(pa:PlainAttrs T)(slot:Slot T name id)(hty:typeOf (.builtin id)=pure (.type "method_descriptor"))(hm:MtR X id r)(ho:PE X o to)(ha:PA X (e::es) t)
  (j8:attributeBase o name X.env (eval o X.env)=eval o X.env:=by rfl)
  (n6:((backTo i4 (starEach (e::es) X.env)).all (fun x=>!x.1)&&(backToKw i4 (keywordEach [] X.env)).all (fun x=>x.1.isSome)
   &&decide ((e::es).length+([]:List Keyword).length+(if([]:List Keyword).isEmpty then 0 else 1)<30))=true:=by rfl)
  (j7:(apos.endLine==i4.line)=true:=by rfl)(hs:starEach (e::es) X.env=(false,eval e X.env)::starEach es X.env:=by rfl)(i6:(backTo i4 (starEach es X.env)).any (·.1)=false:=by rfl):
  PE X (.Call (.Attribute o name apos) (e::es) [] i4) (tBM X.K T r to t):=by
 intro pins s σ H Q I h;refine Ic j8 n6 j7 rfl (thn (ho pins s σ H _ I h) fun v s1 ⟨x,H1,I1,r1,ty,q1⟩=>?_);obtain⟨h1,h2⟩:=NG I1 r1 ty;refine⟨T,id,pa,slot,hty,h1,h2,?_⟩;have hA:=ha i4 pins s1 σ H1 _ I1 q1;rw[hs] at hA ⊢;refine Ib (by show(false||(backTo i4 (starEach es X.env)).any (·.1))=false;rw[i6]<;>rfl) (Dq ?_);exact thn hA fun us s2 ⟨vs,H2,I2,r2,q2⟩=>hm pins s2 σ H2 x vs v us Q I2 r1 r2 q2
end
def MtM(X:Cx)(id:String)(r:V->List V->Hp->VK->Prop):Prop:=
 ∀(pins:gZ) (s:gu) (σ:St) (H:Hp) (x:V) (xs:List V) (v:gy) (us:ir) (Q:VK),Inv X pins σ H s->RelV x v->Vals xs us->r x xs H Q->
  wpAny (model X.prog X.w) X.A (call (.builtin id) (v::us)) (EP X pins σ Q) X.xe s
theorem Vals.one: ∀{x:V} {us:ir},Vals [x] us-> ∃u,us=[u]/\RelV x u
 |_,_,.cons r .nil=>⟨_,rfl,r⟩
theorem Vals.eraseIdx: ∀{xs:List V} {us:ir} (i:Nat),Vals xs us->Vals (xs.eraseIdx i) (us.eraseIdx i)
 |_,_,_,.nil=> .nil
 |_,_,0,.cons _ t=>t
 |_,_,i+1,.cons r t=> .cons r (Vals.eraseIdx i t)
theorem Vals.reverse{xs:List V}{us:ir}(h:Vals xs us):Vals xs.reverse us.reverse:=by
 induction h with
 |nil=>exact .nil
 |cons r t ih=>rw[wB,wB];exact Vals.append ih (.cons r .nil)
theorem zu{α:Type}: ∀(l:List α) (i:Nat),(l.eraseIdx i).length<=l.length
 |[],_=>ic _
 |_::_,0=>wA _
 |_::r,i+1=>Nat.succ_le_succ (zu r i)
section
variable {X:Cx}{pins:gZ}{σ:St}{H:Hp}{s:gu}{l b:gm}{xs ys zs:List V}
theorem Inv.lset{b6 its':ir}{n:Nat}{f:Array Value->Array Value}{t':Nat}(I:Inv X pins σ H s)(hH:H l=some (.lst xs))
  (e:s.heap.get? l=some {cls:= .type "list",data:= .seq b6.toArray n})(hf:f b6.toArray=its'.toArray)(hv:Vals ys its')(hz:ys.length<=sizeLine):
  Inv X pins σ (upd H l (.lst ys)) {s with heap:=s.heap.update l (Obj.mapSeq f),toks:=t'}:=by
 have q:=PySem.IsL.update e f;rw[hf] at q;refine I.write (x:=l) (e:=l) (by rw[hH];exact trivial) (.inl rfl) (fun b' u hb hu=>(Al s.heap (Obj.mapSeq f) (mC hb)).trans hu) ⟨_,q⟩ ?_;exact⟨hz,its',_,hv,q⟩
theorem Inv.lnew{b6:ir}{t':Nat}(I:Inv X pins σ H s)(hv:Vals ys b6)(hz:ys.length<=sizeLine):
  Inv X pins σ (upd H s.heap.objs.size (.lst ys)) {s with heap:=s.heap.push {cls:= .type "list",data:= .seq b6.toArray},toks:=t'}:=
 I.laid (fun _ _ q=>iB _ q) (ic _) ⟨hz,b6,0,hv,kU _ rfl⟩
theorem Inv.fresh(I:Inv X pins σ H s):H s.heap.objs.size=none:=I.hok.fresh (ic _)
theorem Inv.lstM(I:Inv X pins σ H s)(hH:H l=some (.lst xs)):xs.length<=sizeLine/\ ∃(b6:ir) (n:Nat),Vals xs b6/\xs.length=b6.length/\s.heap.get? l=some {cls:= .type "list",data:= .seq b6.toArray n}:=by
 obtain⟨z,b6,n,r,e⟩:=I.hok l _ hH;exact⟨z,b6,n,r,r.length,e⟩
end
section
variable {X:Cx}
def Lv:V->List V->Hp->VK->Prop:=fun x vs H Q=> ∃l xs y,x= .ref l/\vs=[y]/\H l=some (.lst xs)/\xs.length<sizeLine/\Q .non (upd H l (.lst (xs++[y])))
theorem G8:MtM X "list.append" Lv:=by
 intro pins s σ H x vs v us Q I rx rv h;obtain⟨l,xs,y,rfl,rfl,hH,hz,q⟩:=h;cases rx;obtain⟨u,rfl,ru⟩:=rv.one;obtain⟨z,b6,n,r,hl,e⟩:=I.lstM hH;refine Ak F.slot_list_append ⟨_,e,rfl⟩ Ia (H9 _ _) (PySem.list_append l b6.toArray n u (by rw[jc];omega)) ⟨e,?_⟩;refine⟨.non,_,I.lset (its':=b6++[u]) hH e (by simp) (r.append (.cons ru .nil)) ?_,rfl,q⟩;rw[mz,uH];omega
def N1:V->List V->Hp->VK->Prop:=fun x vs H Q=> ∃l xs i k y,x= .ref l/\vs=[.int i]/\H l=some (.lst xs)/\ -(2^63)<=i/\i<2^63/\seqIndex? i xs.length=some k/\xs[k]?=some y/\Q y (upd H l (.lst (xs.eraseIdx k)))
theorem JW:MtM X "list.pop" N1:=by
 intro pins s σ H x vs v us Q I rx rv h;obtain⟨l,xs,i,k,y,rfl,rfl,hH,h1,h2,hk,hy,q⟩:=h;cases rx;obtain⟨u,rfl,ru⟩:=rv.one;obtain⟨t,rfl⟩:=ru;obtain⟨z,b6,n,r,hl,e⟩:=I.lstM hH;obtain⟨w,hw,aS⟩:=r.get hy
 refine Ak F.slot_list_pop ⟨_,e,rfl⟩ F.entry_list_pop (F.args_list_pop_2 _ _)
  (MeetsSeq.list_pop_at l b6.toArray n i t k w (fitsIndex_both h1 h2) (by rw[jc,<-hl];exact hk) (by rw[<-lj];exact hw) (by rw[jc];omega)) ⟨e,?_⟩
 refine⟨y,_,I.lset (its':=b6.eraseIdx k) hH e ?_ (r.eraseIdx k) ?_,aS,q⟩
 ·show b6.toArray.eraseIdxIfInBounds k=(b6.eraseIdx k).toArray;rw[List.eraseIdxIfInBounds_toArray]
 ·have:=zu xs k;omega
end
section
variable {prog:gM}{w:gE}{A:gG}{E:hV}{s:gu}
end
section
variable {X:Cx}
end
end L2
namespace Att
open PySem PySem.W PySem.Calls PyProof.Rows
theorem vL{P:Params}{h:gL}: ∀(ns:ie) (vs:ir),WellAll P h vs (ns.map WData.int)->IntsAre vs ns:=by
 intro ns
 induction ns with
 |nil=>
  intro vs w;rw[rR] at w;cases w;exact .nil
 |cons n ns ih=>
  intro vs w;rw[iY] at w
  cases w with
  |cons a b=>
   cases a;exact .cons _ _ (ih _ b)
theorem GJ{l:OpenLaw}{n:Nat}(hn:l.most=some n){P:Params}{h:gL}{args:List WData}{vals:ir}
  (ak:l.row.toRowW.claim.pre args=true)(fg:WellAll P h vals args):
  ∃a vs ns,vals=[Value.ref a]/\args=[WData.list (ns.map WData.int)]/\h.get? a=some {cls:= .type "list",data:= .seq vs.toArray}/\IntsAre vs ns/\ns.length<=n:=by
 have eD:WShape.hasAll [] args [.list .int]=true:=(pre_splitW ak).1;have hc:l.pre.holds [] {args:=args}=true:=(pre_splitW ak).2;obtain⟨d,r,rfl,h1,h2⟩:=hasAllW_cons eD;obtain rfl:=hasAllW_nil h2;obtain⟨xs,rfl,h3⟩:=hasW_list h1;obtain⟨ns,rfl⟩:=items_int h3
 have hlen:ns.length<=n:=by
  unfold OpenLaw.pre at hc
  have h4:(WTm.not (.lt (.lit (.int (n:Int))) (.len (.arg 0)))).holds [] {args:=[.list (ns.map .int)]}=true:=by
   have h4:=(holds_andW hc).1;rw[hn] at h4;exact h4
  have h5:=condW_of h4 (w_not (w_lt w_lit (w_len_list (w_arg rfl))));rw[jk] at h5;refine Nat.le_of_not_lt fun q=>?_;have q':(n:Int)<((ns.length:Nat):Int):=by omega
  first
   |(rw[Aj q'] at h5;exact absurd h5 (by decide))
   |(simp at h5;omega)
 cases fg with
 |cons w1 w2=>
  cases w2
  cases w1 with
  |list ho cM=>exact⟨_,_,ns,rfl,rfl,ho,vL ns _ cM,hlen⟩
theorem GV(l:OpenLaw)(args:List WData):l.row.toRowW.claim.post args (.bool true) args=true:=
 postW_of (r:=l.row.toRowW) (X:=(true==true))
  (show WShape.has [] (.bool true) .bool=true by first|rfl|decide|simp[WShape.has,WShape.arms,WShape.armsAll])
  (show(WTm.eq .res (.lit (.bool true))).value [] {args:=args,res:=some (.bool true),after:=args}=some (.bool (true==true)) from w_eq_bool (w_res rfl) w_lit) rfl
theorem MM{l:OpenLaw}{n:Nat}{q:gM}{loose:gT}{XP:(Str->Option Value)->Heap->Prop}{YP:World->Heap->Prop}{d:DefRec}
  (hn:l.most=some n)(cI:d.params.defaults=[])
  (call: ∀(w:gE) (s₀ s₁:gu) (mg mb:jK) (fa:gm) (o:Obj) (pm cd doc:gy) (a:gm) (vs:ir) (ns:ie),
   Ground q loose [] XP w s₀ mg mb s₁.heap->YP w s₁.heap->
   s₁.heap.get? fa=some o->o.data= .func (docDef d.name d.params d.body d.scope pm cd doc)->s₁.heap.CodeRec cd d.name->mg d.name=some (.ref fa)->
   s₁.heap.get? a=some {cls:= .type "list",data:= .seq vs.toArray}->IntsAre vs ns->ns.length<=n->s₁.gens= #[]->
   codeAny (model l.prog w) callerA (.call (.ref fa) ⟨[.ref a],[]⟩) (fun r s'=>r= .ok (.ret (.bool true))/\OldK s₁.heap s'.heap/\s'.os=s₁.os/\AllBare s'.gens) s₁):
  WalkO q loose XP YP l.row.toRowW d [] (fun f vs=>PySem.call f vs):=by
 intro w s₀ s₁ mg mb G Y fa o pm cd doc dV kV ho hd r9 hD hmg hg args vals as ak hlay hrd fg hlo;obtain rfl:dV= .none:=Dflts.none hD cI;obtain rfl:kV= .none:=Dflts.noKw hD;obtain⟨a,vs,ns,rfl,rfl,cz,hints,hlen⟩:=GJ hn ak fg;refine enter_call (rd (call w s₀ s₁ mg mb fa o pm cd doc a vs ns G Y ho (fd_plain hd) r9 hmg cz hints hlen hg) fun r s' hq=>?_);obtain⟨rfl,h2,h3,h4⟩:=hq;exact⟨.inl ⟨.bool true,.bool true,[],rfl,fun _=>rfl,.bool true,GV l _,fun _=>⟨List.Pairwise.nil,fun _ hm=>(nomatch hm)⟩⟩,h2,h3,h4⟩
section
variable {prog:gM}{w:gE}{A:gG}{E:hV}{s:gu}{K:Frag}
end
end Att
namespace L2
open PySem PySem.Spec PyProof.Rows
theorem zd: ∀{vs:ir} {ns:ie},IntsAre vs ns->Vals (ns.map V.int) vs
 |_,_,.nil=> .nil
 |_,_,.cons n t h=> .cons ⟨t,rfl⟩ (zd h)
noncomputable def pd(s:Stmt):Arguments:=match s with
 | .FunctionDef _ a _ _ _ _ _ _ _ _=>a
 |_=>{posonlyargs:=[],args:=[],vararg:=none,kwonlyargs:=[],kw_defaults:=[],kwarg:=none,defaults:=[]}
noncomputable def jX(s:Stmt):List Stmt:=match s with
 | .FunctionDef _ _ b _ _ _ _ _ _ _=>b
 |_=>[]
noncomputable def gv(s:Stmt):Scope:=match s with
 | .FunctionDef _ _ _ _ _ _ sc _ _ _=>sc
 |_=>{kind:= .function,names:=[],isGenerator:=false,isCoroutine:=false}
abbrev CX0:CXT:=fun _ _ _ _ _ _=>False
abbrev E0:XK:=fun _ _ _=>False
theorem Q4{X:Cx}:Bf CX0 X E0:=fun _ _ _ _ _ _ _ h=>h.elim
structure Fun(K:gQ)(x qual:Str)(st:Stmt)(f:gm)(fd:kR):Prop where
 ex: ∃(oc:gy) (od:Option Addr) (kV doc pm:gy) (an:Option Addr) (f9 ct:gy) (y9:qR),
  fd=PySem.W.fnOf x qual (pd st) (jX st) (gv st) .none kV doc pm an f9 ct/\K.lookup f=some ⟨oc,od,.func fd,y9⟩/\PySem.W.codeIn K f9 qual=true
 kp:PySem.W.keepIn K (.ref f)=true
section
variable {P:gM}{w:gE}{K:gQ}{mg:jK}{base:gL}
theorem Fun.ok{x qual:Str}{st:Stmt}{f:gm}{fd:kR}{N ps:gT}{k:Nat}{sp:Sp}(F:Fun K x qual st f fd)(S:FnScope N ps (gv st))(len: ∀vs H Q E,sp vs H Q E->vs.length=ps.length)
  (o7: ∀(f9:gy) (A:gG) (outer:List Env) (s:gu) (H:Hp) (vs:List V) (Q:VK) (E:XK),Room k (A.deeper (envOfC qual (gv st) s.heap.objs.size f f9))->sp vs H Q E->
   ∃t,PSs (nX CX0 P w K mg base N qual (gv st) f f9 A outer s H E).nox (jX st) t/\t {nx:=fun _ H'=>Q .non H',rt:=Q} (nB N vs) H):FnOk P w K mg base CX0 (k+1) f fd ps sp:=by
 obtain⟨oc,od,kV,doc,pm,an,f9,ct,y9,rfl,lk,r9⟩:=F.ex;refine Kl lk r9 S len fun A outer s H vs Q E hr cp=>?_;obtain⟨t,h,q⟩:=o7 f9 A outer s H vs Q E hr cp;exact⟨t,h.nox,q⟩
theorem Fun.binds{x qual:Str}{st:Stmt}{f:gm}{fd:kR}{ps:gT}(F:Fun K x qual st f fd)
  (h: ∀(kV doc pm:gy) (an:Option Addr) (f9 ct:gy) (us:ir),us.length=ps.length->bindArgs (PySem.W.fnOf x qual (pd st) (jX st) (gv st) .none kV doc pm an f9 ct) ⟨us,[]⟩=pure (ps.zip us)):Binds K fd ps []:=by
 obtain⟨oc,od,kV,doc,pm,an,f9,ct,y9,rfl,lk,r9⟩:=F.ex;exact .all (h kV doc pm an f9 ct)
theorem Kj{x qual:Str}{st:Stmt}{f:gm}{oc:gy}{od an:Option Addr}{y9:qR}{kV doc pm f9 ct:gy}(l:K.lookup f=some ⟨oc,od,.func (PySem.W.fnOf x qual (pd st) (jX st) (gv st) .none kV doc pm an f9 ct),y9⟩)
  (c:PySem.W.codeIn K f9 qual=true)(k:PySem.W.keepIn K (.ref f)=true):Fun K x qual st f (PySem.W.fnOf x qual (pd st) (jX st) (gv st) .none kV doc pm an f9 ct):=⟨⟨oc,od,kV,doc,pm,an,f9,ct,y9,rfl,l,c⟩,k⟩
end
section
variable {X:Cx}
end
theorem Mx{A B:Prop}(h:B):if false=true then A else B:=by
 rw[gC jl];exact h
theorem Mw{A B:Prop}(h:A):if true=true then A else B:=by
 rw[gz rfl];exact h
def Same(H H':Hp):Prop:= ∀b o,H b=some o->H' b=some o
theorem Same.refl(H:Hp):Same H H:=fun _ _ h=>h
theorem Same.trans{H H1 H2:Hp}(a:Same H H1)(b:Same H1 H2):Same H H2:=fun c o h=>b c o (a c o h)
theorem sv(env:Env): ∀(l:List (Str×NameKind)) (cs:ji),(∀x∈l,x.2= .free-> ∃c,env.cells.lookup x.1=some c)->(∀x c,cs.lookup x=some c->env.cells.lookup x=some c)->
  ∃cl,(forIn l cs fun x r=>if x.2==NameKind.free then do let a <-cellOf env x.1;pure (ForInStep.yield ((x.1,a)::r)) else pure (ForInStep.yield r))=(pure cl:Sem (List (Str×Addr)))/\
   (∀x c,cl.lookup x=some c->env.cells.lookup x=some c)/\(∀x,(x,NameKind.free)∈l-> ∃c,cl.lookup x=some c)/\ ∀x c,cs.lookup x=some c-> ∃c,cl.lookup x=some c
 |[],cs,_,hc=>⟨cs,rfl,hc,fun x h=>by simp at h,fun x c h=>⟨c,h⟩⟩
 |(n,k)::l,cs,h,hc=>by
  by_cases hk:k= .free
  ·subst hk;obtain⟨c,e⟩:=h (n,.free) iN rfl;have e':env.cells.lookup n=some c:=e
   obtain⟨cl,h1,h2,h3,h4⟩:=sv env l ((n,c)::cs) (fun x hx=>h x (iK _ hx)) (fun x d hx=>by
    rw[my] at hx
    cases hb:x==n with
    |true=>rw[hb] at hx;have:=qZ hb;subst this;cases hx;exact e'
    |false=>rw[hb] at hx;exact hc x d hx)
   refine⟨cl,?_,h2,fun x hx=>?_,fun x d hx=>?_⟩
   ·rw[Dp];have:cellOf env n=pure c:=by unfold cellOf;rw[e']
    simp only[this,pure_bind,beq_self_eq_true,iA];exact h1
   ·rcases lq.mp hx with z|z
    ·cases z;exact h4 n c (by simp[my])
    ·exact h3 x z
   ·cases hb:x==n with
    |true=>have:=qZ hb;subst this;exact h4 x c (by simp[my])
    |false=>exact h4 x d (by rw[my,hb];exact hx)
  ·obtain⟨cl,h1,h2,h3,h4⟩:=sv env l cs (fun x hx=>h x (iK _ hx)) hc;have hb:(k==NameKind.free)=false:=by simpa using hk
   refine⟨cl,?_,h2,fun x hx=>?_,h4⟩
   ·rw[Dp];simp only[hb,iJ,iX,pure_bind];exact h1
   ·rcases lq.mp hx with z|z
    ·cases z;exact absurd rfl hk
    ·exact h3 x z
theorem sj(env:Env)(scope:ip)(h: ∀x∈scope.names,x.2= .free-> ∃c,env.cells.lookup x.1=some c):
  ∃cl,closureFor scope env=pure cl/\(∀x c,cl.lookup x=some c->env.cells.lookup x=some c)/\ ∀x,(x,NameKind.free)∈scope.names-> ∃c,cl.lookup x=some c:=by
 obtain⟨cl,h1,h2,h3,_⟩:=sv env scope.names [] h (fun x c hx=>by simp at hx);refine⟨cl,?_,h2,h3⟩;unfold closureFor;have:(forIn scope.names ([]:List (Str×Addr)) fun x r=>if x.2==NameKind.free then do let a <-cellOf env x.1;pure (ForInStep.yield ((x.1,a)::r)) else pure (ForInStep.yield r))=(pure cl:Sem (List (Str×Addr))):=h1
 first
  |exact(oj (· >>=fun r=>pure r) this).trans (pure_bind _ _)
  |(simp only[bind_pure];exact this)
  |exact this
theorem kI: ∀(names:List (Str×NameKind)) (n:Nat) (acc:ji),cellsFrom n names acc=cellsFrom n names []++acc
 |[],_,_=>rfl
 |(x,k)::r,n,acc=>by
  unfold cellsFrom;split
  ·rw[kI r (n+1) ((x,n)::acc),kI r (n+1) [(x,n)],jF];rfl
  ·exact kI r n acc
theorem nY{x:Str}{c:gm}: ∀(names:List (Str×NameKind)) (n:Nat),(x,c)∈cellsFrom n names []->(x,NameKind.cell)∈names
 |[],_,h=>by simp[cellsFrom] at h
 |(y,k)::r,n,h=>by
  unfold cellsFrom at h;split at h
  ·rename_i hk;rw[kI] at h;rcases nu.mp h with z|z
   ·exact iK _ (nY r _ z)
   ·cases nV.mp z;rw[qZ hk];exact iN
  ·exact iK _ (nY r _ h)
structure BCls(cells:ji)(scope:ip)(C:gm)(h:gL)(cl:ji):Prop where
 one: ∀x c,cl.lookup x=some c->(cells.lookup x=some c/\scope.names.lookup x≠some .cell)\/(C<c/\scope.names.lookup x=some .cell/\h.IsCell c none)
 all: ∀x,(x,NameKind.free)∈scope.names\/(x,NameKind.cell)∈scope.names-> ∃c,cl.lookup x=some c
 inj: ∀x y c,C<c->cl.lookup x=some c->cl.lookup y=some c->(∀z d,cells.lookup z=some d->d<C)->x=y
 ex: ∀x c,cl.lookup x=some c->cells.lookup x=some c\/C<c
theorem FW{M:Model}{A:gG}{E:hV}{s:gu}{scope:ip}{globals:gm}{env:Env}{cl:ji}{qual:Str}{Q:Env->Shared->Prop}(l6: ∀y∈scope.names,y.2= .cell->scope.names.lookup y.1=some .cell)
  (l5: ∀x c,cl.lookup x=some c->env.cells.lookup x=some c)(n0: ∀x,(x,NameKind.free)∈scope.names-> ∃c,cl.lookup x=some c)
  (hQ: ∀h' cs,h'.Ns s.heap.objs.size (fun _=>none)->(∀b o,s.heap.get? b=some o->h'.get? b=some o)->BCls env.cells scope s.heap.objs.size h' cs->
   Q {scope,locals:=s.heap.objs.size,globals,cells:=cs,qual,func:=none,code:=env.code,frame:=env.frame,builtins:=env.builtins} {s with heap:=h'}):
  wpAny M A (newFunctionEnv scope globals cl [] qual none .none (some env)) Q E s:=by
 simp only[newFunctionEnv,Option.isSome_some,iA];refine gw (wpAny_alloc ?_);refine gw (wpAny_layCells _ (fun name kind cells=>by cases hkc:kind==NameKind.cell<;>simp[hkc]) _ _ _ _ ?_);have ok:=cellsFrom_ok scope.names (s.heap.push {cls:= .type "dict",data:= .dict #[]}) (s.heap.objs.size+1) [] ⟨fun _ _ hm=>(nomatch hm),List.Pairwise.nil⟩ (by rw[rQ];exact ic _);rw[rQ] at ok;rw[show({s with heap:=s.heap.push {cls:= .type "dict",data:= .dict #[]}}:Shared).heap.objs.size=s.heap.objs.size+1 from rQ ..];simp only[List.forIn_nil];have look: ∀x,(cellsFrom (s.heap.objs.size+1) scope.names cl).lookup x=((cellsFrom (s.heap.objs.size+1) scope.names []).lookup x).or (cl.lookup x):=fun x=>by rw[kI,List.lookup_append]
 have two: ∀x c,(cellsFrom (s.heap.objs.size+1) scope.names cl).lookup x=some c->(cl.lookup x=some c/\(cellsFrom (s.heap.objs.size+1) scope.names []).lookup x=none)\/(x,c)∈cellsFrom (s.heap.objs.size+1) scope.names []:=fun x c h=>by
  rw[look] at h
  cases hx:(cellsFrom (s.heap.objs.size+1) scope.names []).lookup x with
  |none=>rw[hx] at h;exact .inl ⟨h,rfl⟩
  |some d=>rw[hx] at h;cases h;exact .inr (oi hx)
 have lo: ∀{x:Str} {c:gm},(x,c)∈cellsFrom (s.heap.objs.size+1) scope.names []->s.heap.objs.size<c:=fun {x c} h=>(ok.empty x c h).2;refine gw (gA (gA (hQ _ _ ((Heap.Ns.new s.heap (.type "dict")).keeps (pushCells_keeps _ _)) (fun b o e=>pushCells_keeps _ _ b o (iB _ e)) ⟨fun x c h=>?_,fun x h=>?_,fun x y c hc h1 h2 hz=>?_,fun x c h=>?_⟩)))
 ·rcases two x c h with⟨z,hn⟩|z
  ·refine .inl ⟨l5 x c z,fun e=>?_⟩;have:=Ao scope.names (s.heap.objs.size+1) [] (.inl e);rw[hn] at this;cases this
  ·exact .inr ⟨lo z,l6 _ (nY _ _ z) rfl,(ok.empty x c z).1⟩
 ·rcases h with h|h
  ·obtain⟨c,hc⟩:=n0 x h;rw[look,hc];cases(cellsFrom (s.heap.objs.size+1) scope.names []).lookup x<;>exact⟨_,rfl⟩
  ·have:=Ao scope.names (s.heap.objs.size+1) cl (.inl (l6 _ h rfl));exact K5.mp this
 ·rcases two x c h1 with⟨z,_⟩|z
  ·exact absurd (hz x c (l5 x c z)) (Dm hc)
  ·rcases two y c h2 with⟨z',_⟩|z'
   ·exact absurd (hz y c (l5 y c z')) (Dm hc)
   ·exact name_of_addr ok.apart z z'
 ·rcases two x c h with⟨z,_⟩|z
  ·exact .inl (l5 x c z)
  ·exact .inr (lo z)
noncomputable def Cx.comp(X:Cx)(N':gT)(scope:ip)(cl:ji)(C:gm)(s3:gu)(H3:Hp)(fp:jo)(pins:gZ):Cx:=
 {X with N:=N',s₀:=s3,H₀:=H3,env:=compEnvC scope cl C X.env,outer:=X.stack,stack:=X.stack,ex:=fp,fn:=fun x=>scope.names.lookup x==some .cell,pn:=X.pn++pins,xe:=fun _ _=>False}
abbrev TB:=St->Hp->(St->Hp->Prop)->Prop
def PB(X:Cx)(code:Sem Unit)(t:TB):Prop:=
 ∀(pins:gZ) (s:gu) (σ:St) (H:Hp) (N:St->Hp->Prop),Inv X pins σ H s->t σ H N->
  wpAny (model X.prog X.w) X.A code (fun _ s'=> ∃σ' H',Inv X pins σ' H' s'/\N σ' H') X.xe s
def PIf(X:Cx)(ifs:jf)(t:TT):Prop:=
 ∀(pins:gZ) (s:gu) (σ:St) (H:Hp) (Q:Bool->Hp->Prop),Inv X pins σ H s->t σ H Q->
  wpAny (model X.prog X.w) X.A (forIn ifs true fun c r=>if r=true then do let ok <-isTrue c X.env (eval c X.env);pure (ForInStep.yield ok) else pure (ForInStep.yield r)) (TP X pins σ Q) X.xe s
noncomputable def Qe:TT:=fun _ H Q=>Q true H
section
variable {X:Cx}
theorem L9:PIf X [] Qe:=fun pins s σ H Q I h=>wpAny_tests_nil ⟨H,I,h⟩
theorem L8{c:gx}{t:TT}(h:PT X c t):PIf X [c] t:=fun pins s σ H Q I hw=>wpAny_tests_one (h pins s σ H Q I hw)
noncomputable def iQ(e:gx)(depth:Nat)(acc:gy)(env:Env):Sem Unit:=
 match(clausesOf e)[depth+1]? with
 |some g'=>do
  let x <-eval g'.iter env
  standAt g'.iter.pos
  let x <-foldedSetIterable g'.iter env x
  let _ <-runOwn (.compStart e (depth+1) (<-holding [x] (pyIter x)) acc env) env
 |none=>match e with
  | .ListComp elt _ _ _=>do let _ <-call (.builtin "list.append") [acc,<-eval elt env]
  | .SetComp elt _ _ _=>do let v <-eval elt env;standAt elt.pos;let _ <-call (.builtin "set.add") [acc,v]
  |_=>unsupported "no"
def Bw(J:It)(g:TG)(ti:TT)(tb:TB):TB:=fun σ H N=> ∃W:Nat->Nat->St->Hp->Prop,(∃m,W 0 m σ H)/\ ∀i m σ H,W i m σ H->
 (J.stop i H/\N σ H)\/(J.go i H/\ ∀x H',J.yld i H x H'->g x σ H' fun σ2 H2=>ti σ2 H2 fun b H3=>if b=true then tb σ2 H3 fun σ4 H4=> ∃m',m'<m/\W (i+1) m' σ4 H4 else ∃m',m'<m/\W (i+1) m' σ2 H3)
theorem A1(e:gx)(depth:Nat)(it acc:gy)(env:Env)(g:pI)(hl:(∃elt gens sc p,e= .ListComp elt gens sc p)\/(∃elt gens sc p,e= .SetComp elt gens sc p))
  (hg:(clausesOf e)[depth]?=some g)(ha:g.is_async=0)(x9: ∀g',(clausesOf e)[depth+1]?=some g'->g'.is_async=0):
  compTurn e depth it acc env=(do
   standAt g.iter.pos
   match <-pyNext it with
   |none=>pure (.done .next)
   |some v=>
    letOwnedTupleGo g.target it v
    assign g.target env v
    let ok <-forIn g.ifs true fun c r=>if r=true then do let ok <-isTrue c env (eval c env);pure (ForInStep.yield ok) else pure (ForInStep.yield r)
    if ok=true then iQ e depth acc env
    again (.compLoop e depth it acc env)):=by
 rcases hl with⟨elt,gens,sc,p,rfl⟩|⟨elt,gens,sc,p,rfl⟩
 ·have dc:gens[depth]?=some g:=hg;unfold compTurn iQ;simp only[clausesOf] at hg x9 ⊢;rw[dc];simp only[ha]
  cases hn:gens[depth+1]? with
  |none=>rfl
  |some g'=>
   have:=x9 g' hn;simp only[this,sL,iJ,iX]
   congr 1;funext _;congr 1;funext r
   cases r with
   |none=>rfl
   |some v=>
    dsimp only
    congr 1;funext _;congr 1;funext _;congr 1;funext ok
    cases ok with
    |false=>rfl
    |true=>simp only[iA,qY];rfl
 ·have dc:gens[depth]?=some g:=hg;unfold compTurn iQ;simp only[clausesOf] at hg x9 ⊢;rw[dc];simp only[ha]
  cases hn:gens[depth+1]? with
  |none=>rfl
  |some g'=>
   have:=x9 g' hn;simp only[this,sL,iJ,iX]
   congr 1;funext _;congr 1;funext r
   cases r with
   |none=>rfl
   |some v=>
    dsimp only
    congr 1;funext _;congr 1;funext _;congr 1;funext ok
    cases ok with
    |false=>rfl
    |true=>simp only[iA,qY];rfl
theorem Kw 
  (hl:(∃elt gens sc p,e= .ListComp elt gens sc p)\/(∃elt gens sc p,e= .SetComp elt gens sc p))
  (h:wpAny (model prog w) A ((compTurn e depth it acc env).onRaise (fun x=>do noteFrame x env;theTreesLotGoes x)) Q E s):
  wpAny (model prog w) (A.under (.compLoop e depth it acc env)) ((model prog w).den (.compLoop e depth it acc env)) Q E s:=by
 rcases hl with⟨elt,gens,sc,p,rfl⟩|⟨elt,gens,sc,p,rfl⟩
 ·exact h
 ·exact h
theorem F3{e:gx}{depth:Nat}{acc:gy}{c:pI}{g:TG}{ti:TT}{tb:TB}{J:It}{fp:jo}{it:gm}{tn:Nat->Heap->Prop}(dD:X.xe=fun _ _=>False)(hc:X.calm=true)
  (hl:(∃elt gens sc p,e= .ListComp elt gens sc p)\/(∃elt gens sc p,e= .SetComp elt gens sc p))(hg:(clausesOf e)[depth]?=some c)(ha:c.is_async=0)(x9: ∀g',(clausesOf e)[depth+1]?=some g'->g'.is_async=0)
  (T:Turn X.prog X.w X.K c.target J fp it tn)(pg:PG X c.target g)(dz:PIf X c.ifs ti)(pb:PB X (iQ e depth acc X.env) tb)
  {pins:gZ}{s:gu}{σ:St}{H:Hp}{N:St->Hp->Prop}(I:Inv X pins σ H s)(f2: ∀b∈fp,pH X pins H b)(st:tn 0 s.heap)(h:Bw J g ti tb σ H N):
  codeAny (model X.prog X.w) X.A (.compLoop e depth (.ref it) acc X.env) (fun r s'=>r= .ok .next/\ ∃σ' H',Inv X pins σ' H' s'/\(∀b∈fp,H' b=none)/\N σ' H') s:=by
 obtain⟨W,⟨m0,w0⟩,turn⟩:=h;have au: ∀{H':Hp},(∀b∈fp,H' b=none)-> ∀b∈fp,pH X pins H' b:=fun hn b hb=>⟨hn b hb,(f2 b hb).2⟩
 have F2: ∀{α:Type} {t:Sem α} {Q:α->Shared->Prop} {E:hV} {s:gu},wpAny (model X.prog X.w) X.A t Q X.xe s->wpAny (model X.prog X.w) X.A t Q E s:=fun h=>nA h (fun _ _ x=>x) fun _ _ z=>by rw[dD] at z;exact z.elim
 refine codeAny_loop rfl (fun n s'=> ∃i σ' H',Inv X pins σ' H' s'/\tn i s'.heap/\(∀b∈fp,H' b=none)/\W i n σ' H') (fun n s3 hI=>?_) m0 ⟨0,σ,H,I,st,fun b hb=>(f2 b hb).1,w0⟩;refine Kw hl ?_;refine wpAny_noted ?_;rw[A1 e depth (.ref it) acc X.env c hl hg ha x9];obtain⟨i,σ3,H3,I3,n5,dq,w3⟩:=hI;refine gw (wH ?_);rcases turn i n σ3 H3 w3 with⟨stop,qn⟩|⟨go,step⟩
 ·refine gw (thn (T.done X rfl rfl rfl hc i pins s3 σ3 H3 _ I3 (au dq) n5 stop) fun r s4 ⟨hr,I4⟩=>?_);subst hr;exact gA ⟨rfl,σ3,H3,I4,dq,qn⟩
 ·refine gw (thn (T.item X rfl rfl rfl hc i pins s3 σ3 H3 _ I3 (au dq) n5 go) fun r s4 ⟨u,hr,h4⟩=>?_);subst hr;refine gw (thn h4 fun _ s5 ⟨x,H5,I5,r5,y5,bF,fY⟩=>?_);have gh:=I5.pinned (au fY) (T.obj _ _ bF);refine gw (thn (F2 (pg _ s5 σ3 H5 x u _ gh r5 (step x H5 y5))) fun _ s6 ⟨σ6,H6,I6,q6⟩=>?_);refine gw (thn (F2 (dz _ s6 σ6 H6 _ I6 q6)) fun ok s7 ⟨H7,I7,q7⟩=>?_)
  have again: ∀{s8:gu} {σ8:St} {H8:Hp},Inv X (pins++xo fp s5.heap) σ8 H8 s8->(∃m',m'<n/\W (i+1) m' σ8 H8)-> ∃m,m<n/\ ∃i σ' H',Inv X pins σ' H' s8/\tn i s8.heap/\(∀b∈fp,H' b=none)/\W i m σ' H':=fun {s8 σ8 H8} I8 ⟨m',hm,w8⟩=>by
   refine⟨m',hm,i+1,σ8,H8,I8.unpinned,T.keep _ _ _ bF fun b hb o e=>(I8.pin (b,o) (pq _ (pq _ (oR hb e)))).1,fun b hb=>?_,w8⟩;obtain⟨o,e,d⟩:=T.obj _ _ bF b hb;exact(I8.pin (b,o) (pq _ (pq _ (oR hb e)))).2.1
  cases ok with
  |false=>
   rw[gC jl] at q7;exact gA ⟨rfl,again I7 q7⟩
  |true=>
   rw[gz rfl] at q7;simp only[iA];refine gw (thn (F2 (pb _ s7 σ6 H7 _ I7 q7)) fun _ s8 ⟨σ8,H8,I8,q8⟩=>?_);exact gA ⟨rfl,again I8 q8⟩
def Qj(d:gm)(te:TE):TB:=fun σ H N=>te σ H fun y H1=> ∃ys,H1 d=some (.lst ys)/\ys.length<sizeLine/\N σ (upd H1 d (.lst (ys++[y])))
theorem Me{elt:gx}{gens:pj}{sc:ip}{p:Pos}{depth:Nat}{d:gm}{te:TE}(hn:gens[depth+1]?=none)(he:PE X elt te):PB X (iQ (.ListComp elt gens sc p) depth (.ref d) X.env) (Qj d te):=by
 intro pins s σ H N I h
 have e1:iQ (.ListComp elt gens sc p) depth (.ref d) X.env=(do let _ <-call (.builtin "list.append") [.ref d,<-eval elt X.env]):=by
  unfold iQ;simp only[clausesOf];rw[hn]
 rw[e1];refine gw (thn (he pins s σ H _ I h) fun u s1 ⟨y,H1,I1,ru,ys,hd,hz,q⟩=>?_);obtain⟨z,b6,n,r,hl,e⟩:=I1.lstM hd;refine gw (Ak F.slot_list_append ⟨_,e,rfl⟩ Ia (H9 _ _) (PySem.list_append d b6.toArray n u (by rw[jc];omega)) ⟨e,?_⟩);refine gA ⟨σ,_,I1.lset (its':=b6++[u]) hd e (by simp) (r.append (.cons ru .nil)) ?_,q⟩;rw[mz,uH];omega
theorem By{prog:gM}{w:gE}{A:gG}{e:gx}{depth:Nat}{it acc:gy}{env:Env}{R:Result->Shared->Prop}{s:gu}{c:pI}
  (hl:(∃elt gens sc p,e= .ListComp elt gens sc p)\/(∃elt gens sc p,e= .SetComp elt gens sc p))(hg:(clausesOf e)[depth]?=some c)(ha:c.is_async=0)
  (h0:codeAny (model prog w) A (.compLoop e depth it acc env) R s)
  (self: ∀(Q:hV) (E:hV),Q it s->wpAny (model prog w) A (pyIter it) Q E s):
  codeAny (model prog w) A (.compStart e depth it acc env) R s:=by
 have core:wpAny (model prog w) A (compStart e depth it acc env) (fun fin s'=>match fin with| .done f=>R (.ok f) s'| .again c'=>c'.quiet=true/\codeAny (model prog w) A c' R s') (notedBy (model prog w) A env fun x s'=>R (.error x) s') s:=by
  unfold compStart;rw[hg];simp only[Option.elim,ha,sL,iJ,iX];refine gw (uG (wpAny_ite ?_));split
  ·first
    |exact gw (gA (gA (And.intro rfl h0)))
    |exact gA (And.intro rfl h0)
  ·exact gw (uO (gw (wH (gw (self _ _ (gA (And.intro rfl h0)))))))
 rcases hl with⟨elt,gens,sc,p,rfl⟩|⟨elt,gens,sc,p,rfl⟩
 ·refine wz ?_;show wpAny _ A ((compStart (.ListComp elt gens sc p) depth it acc env).onRaise (fun x=>do noteFrame x env;standAt theWindowsPlace)) _ _ s;exact wpAny_notedAt core
 ·refine wz ?_;show wpAny _ A ((compStart (.SetComp elt gens sc p) depth it acc env).onRaise (fun x=>do noteFrame x env;standAt theWindowsPlace)) _ _ s;exact wpAny_notedAt core
end
theorem mD{env:Env}: ∀{names:List (Str×NameKind)} {x:Str},names.lookup x=some .free->
  (names.map fun(n,k)=>if(k==NameKind.free&&env.scope.kind== .function&&env.kindOf n==some .cell) then(n,NameKind.cell) else(n,k)).lookup x=some .cell\/
  (names.map fun(n,k)=>if(k==NameKind.free&&env.scope.kind== .function&&env.kindOf n==some .cell) then(n,NameKind.cell) else(n,k)).lookup x=some .free
 |[],_,h=>by simp at h
 |(n,k)::r,x,h=>by
  have ih:= @mD env r x;rw[iY]
  cases hx:x==n with
  |true=>
   simp only[my,hx] at h;cases h;by_cases hc:(NameKind.free==NameKind.free&&env.scope.kind== .function&&env.kindOf n==some .cell)=true
   ·left;simp only[hc,iA,my,hx]
   ·right;simp only[hc,iX,my,hx,iJ]
  |false=>
   simp only[my,hx] at h;by_cases hc:(k==NameKind.free&&env.scope.kind== .function&&env.kindOf n==some .cell)=true
   ·simp only[hc,iA,my,hx];exact ih h
   ·simp only[hc,iX,my,hx,iJ];exact ih h
theorem jH{env:Env}: ∀{names:List (Str×NameKind)} {x:Str} {k':NameKind},
  (names.map fun(n,k)=>if(k==NameKind.free&&env.scope.kind== .function&&env.kindOf n==some .cell) then(n,NameKind.cell) else(n,k)).lookup x=some k'-> ∃k,(x,k)∈names/\(k=k'\/k= .free)
 |[],_,_,h=>by simp at h
 |(n,k)::r,x,k',h=>by
  rw[iY] at h
  cases hx:x==n with
  |true=>
   have e:=qZ hx;subst e;by_cases hc:(k==NameKind.free&&env.scope.kind== .function&&env.kindOf x==some .cell)=true
   ·refine⟨k,iN,.inr ?_⟩
    have h1:(k==NameKind.free)=true:=by
     cases hk:(k==NameKind.free) with
     |true=>rfl
     |false=>rw[hk] at hc;simp at hc
    exact qZ h1
   ·simp only[hc,iX,my,hx,iJ] at h;exact⟨k,iN,.inl (by simpa using h)⟩
  |false=>
   by_cases hc:(k==NameKind.free&&env.scope.kind== .function&&env.kindOf n==some .cell)=true
   ·simp only[hc,iA,my,hx] at h;obtain⟨k2,h1,h2⟩:=jH h;exact⟨k2,iK _ h1,h2⟩
   ·simp only[hc,iX,my,hx,iJ] at h;obtain⟨k2,h1,h2⟩:=jH h;exact⟨k2,iK _ h1,h2⟩
structure CompScope(X:Cx)(N':gT)(scope:ip)(pre:St->St):Prop where
 cell: ∀y∈scope.names,y.2= .cell->scope.names.lookup y.1=some .cell
 kind:scope.kind= .function
 names: ∀y∈scope.names,y.2= .local->scope.names.lookup y.1=some .local
 free: ∀y∈scope.names,y.2= .free->X.env.scope.names.lookup y.1=some .cell\/X.env.scope.names.lookup y.1=some .free
 len: ∀σ:St,(pre σ).length=N'.length
 pre: ∀(σ:St) (i:Nat) (v:V) (x:Str),(pre σ)[i]?=some (some v)->N'[i]?=some x->scope.names.lookup x=some .free/\ ∃j:Nat,X.N[j]?=some x/\σ[j]?=some (some v)
section
variable {X:Cx}
theorem Gh{N':gT}{scope:ip}{pre:St->St}(S:CompScope X N' scope pre){pins:gZ}{s3:gu}{σ:St}{H3:Hp}{fp:jo}{cl:ji}{h':gL}{t':Nat}(I:Inv X pins σ H3 s3)
  (B:BCls X.env.cells scope s3.heap.objs.size h' cl)
  (ff: ∀b∈fp,pH X pins H3 b)(fo: ∀b∈fp,b<s3.heap.objs.size)
  (aJ:h'.Ns s3.heap.objs.size (fun _=>none))(hk: ∀b o,s3.heap.get? b=some o->h'.get? b=some o):
  Inv (X.comp N' scope cl s3.heap.objs.size s3 H3 fp pins) [] (pre σ) H3 {s3 with heap:=h',toks:=t'}:=by
 have dI: ∀b∈frs X.stack,H3 b=none:=I.stkFree;have nfs: ∀b,b≠X.env.locals->b∉X.fs->b∉frs X.stack:=fun b h1 h2 z=>(lq.mp (I.stkSub b z)).elim h1 h2;have old: ∀x c,X.env.cells.lookup x=some c->c<s3.heap.objs.size:=fun x c e=>(I.cell x c e).elim fun _ z=>z.lt
 refine⟨⟨I.ok.mod,?_,I.ok.glob,I.ok.blt,ic _,fun x y c h1 h2=>?_,fun x hx=>?_,fun x c hf e=>?_,I.ok.hd,I.ok.frames,.inl rfl,fun b hb=>?_,
  I.bs,ll I.ok.bsz I.sz,fun b o e hb=>?_,fun b hb=>nfs b (ff b hb).2.1 (ff b hb).2.2.1,I.stack,dI⟩,rfl,I.bare,Un.kept hk,⟨_,aJ,fun i x v h1 h2 h3=>?_⟩,fun x c hx=>?_,I.hok.fresh (ic _),fun x c hx=>?_,fun p hp=>?_,I.hok.kept hk,S.len σ⟩
 ·show(relabel scope X.env).kind= .function;simp[relabel,S.kind]
 ·rcases B.ex x c h1 with z|z
  ·rcases B.ex y c h2 with z'|z'
   ·exact I.ok.inj x y c z z'
   ·exact absurd (old x c z) (Dm z')
  ·exact B.inj x y c z h1 h2 old
 ·
  have bx:(relabel scope X.env).names.lookup x=some .cell\/(relabel scope X.env).names.lookup x=some .free:=hx;refine B.all x ?_;rcases bx with z|z
  ·obtain⟨k,h1,h2⟩:=jH z;rcases h2 with h2|h2<;>subst h2
   ·exact .inr h1
   ·exact .inl h1
  ·obtain⟨k,h1,h2⟩:=jH z;rcases h2 with h2|h2<;>(subst h2;exact .inl h1)
 ·rcases B.one x c e with⟨_,z⟩|⟨z,_⟩
  ·exact absurd (qZ hf) z
  ·exact vt z
 ·refine⟨jy (fo b hb),fun x c hx=>?_⟩;rcases B.ex x c hx with z|z
  ·exact(ff b hb).2.2.2.2.1 x c z
  ·exact uM (wy (fo b hb) z)
 ·
  have s9:b∈fp:=hb;rcases(ff b s9).2.2.2.1 with z|z
  ·exact I.ok.noex b o e z
  ·exact absurd (lK (iq e) (ll I.ok.bsz z)) (pP _)
 ·obtain⟨hf,j,hj,hv⟩:=S.pre σ i v x h2 h1;obtain⟨m,hn,hl⟩:=I.loc;have m8:=S.free (x,.free) (oi hf) rfl;obtain⟨u,r,l⟩:=hl j x v hj hv (by rcases m8 with z|z;exact .inr (.inl z);exact .inr (.inr z));refine⟨u,r,.inr ⟨mD hf,?_⟩⟩;rcases l with⟨cX,_⟩|⟨_,c,hc,l6⟩
  ·have eJ:X.env.scope.names.lookup x=some .local:=cX;rcases m8 with z|z<;>(have z':X.env.scope.names.lookup x=_:=z;rw[eJ] at z';cases z')
  ·obtain⟨c',bU⟩:=B.all x (.inl (oi hf));rcases B.one x c' bU with⟨this,_⟩|⟨_,z,_⟩
   ·rw[hc] at this;cases this;exact⟨c,bU,l6.keeps hk⟩
   ·rw[hf] at z;cases z
 ·rcases B.one x c hx with⟨z,_⟩|⟨_,_,z⟩
  ·obtain⟨v,hv⟩:=I.cell x c z;exact⟨v,hv.keeps hk⟩
  ·exact⟨_,z⟩
 ·rcases B.ex x c hx with z|z
  ·exact I.freeC x c z
  ·exact I.hok.fresh (vt z)
 ·have cx:p∈X.pn++pins:=by simpa[Cx.comp] using hp
  obtain⟨e,n,h1,h2,h3⟩:=I.pin p cx;exact⟨hk _ _ e,n,jy (iq e),nfs _ h1 h2,h3⟩
theorem Cz{N':gT}{scope:ip}{pins:gZ}{s3 s4:gu}{σ σ':St}{H3 H4:Hp}{fp:jo}{cl:ji}{h':gL}(I:Inv X pins σ H3 s3)(ff: ∀b∈fp,pH X pins H3 b)
  (J:Inv (X.comp N' scope cl s3.heap.objs.size s3 H3 fp pins) [] σ' H4 s4)(hs:Heap.SameBut s3.heap.objs.size s4.heap h'):Inv X pins σ H4 {s4 with heap:=h'}:=by
 have K:=I.call' (s':=s4) (ch:=fp) J.os J.base J.hok J.bare fun b hb=>⟨(ff b hb).2.2.2.1,(ff b hb).2.1,(ff b hb).2.2.2.2.1,(ff b hb).2.2.2.2.2⟩
 have eW:X.env.locals<s3.heap.objs.size:=I.lt;refine K.turned (it:=s3.heap.objs.size) (t':=s4.toks) (fun b o hb e=>by rw[hs.2 b hb];exact e) J.free (uM eW) (.inr I.sz) (fun x c hx z=>?_) (fun p hp z=>?_)
 ·obtain⟨v,o,e,_⟩:=I.cell x c hx;exact absurd (iq e) (by rw[z];exact pP _)
 ·obtain⟨e,_⟩:=I.pin p hp;exact absurd (iq e) (by rw[z];exact pP _)
def Qo(J:It)(g:TG)(ti:TT)(tb:Addr->TB)(pre:St->St)(σ:St)(H:Hp)(Q:VK):Prop:=
 ∀d,H d=none->Bw J g ti (tb d) (pre σ) (upd H d (.lst [])) fun _ H2=>Q (.ref d) H2
theorem Kx{elt:gx}{c:pI}{hG:pj}{scope:ip}{pos:Pos}{N':gT}{pre:St->St}{g:TG}{ti:TT}{tb:Addr->TB}{ax:ji}{J:It}{fp:jo}{it:gm}{tn:Nat->Heap->Prop}
  (S:CompScope X N' scope pre)(hc:X.calm=true)(ha:c.is_async=0)(x9: ∀g',hG[0]?=some g'->g'.is_async=0)
  (ay: ∀(cl:ji) (C:gm) (s3:gu) (H3:Hp) (fp:jo) (pins:gZ),let X':=X.comp N' scope cl C s3 H3 fp pins
   PG X' c.target g/\PIf X' c.ifs ti/\ ∀d,PB X' (iQ (.ListComp elt (c::hG) scope pos) 0 (.ref d) X'.env) (tb d))
  (l5: ∀x c,ax.lookup x=some c->X.env.cells.lookup x=some c)(n0: ∀x,(x,NameKind.free)∈scope.names-> ∃c,ax.lookup x=some c)
  {pins:gZ}{s2:gu}{σ:St}{H2:Hp}{Q:VK}{E:hV}{RR:Value->Addr->Result->Shared->Prop}(I2:Inv X pins σ H2 s2)(T:Turn X.prog X.w X.K c.target J fp it tn)(i8:tn 0 s2.heap)(f2: ∀b∈fp,pH X pins H2 b)
  (h:Qo J g ti tb pre σ H2 Q)
  (fV: ∀(d:gm) (cl:ji) (s3:gu) (H3 H4:Hp) (σ':St) (s4:gu),Inv X pins σ H3 s3->(∀b∈fp,pH X pins H3 b)->Inv (X.comp N' scope cl s3.heap.objs.size s3 H3 fp pins) [] σ' H4 s4->Q (.ref d) H4->RR (.ref d) s3.heap.objs.size (.ok .next) s4):
  wpAny (model X.prog X.w) X.A (newList []) (fun acc s₃=>wpAny (model X.prog X.w) X.A (newFunctionEnv scope X.env.globals ax [] X.env.qual none .none (some X.env)) (fun bo s₄=>
   codeAny (model X.prog X.w) X.A (.compStart (.ListComp elt (c::hG) scope pos) 0 (.ref it) acc {bo with scope:=relabel scope X.env}) (RR acc bo.locals) s₄) E s₃) E s2:=by
 have I3:Inv X pins σ (upd H2 s2.heap.objs.size (.lst [])) {s2 with heap:=s2.heap.push {cls:= .type "list",data:= .seq ([]:List Value).toArray}}:=I2.lnew (t':=s2.toks) .nil (by simp);have fo: ∀b∈fp,b<s2.heap.objs.size:=fun b hb=>by obtain⟨o,e,_⟩:=T.obj _ _ i8 b hb;exact iq e
 have ff: ∀b∈fp,pH X pins (upd H2 s2.heap.objs.size (.lst [])) b:=fun b hb=>⟨by rw[gR (jy (fo b hb))];exact(f2 b hb).1,(f2 b hb).2⟩
 refine mB ?_;refine FW S.cell l5 n0 fun h1 cl aJ fG B=>?_;have hk: ∀b o,(s2.heap.push {cls:= .type "list",data:= .seq ([]:List Value).toArray}).get? b=some o->h1.get? b=some o:=fG;have cC: ∀b∈fp,b<(s2.heap.push {cls:= .type "list",data:= .seq ([]:List Value).toArray}).objs.size:=fun b hb=>by rw[rQ];exact Ai (fo b hb)
 have J0:=Gh (t':=s2.toks) S I3 B ff cC aJ hk;obtain⟨pg,dz,pb⟩:=ay cl (s2.heap.push {cls:= .type "list",data:= .seq ([]:List Value).toArray}).objs.size {s2 with heap:=s2.heap.push {cls:= .type "list",data:= .seq ([]:List Value).toArray}} (upd H2 s2.heap.objs.size (.lst [])) fp pins;have t5:tn 0 h1:=T.keep _ _ _ i8 fun b hb o e=>hk b o (iB _ e);have hw:=h s2.heap.objs.size (I2.hok.fresh (ic _))
 have gd: ∀b∈fp,pH (X.comp N' scope cl (s2.heap.push {cls:= .type "list",data:= .seq ([]:List Value).toArray}).objs.size {s2 with heap:=s2.heap.push {cls:= .type "list",data:= .seq ([]:List Value).toArray}} (upd H2 s2.heap.objs.size (.lst [])) fp pins) []
   (upd H2 s2.heap.objs.size (.lst [])) b:=fun b hb=>by
  obtain⟨z1,z2,z3,z4,z5,z6⟩:=ff b hb;refine⟨z1,jy (cC b hb),fun z=>(lq.mp (I3.stkSub b z)).elim z2 z3,.inl hb,fun x c hx=>(B.ex x c hx).elim (z5 x c) fun z=>uM (wy (cC b hb) z),fun p hp=>z6 p (by simpa[Cx.comp] using hp)⟩
 have hl:(∃el gens sc p,Expr.ListComp elt (c::hG) scope pos= .ListComp el gens sc p)\/(∃el gens sc p,Expr.ListComp elt (c::hG) scope pos= .SetComp el gens sc p):= .inl ⟨_,_,_,_,rfl⟩;refine By hl rfl ha ?_ (fun Q' E' hq=>T.self X.A 0 _ Q' E' t5 hq)
 refine rd (F3 (X:=X.comp N' scope cl (s2.heap.push {cls:= .type "list",data:= .seq ([]:List Value).toArray}).objs.size {s2 with heap:=s2.heap.push {cls:= .type "list",data:= .seq ([]:List Value).toArray}} (upd H2 s2.heap.objs.size (.lst [])) fp pins)
  (depth:=0) (acc:= .ref s2.heap.objs.size) rfl hc hl rfl ha (fun g' aO=>x9 g' (by simpa[clausesOf] using aO)) T pg dz (pb _) J0 gd t5 hw) fun r s4 hr=>?_
 obtain⟨rfl,σ4,H4,I4,_,q⟩:=hr;exact fV _ _ _ _ _ _ _ I3 ff I4 q
noncomputable def M7(wi:TI)(g:TG)(ti:TT)(tb:Addr->TB)(pre:St->St):TE:=fun σ H Q=>wi σ H fun J H1=>Qo J g ti tb pre σ H1 Q
theorem JD{elt:gx}{c:pI}{hG:pj}{scope:ip}{pos:Pos}{N':gT}{pre:St->St}{wi:TI}{g:TG}{ti:TT}{tb:Addr->TB}
  (S:CompScope X N' scope pre)(hc:X.calm=true)(ha:c.is_async=0)(x9: ∀g',hG[0]?=some g'->g'.is_async=0)
  (hs: ∀x,foldedSetIterable c.iter X.env x=pure x)(pi:PI X c.target c.iter wi)
  (ay: ∀(cl:ji) (C:gm) (s3:gu) (H3:Hp) (fp:jo) (pins:gZ),let X':=X.comp N' scope cl C s3 H3 fp pins
   PG X' c.target g/\PIf X' c.ifs ti/\ ∀d,PB X' (iQ (.ListComp elt (c::hG) scope pos) 0 (.ref d) X'.env) (tb d)):
  PE X (.ListComp elt (c::hG) scope pos) (M7 wi g ti tb pre):=by
 intro pins s σ H Q I h;obtain⟨tg,dC,ifs,az⟩:=c;obtain rfl:az=0:=ha;obtain⟨cl,af,l5,n0⟩:=sj X.env scope fun x hx hf=>I.ok.has x.1 (S.free x hx hf);rw[eval_ListComp];show wpAny _ X.A (comprehension _ scope X.env _ (newList []) false (eval dC X.env)) _ _ s;refine HZ (use:=none) (g:=⟨tg,dC,ifs,0⟩) (gs:=hG) rfl hs af S.kind S.names (thn (pi pins s σ H _ I h) fun v s1 h1=>thn h1 fun ej s2 h2=>?_);obtain⟨it,fp,tn,J,H2,rfl,I2,T,i8,f2,hw⟩:=h2;refine Kx (RR:=fun acc C=>compPost (model X.prog X.w) X.A X.xe none (EP X pins σ Q) acc C) S hc rfl x9 ay l5 n0 I2 T i8 f2 hw fun d cl' s3 H3 H4 σ' s4 I3 ff J4 q=>?_;obtain⟨m,hn,_⟩:=id J4.loc;exact⟨m,hn,fun h' aE=>⟨.ref d,H4,Cz I3 ff J4 aE,rfl,q⟩⟩
end
section
variable {κ:Type}[DecidableEq κ]
noncomputable def BR(i3:List (κ×V))(k:κ)(v:V):List (κ×V):=
 if(i3.any fun kv=>decide (kv.1=k))=true then i3.map (fun kv=>if kv.1=k then(kv.1,v) else kv) else i3++[(k,v)]
theorem Cf(i3:List (κ×V))(k:κ)(v:V):(BR i3 k v).length<=i3.length+1:=by
 unfold BR;split
 ·rw[jk];omega
 ·rw[mz,jq,pM];omega
theorem KV.any{i3:List (κ×V)}{vs:List (κ×Value)}(r:KV i3 vs)(k:κ):(i3.any fun kv=>decide (kv.1=k))=vs.any fun kv=>decide (kv.1=k):=by
 unfold KV at r
 induction r with
 |nil=>rfl
 |cons h t ih=>rw[List.any_cons,List.any_cons,ih,h.1]
theorem KV.repl{i3:List (κ×V)}{vs:List (κ×Value)}(r:KV i3 vs)(k:κ){y:V}{u:gy}(ry:RelV y u):
  KV (i3.map fun kv=>if kv.1=k then(kv.1,y) else kv) (vs.map fun kv=>if kv.1=k then(kv.1,u) else kv):=by
 unfold KV at r ⊢
 induction r with
 |nil=>exact .nil
 | @cons p q ps qs h t ih=>
  rw[iY,iY];refine .cons ?_ ih;obtain⟨h1,h2⟩:=h;by_cases e:p.1=k
  ·rw[gz e,gz (h1.symm.trans e)];exact⟨h1,ry⟩
  ·rw[gC e,gC (fun z=>e (h1.trans z))];exact⟨h1,h2⟩
theorem KV.put{i3:List (κ×V)}{vs:List (κ×Value)}(r:KV i3 vs)(k:κ){y:V}{u:gy}(ry:RelV y u):KV (BR i3 k y) (stored vs k u):=by
 unfold BR stored;rw[r.any k];by_cases e:(vs.any fun kv=>decide (kv.1=k))=true
 ·rw[gz e,gz e];exact r.repl k ry
 ·rw[gC e,gC e];exact Paired.snoc r ⟨rfl,ry⟩
end
theorem Rg{P:gM}{w:gE}{k:Key}{u:gy}(r:RelV (kV k) u):(lC P w).is k u=true:=by
 cases k with
 |inl i=>obtain⟨t,e⟩:=(show ∃t,u=Value.int i t from r);subst e;exact Cc P w i t
 |inr x=>obtain⟨t,e⟩:=(show ∃t,u=Value.str x t from r);subst e;exact Cb P w x t
section
variable {P:gM}{w:gE}{H:Hp}{h:gL}{a:gm}
theorem Qz{u:HO}(ok:HOk P w H h)(e:Rd H a u):ObjOk P w H h a u:=e.ok ok
theorem Rv{i3:List (Key×V)}(ok:HOk P w H h)(e:Rd H a (.dK i3)):i3.length<=sizeLine/\(a==sysModules)=false/\ ∃vs,KV i3 vs/\h.DictOf (lC P w) a vs:=
 show ObjOk P w H h a (.dK i3) from Qz ok e
theorem Rw{i3:List (Key×V)}(ok:HOk P w H h)(e:H a=some (.dK i3)):i3.length<=sizeLine/\(a==sysModules)=false/\ ∃vs,KV i3 vs/\h.DictOf (lC P w) a vs:=Rv ok (.inl e)
end
section
variable {X:Cx}{pins:gZ}{σ:St}{H:Hp}{s:gu}{a:gm}{y v:V}{u r:gy}{o:Option V}{A:gG}{E:hV}
theorem Inv.big(I:Inv X pins σ H s):sysModules<s.heap.objs.size:=by
 have h:mainGlobals<s.heap.objs.size:=(I.mod.glob.keeps I.bk).lt;exact wy (by decide) h
theorem Gf{h':gL}{t':Nat}{ob:HO}(I:Inv X pins σ H s)(mu:Mut (H a))(hs:Heap.SameBut a s.heap h')(he: ∃q,h'.get? a=some q)(new:ObjOk X.prog X.w (upd H a ob) h' a ob):
  Inv X pins σ (upd H a ob) {s with heap:=h',toks:=t'}:=
 I.write (x:=a) (e:=a) mu (.inl rfl) (fun b q hb z=>(hs.2 b hb).trans z) he new
theorem Pz{P:gM}{w:gE}{H':Hp}{h':gL}{i3:List (Key×V)}{vs:List (Key×Value)}(z:i3.length<=sizeLine)(hd:(a==sysModules)=false)(rel:KV i3 vs)(dd:h'.DictOf (lC P w) a vs):
  ObjOk P w H' h' a (.dK i3):=⟨z,hd,vs,rel,dd⟩
end
theorem Cv{P:gM}{w:gE}{H:Hp}(h:gL)(hb:sysModules<h.objs.size):ObjOk P w H (h.push {cls:= .type "dict",data:= .dict #[]}) h.objs.size (.dK []):=
 ⟨lI _,yK.mpr (mC (jy hb)),[],.nil,Heap.DictOf.new h⟩
noncomputable def NK:TE:=fun _ H Q=> ∀p,H p=none->Q (.ref p) (upd H p (.dK []))
section
variable {X:Cx}{pos:Pos}
theorem JF:PE X (.Dict [] [] pos) NK:=fun pins s σ H Q I h=>
 wpAny_Dict_empty ⟨.ref s.heap.objs.size,_,I.laid (a:=s.heap.objs.size) (o:= .dK []) (t':=s.toks) (fun _ _ q=>iB _ q) (ic _) (Cv s.heap I.big),rfl,h _ (I.hok.fresh (ic _))⟩
end
def DP:List (TE×TE)->St->Hp->(List (V×V)->Hp->Prop)->Prop
 |[],_,H,Q=>Q [] H
 |(tk,tv)::r,σ,H,Q=>tk σ H fun x H1=>tv σ H1 fun y H2=>DP r σ H2 fun ps H3=>Q ((x,y)::ps) H3
abbrev VV:List (V×V)->List (Value×Value)->Prop:=Paired fun p q=>RelV p.1 q.1/\RelV p.2 q.2
def PPs(X:Cx)(pos:Pos)(keys:List (Option Expr))(values:jf)(bD:List (TE×TE)):Prop:=
 ∀(pins:gZ) (s:gu) (σ:St) (H:Hp) (Q:List (V×V)->Hp->Prop),Inv X pins σ H s->DP bD σ H Q->
  wpAny (model X.prog X.w) X.A (evalPairs (pairTrees keys values X.env pos)) (fun vs s'=> ∃ps H',Inv X pins σ H' s'/\VV ps vs/\Q ps H') X.xe s
theorem L6{X:Cx}{pos:Pos}:PPs X pos [] [] []:=fun pins s σ H Q I h=>pairTrees_nil_walk ⟨[],H,I,.nil,h⟩
theorem Ju{X:Cx}{pos:Pos}{k v:gx}{ks:List (Option Expr)}{vs:jf}{tk tv:TE}{bD:List (TE×TE)}(hk:PE X k tk)(hv:PE X v tv)(hr:PPs X pos ks vs bD):
  PPs X pos (some k::ks) (v::vs) ((tk,tv)::bD):=fun pins s σ H Q I h=>
 pairTrees_cons_walk (thn (hk pins s σ H _ I h) fun u s1 ⟨x,H1,I1,rx,q1⟩=>thn (hv pins s1 σ H1 _ I1 q1) fun w2 s2 ⟨y,H2,I2,ry,q2⟩=>
  thn (hr pins s2 σ H2 _ I2 q2) fun ws s3 ⟨ps,H3,I3,rel,q3⟩=>⟨(x,y)::ps,H3,I3,.cons ⟨rx,ry⟩ rel,q3⟩)
noncomputable def xK(i3 more:List (Key×V)):List (Key×V):=more.foldl (fun acc kv=>BR acc kv.1 kv.2) i3
theorem KV.merge: ∀{more:List (Key×V)} {rs:List (Key×Value)} {i3:List (Key×V)} {vs:List (Key×Value)},KV more rs->KV i3 vs->KV (xK i3 more) (merged vs rs):=by
 intro more rs i3 vs r;unfold KV at r
 induction r generalizing i3 vs with
 |nil=>intro q;exact q
 | @cons p q ps qs h t ih=>
  intro r0
  have e:KV (BR i3 p.1 p.2) (stored vs q.1 q.2):=by
   have:=r0.put p.1 h.2;rw[<-h.1];exact this
  exact ih e
theorem rB: ∀(more i3:List (Key×V)),(xK i3 more).length<=i3.length+more.length
 |[],i3=>by show i3.length<=i3.length+0;omega
 |p::r,i3=>by
  have h1:=rB r (BR i3 p.1 p.2);have h2:=Cf i3 p.1 p.2;show(xK (BR i3 p.1 p.2) r).length<=_;rw[jq];omega
theorem yu{P:gM}{w:gE}: ∀{i3:List (Key×V)} {ws:List (Value×Value)},VV (i3.map fun kv=>(kV kv.1,kv.2)) ws-> ∃rs,Carries (lC P w) ws rs/\KV i3 rs
 |[],_,r=>by rw[rR] at r;cases r;exact⟨[],True.intro,.nil⟩
 |p::i3,_,r=>by
  rw[iY] at r
  cases r with
  | @cons a b as bs h t=>
   obtain⟨rs,c,q⟩:=yu (P:=P) (w:=w) t;obtain⟨b1,b2⟩:=b;exact⟨(p.1,b2)::rs,⟨Rg h.1,rfl,c⟩,.cons ⟨rfl,h.2⟩ q⟩
def Ql(bD:List (TE×TE)):TE:=fun σ H Q=> ∀p,H p=none->DP bD σ (upd H p (.dK [])) fun ps H2=>H2 p=some (.dK [])/\ ∃i3:List (Key×V),ps=i3.map (fun kv=>(kV kv.1,kv.2))/\i3.length<=15/\Q (.ref p) (upd H2 p (.dK (xK [] i3)))
theorem Mc{X:Cx}{pos:Pos}{keys:List (Option Expr)}{values:jf}{bD:List (TE×TE)}(h:PPs X pos keys values bD)(cM:keys.all (·.isSome)=true)(hl:keys.length=values.length)(h0:keys≠[])
  (h15:keys.length<=15):PE X (.Dict keys values pos) (Ql bD):=by
 intro pins s σ H Q I q;have hn:=I.hok.fresh (ic s.heap.objs.size);have I1:=I.laid (a:=s.heap.objs.size) (o:= .dK []) (h':=s.heap.push {cls:= .type "dict",data:= .dict #[]}) (t':=s.toks) (fun _ _ q=>iB _ q) (ic _) (Cv s.heap I.big);refine wpAny_Dict_walk (knd:=lC X.prog X.w) cM hl h0 h15 (thn (h pins _ σ _ _ I1 (q _ hn)) fun ws s2 ⟨ps,H2,I2,rel,e,i3,ep,lk,q2⟩=>?_);subst ep;obtain⟨rs,c,rk⟩:=yu (P:=X.prog) (w:=X.w) rel;obtain⟨z,hd,vs0,r0,dd⟩:=Rw I2.hok e;cases r0;refine⟨rs,c,dd,fun h' dd' hs=>⟨.ref s.heap.objs.size,_,?_,rfl,q2⟩⟩
 have hz:(xK [] i3).length<=sizeLine:=by
  have h1:=rB i3 [];rw[pM] at h1;rw[iZ];omega
 have he: ∃q,h'.get? s.heap.objs.size=some q:=let⟨q,_,_,hq,_⟩:=dd';⟨q,hq⟩
 exact Gf I2 (by rw[e];exact True.intro) hs he (Pz hz hd (rk.merge .nil) dd')
end L2
namespace PX
open PySem PySem.Spec PyProof.Rows L2
inductive OK where
 |dct|set|fn(i:Nat)|exc(c:Nat)
 deriving DecidableEq
inductive D where
 |non|bl(b:Bool)|int(i:Int)|str(x:Str)|tup(l:List D)|lst(l:List D)|oth(k:OK)(ks vs:List D)
mutual
/-- the hash of ints and of tuples of such -/
noncomputable def D.hash:D->Int
 | .int i=>hashInt i
 | .tup l=>reduceHash (Builtin.Tuple.tupleHashOf (D.hashL l))
 |_=>0
noncomputable def D.hashL:List D->List Int
 |[]=>[]
 |d::l=>D.hash d::D.hashL l
end
noncomputable def Rc:Key->D
 | .inl i=> .int i
 | .inr x=> .str x
def T7(K:gQ)(o:Obj)(C:Nat):Prop:=o.cls= .ref C/\(∀a:Addr,PySem.W.KitX K (.ref a) (.ref C) fun h=>h.get? a=some o)/\ ∀n∈["int","bool","str","tuple","list","dict"],PySem.W.kitOne K (.ref C) (.type n)=some false
def OthB(K:gQ)(h:Option HO)(k:OK)(ks vs:List D)(us:List V):Prop:=
 match k with
 | .dct=>(∃i3:List (Key×V),h=some (.dK i3)/\ks=i3.map (fun p=>Rc p.1)/\us=i3.map (·.2))\/
   (∃i3:List (List Key×V),h=some (.dT i3)/\ks=i3.map (fun p=> .tup (p.1.map Rc))/\us=i3.map (·.2))
 | .set=>ks=[]/\ ∃zs:List (Int×V),h=some (.stt zs)/\zs.Perm ((D.hashL vs).zip us)
 | .exc C=>(ks=[]/\vs=[]/\us=[])/\ ∃o,h=some (.frz o (.own 0))/\T7 K o C
 |_=>False
theorem OthB.ex{K h k ks vs us}(x:OthB K h k ks vs us): ∃o,h=some o:=by
 cases k with
 |dct=>rcases x with⟨_,e,_⟩|⟨_,e,_⟩<;>exact⟨_,e⟩
 |set=>obtain⟨_,_,e,_⟩:=x;exact⟨_,e⟩
 |exc C=>obtain⟨_,_,e,_⟩:=x;exact⟨_,e⟩
 |_=>exact x.elim
theorem OthB.keep{K k ks vs us}(x:OthB K h k ks vs us)(kp: ∀o,h=some o->h'=some o):OthB K h' k ks vs us:=by
 obtain⟨o,e⟩:=x.ex;rw[kp o e,<-e];exact x
abbrev AP':=Addr->Prop
def KL(K:gQ)(a:gm)(xs:List V):Prop:= ∃(o:Obj) (b6:kg) (n:Nat),K.lookup a=some o/\o.cls= .type "list"/\o.dict=none/\o.data= .seq b6 n/\b6.size<=sizeLine/\Vals xs b6.toList
def SqTO(K:gQ)(H:Hp)(O:AP')(a:gm)(xs:List V):Prop:=H a=some (.tup xs)/\ ¬O a
def SqLO(K:gQ)(H:Hp)(O:AP')(a:gm)(xs:List V):Prop:=(Rd H a (.lst xs)/\ ¬O a)\/KL K a xs
theorem SqTO.sq{K H O a xs}(h:SqTO K H O a xs):SqT K H a xs:= .inl (.inl h.1)
theorem SqLO.sq{K H O a xs}(h:SqLO K H O a xs):SqL K H a xs:=h.elim (fun z=> .inl z.1) .inr
theorem Rd.mono{a u}(h:Rd H a u)(k: ∀o,H a=some o->H' a=some o):Rd H' a u:=by
 rcases h with h|⟨o,h⟩
 ·exact .inl (k _ h)
 ·exact .inr ⟨o,k _ h⟩
theorem SqTO.mono{K H H'}{a xs}(h:SqTO K H O a xs)(k: ∀b o,H b=some o-> ¬O b->H' b=some o)(hO: ∀b,H b≠none->O' b->O b):SqTO K H' O' a xs:=
 ⟨k a _ h.1 h.2,fun z=>h.2 (hO a (by rw[h.1];simp) z)⟩
theorem SqLO.mono{K H H'}{a xs}(h:SqLO K H O a xs)(k: ∀b o,H b=some o-> ¬O b->H' b=some o)(hO: ∀b,H b≠none->O' b->O b):SqLO K H' O' a xs:=by
 rcases h with⟨r,n⟩|h
 ·refine .inl ⟨Rd.mono r fun o e=>k a o e n,fun z=>n (hO a ?_ z)⟩;rcases r with r|⟨_,r⟩<;>(rw[r];simp)
 ·exact .inr h
mutual
/-- v is the datum,in H;nothing of it stands at an address of O -/
def Rep(K:gQ)(H:Hp)(O:AP'):D->V->Prop
 | .non,v=>v= .non
 | .bl b,v=>v= .bl b
 | .int i,v=>v= .int i
 | .str x,v=>v= .str x
 | .tup l,v=> ∃a xs,v= .ref a/\SqTO K H O a xs/\RepL K H O l xs
 | .lst l,v=> ∃a xs,v= .ref a/\SqLO K H O a xs/\RepL K H O l xs
 | .oth k ks vs,v=> ∃a us,v= .ref a/\(¬O a/\OthB K (H a) k ks vs us)/\RepL K H O vs us
def RepL(K:gQ)(H:Hp)(O:AP'):List D->List V->Prop
 |[],vs=>vs=[]
 |d::l,vs=> ∃v r,vs=v::r/\Rep K H O d v/\RepL K H O l r
end
mutual
theorem Rep.mono{K H H'}{O O':AP'}(k: ∀b o,H b=some o-> ¬O b->H' b=some o)(hO: ∀b,H b≠none->O' b->O b): ∀{d:D} {v:V},Rep K H O d v->Rep K H' O' d v
 | .non,_,h=>h
 | .bl _,_,h=>h
 | .int _,_,h=>h
 | .str _,_,h=>h
 | .tup l,_,h=>by
  rw[Rep] at h ⊢;obtain⟨a,xs,e,s,r⟩:=h;exact⟨a,xs,e,s.mono k hO,RepL.mono k hO r⟩
 | .lst l,_,h=>by
  rw[Rep] at h ⊢;obtain⟨a,xs,e,s,r⟩:=h;exact⟨a,xs,e,s.mono k hO,RepL.mono k hO r⟩
 | .oth kk ks vs,_,h=>by
  rw[Rep] at h ⊢;obtain⟨a,us,e,s,r⟩:=h;exact⟨a,us,e,⟨fun z=>s.1 (hO a (by obtain⟨o,q⟩:=s.2.ex;rw[q];simp) z),s.2.keep fun o q=>k a o q s.1⟩,RepL.mono k hO r⟩
theorem RepL.mono{K H H'}{O O':AP'}(k: ∀b o,H b=some o-> ¬O b->H' b=some o)(hO: ∀b,H b≠none->O' b->O b): ∀{l:List D} {vs:List V},RepL K H O l vs->RepL K H' O' l vs
 |[],_,h=>h
 |d::l,_,h=>by
  rw[RepL] at h ⊢;obtain⟨v,r,e,h1,h2⟩:=h;exact⟨v,r,e,Rep.mono k hO h1,RepL.mono k hO h2⟩
end
theorem Rep.mkInt{K H O i}:Rep K H O (.int i) (.int i):=by rw[Rep]
theorem Rep.mkBl{K H O i}:Rep K H O (.bl i) (.bl i):=by rw[Rep]
theorem Rep.mkNon{K H O}:Rep K H O .non .non:=by rw[Rep]
theorem Rep.mkStr{K H O i}:Rep K H O (.str i) (.str i):=by rw[Rep]
theorem Rep.int{K H O i v}(h:Rep K H O (.int i) v):v= .int i:=by rwa [Rep] at h
theorem Rep.bl{K H O i v}(h:Rep K H O (.bl i) v):v= .bl i:=by rwa [Rep] at h
theorem Rep.non{K H O v}(h:Rep K H O .non v):v= .non:=by rwa [Rep] at h
theorem Rep.str{K H O i v}(h:Rep K H O (.str i) v):v= .str i:=by rwa [Rep] at h
theorem Rep.tup{K H O l v}(h:Rep K H O (.tup l) v): ∃a xs,v= .ref a/\SqTO K H O a xs/\RepL K H O l xs:=by rwa [Rep] at h
theorem Rep.lst{K H O l v}(h:Rep K H O (.lst l) v): ∃a xs,v= .ref a/\SqLO K H O a xs/\RepL K H O l xs:=by rwa [Rep] at h
theorem Rep.oth{K H O k ks vs v}(h:Rep K H O (.oth k ks vs) v): ∃a us,v= .ref a/\(¬O a/\OthB K (H a) k ks vs us)/\RepL K H O vs us:=by rwa [Rep] at h
theorem Rep.mkOth{K H O k ks vs a us}(n: ¬O a)(h:OthB K (H a) k ks vs us)(r:RepL K H O vs us):Rep K H O (.oth k ks vs) (.ref a):=by rw[Rep];exact⟨a,us,rfl,⟨n,h⟩,r⟩
theorem Rep.mkTup{K H O l a xs}(h:SqTO K H O a xs)(r:RepL K H O l xs):Rep K H O (.tup l) (.ref a):=by rw[Rep];exact⟨a,xs,rfl,h,r⟩
theorem Rep.mkLst{K H O l a xs}(h:SqLO K H O a xs)(r:RepL K H O l xs):Rep K H O (.lst l) (.ref a):=by rw[Rep];exact⟨a,xs,rfl,h,r⟩
theorem RepL.length{K H O}: ∀{l:List D} {vs:List V},RepL K H O l vs->vs.length=l.length
 |[],vs,h=>by rw[RepL] at h;rw[h];rfl
 |d::l,vs,h=>by
  rw[RepL] at h;obtain⟨v,r,rfl,_,h2⟩:=h;simp[RepL.length h2]
theorem RepL.get{K H O}: ∀{l:List D} {vs:List V} {i:Nat} {d:D},RepL K H O l vs->l[i]?=some d-> ∃v,vs[i]?=some v/\Rep K H O d v
 |[],_,_,_,_,e=>by simp at e
 |d::l,vs,0,d',h,e=>by
  rw[RepL] at h;obtain⟨v,r,rfl,h1,_⟩:=h;simp at e;subst e;exact⟨v,rfl,h1⟩
 |d::l,vs,i+1,d',h,e=>by
  rw[RepL] at h;obtain⟨v,r,rfl,_,h2⟩:=h;obtain⟨w,h3,h4⟩:=RepL.get (i:=i) h2 (by simpa using e);exact⟨w,by simpa using h3,h4⟩
theorem RepL.append{K H O}: ∀{l m:List D} {vs ws:List V},RepL K H O l vs->RepL K H O m ws->RepL K H O (l++m) (vs++ws)
 |[],_,vs,_,h,h'=>by rw[RepL] at h;subst h;exact h'
 |d::l,_,vs,_,h,h'=>by
  rw[RepL] at h;obtain⟨v,r,rfl,h1,h2⟩:=h;show RepL K H O (d::(l++_)) _;rw[RepL];exact⟨v,_,rfl,h1,RepL.append h2 h'⟩
theorem RepL.one{K H O}{d:D}{v:V}(h:Rep K H O d v):RepL K H O [d] [v]:=by
 rw[RepL];exact⟨v,[],rfl,h,by rw[RepL]⟩
theorem RepL.nil{K H O}:RepL K H O [] []:=by rw[RepL]
theorem RepL.cons{K H O}{l vs}(h:Rep K H O d v)(h':RepL K H O l vs):RepL K H O (d::l) (v::vs):=by
 rw[RepL];exact⟨v,vs,rfl,h,h'⟩
theorem RepL.take{K H O}: ∀{l:List D} {vs:List V} (n:Nat),RepL K H O l vs->RepL K H O (l.take n) (vs.take n)
 |_,_,0,_=>by simp[RepL]
 |[],vs,n+1,h=>by rw[RepL] at h;subst h;simp[RepL]
 |d::l,vs,n+1,h=>by
  rw[RepL] at h;obtain⟨v,r,rfl,h1,h2⟩:=h;exact RepL.cons h1 (RepL.take n h2)
theorem RepL.drop{K H O}: ∀{l:List D} {vs:List V} (n:Nat),RepL K H O l vs->RepL K H O (l.drop n) (vs.drop n)
 |_,_,0,h=>h
 |[],vs,n+1,h=>by rw[RepL] at h;subst h;simp[RepL]
 |d::l,vs,n+1,h=>by
  rw[RepL] at h;obtain⟨v,r,rfl,h1,h2⟩:=h;exact RepL.drop n h2
theorem RepL.set{K H O}{d:D}{v:V}(hv:Rep K H O d v): ∀{l:List D} {vs:List V} (i:Nat),RepL K H O l vs->RepL K H O (l.set i d) (vs.set i v)
 |[],vs,i,h=>by rw[RepL] at h;subst h;simp[RepL]
 |e::l,vs,0,h=>by
  rw[RepL] at h;obtain⟨w,r,rfl,h1,h2⟩:=h;exact RepL.cons hv h2
 |e::l,vs,i+1,h=>by
  rw[RepL] at h;obtain⟨w,r,rfl,h1,h2⟩:=h;exact RepL.cons h1 (RepL.set hv i h2)
abbrev Sl:=Option (D×Bool)
abbrev Dn:=List Sl
def OwnA(σ:L2.St)(δ:Dn)(a:gm):Prop:= ∃(i:Nat) (d:D),δ[i]?=some (some (d,true))/\σ[i]?=some (some (V.ref a))
def OwnOk(K:gQ)(H:Hp)(O:AP'):D->Addr->Prop
 | .lst l,a=> ∃xs,H a=some (.lst xs)/\RepL K H O l xs
 | .oth k ks vs,a=> ∃us,OthB K (H a) k ks vs us/\RepL K H O vs us
 |_,_=>False
theorem OwnOk.mono{K H H'}(h:OwnOk K H O d a)(k: ∀b o,H b=some o-> ¬O b->H' b=some o)(hO: ∀b,H b≠none->O' b->O b)(ka: ∀o,H a=some o->H' a=some o):OwnOk K H' O' d a:=by
 cases d with
 |lst l=>obtain⟨xs,e,r⟩:=h;exact⟨xs,ka _ e,RepL.mono k hO r⟩
 |oth kk ks vs=>obtain⟨us,e,r⟩:=h;exact⟨us,e.keep ka,RepL.mono k hO r⟩
 |_=>exact h
theorem OwnOk.rep{K H}(h:OwnOk K H O d a)(na: ¬O' a)(hO: ∀b,H b≠none->O' b->O b):Rep K H O' d (.ref a):=by
 cases d with
 |lst l=>
  obtain⟨xs,e,r⟩:=h;rw[Rep];exact⟨a,xs,rfl,.inl ⟨.inl e,na⟩,RepL.mono (fun b o e _=>e) hO r⟩
 |oth kk ks vs=>
  obtain⟨us,e,r⟩:=h;exact Rep.mkOth na e (RepL.mono (fun b o e _=>e) hO r)
 |_=>exact h.elim
def Ow:Option HO->Prop
 |none=>False
 |some (.tup _)=>False
 |_=>True
theorem Ow.ne{o:Option HO}(h:Ow o):o≠none:=fun e=>by rw[e] at h;exact h
theorem Ow.up{o o':Option HO}(h:Ow o)(k: ∀x,o=some x->o'=some x):Ow o':=by
 cases o with
 |none=>exact h.elim
 |some x=>rw[k x rfl];exact h
theorem nOw{o:Option HO}(h:o=none): ¬Ow o:=fun z=>z.ne h
theorem OwnOk.ow{K H}{O:AP'}{d:D}{a:gm}(h:OwnOk K H O d a):Ow (H a):=by
 cases d with
 |lst l=>obtain⟨xs,e,_⟩:=h;rw[e];trivial
 |oth k ks vs=>
  obtain⟨us,e,_⟩:=h
  cases k with
  |dct=>rcases e with⟨_,e,_⟩|⟨_,e,_⟩<;>(rw[e];trivial)
  |set=>obtain⟨_,_,e,_⟩:=e;rw[e];trivial
  |exc C=>obtain⟨_,_,e,_⟩:=e;rw[e];trivial
  |_=>exact e.elim
 |_=>exact h.elim
structure ER(K:gQ)(H:Hp)(T:AP')(σ:L2.St)(δ:Dn):Prop where
 len:σ.length=δ.length
 val: ∀(i:Nat) (d:D),δ[i]?=some (some (d,false))-> ∃v,σ[i]?=some (some v)/\Rep K H (fun a=>OwnA σ δ a\/T a) d v
 own: ∀(i:Nat) (d:D),δ[i]?=some (some (d,true))-> ∃a,σ[i]?=some (some (V.ref a))/\OwnOk K H (fun a=>OwnA σ δ a\/T a) d a
 inj: ∀(i j:Nat) (d e:D) (a:gm),δ[i]?=some (some (d,true))->δ[j]?=some (some (e,true))->σ[i]?=some (some (V.ref a))->σ[j]?=some (some (V.ref a))->i=j
 nT: ∀a,OwnA σ δ a-> ¬T a
 dom: ∀a,T a->Ow (H a)
theorem ER.ownOw{K H T σ δ}(E:ER K H T σ δ)(h:OwnA σ δ a):Ow (H a):=by
 obtain⟨i,d,h1,h2⟩:=h;obtain⟨b,h3,h4⟩:=E.own i d h1;rw[h2] at h3;cases h3;exact h4.ow
theorem ER.ownDom{K H T σ δ}(E:ER K H T σ δ)(h:OwnA σ δ a):H a≠none:=(E.ownOw h).ne
theorem ER.mono{K H H' σ δ}(E:ER K H T σ δ)(k: ∀b o,H b=some o-> ¬T b->H' b=some o)(hT: ∀b,H b≠none->T' b->T b)(hd: ∀a,T' a->Ow (H' a)):ER K H' T' σ δ where
 len:=E.len
 val:=fun i d h=>by
  obtain⟨v,h1,h2⟩:=E.val i d h;exact⟨v,h1,Rep.mono (fun b o e n=>k b o e fun z=>n (.inr z)) (fun b hb z=>z.elim .inl fun z=> .inr (hT b hb z)) h2⟩
 own:=fun i d h=>by
  obtain⟨a,h1,h2⟩:=E.own i d h;exact⟨a,h1,h2.mono (fun b o e n=>k b o e fun z=>n (.inr z)) (fun b hb z=>z.elim .inl fun z=> .inr (hT b hb z)) fun o e=>k a o e (E.nT a ⟨i,d,h,h1⟩)⟩
 inj:=E.inj
 nT:=fun a h z=>E.nT a h (hT a (E.ownDom h) z)
 dom:=hd
theorem OwnA.set(h:OwnA σ (δ.set i (some (d,false))) a):OwnA σ δ a:=by
 obtain⟨j,e,h1,h2⟩:=h;rw[wx] at h1;split at h1
 ·split at h1<;>simp at h1
 ·exact⟨j,e,h1,h2⟩
theorem ER.freeze{K H T σ δ}(E:ER K H T σ δ){i:Nat}{d:D}{b:Bool}(h:δ[i]?=some (some (d,b))):ER K H T σ (δ.set i (some (d,false)))/\ ∃v,σ[i]?=some (some v)/\Rep K H (fun a=>OwnA σ (δ.set i (some (d,false))) a\/T a) d v:=by
 have hi:i<δ.length:=(pQ.mp h).1
 have me: ∃v,σ[i]?=some (some v)/\Rep K H (fun a=>OwnA σ (δ.set i (some (d,false))) a\/T a) d v:=by
  cases b with
  |false=>
   obtain⟨v,h1,h2⟩:=E.val i d h;exact⟨v,h1,Rep.mono (fun _ _ e _=>e) (fun b _ z=>z.elim (fun z=> .inl z.set) .inr) h2⟩
  |true=>
   obtain⟨a,h1,h2⟩:=E.own i d h;refine⟨.ref a,h1,h2.rep (fun z=>?_) fun b _ z=>z.elim (fun z=> .inl z.set) .inr⟩;rcases z with⟨j,e,h3,h4⟩|z
   ·rw[wx] at h3;split at h3
    ·first
      |(split at h3<;>simp at h3)
      |simp at h3
    ·rename_i w9;exact w9 (E.inj i j d e a h h3 h1 h4)
   ·exact E.nT a ⟨i,d,h,h1⟩ z
 refine⟨⟨by rw[pN];exact E.len,fun j e hj=>?_,fun j e hj=>?_,fun j k e f a hj hk h1 h2=>?_,fun a z=>E.nT a z.set,E.dom⟩,me⟩
 ·by_cases o4:i=j
  ·subst o4;rw[lJ hi] at hj;cases hj;exact me
  ·rw[mQ o4] at hj;obtain⟨v,h1,h2⟩:=E.val j e hj;exact⟨v,h1,Rep.mono (fun _ _ e _=>e) (fun b _ z=>z.elim (fun z=> .inl z.set) .inr) h2⟩
 ·by_cases o4:i=j
  ·subst o4;rw[lJ hi] at hj;cases hj
  ·rw[mQ o4] at hj;obtain⟨a,h1,h2⟩:=E.own j e hj;exact⟨a,h1,h2.mono (fun _ _ e _=>e) (fun b _ z=>z.elim (fun z=> .inl z.set) .inr) fun _ e=>e⟩
 ·have g1:δ[j]?=some (some (e,true)):=by
   by_cases o4:i=j
   ·subst o4;rw[lJ hi] at hj;cases hj
   ·rwa [mQ o4] at hj
  have g2:δ[k]?=some (some (f,true)):=by
   by_cases o4:i=k
   ·subst o4;rw[lJ hi] at hk;cases hk
   ·rwa [mQ o4] at hk
  exact E.inj j k e f a g1 g2 h1 h2
def OwnI(σ:L2.St)(δ:Dn)(i:Nat)(a:gm):Prop:= ∃d:D,δ[i]?=some (some (d,true))/\σ[i]?=some (some (V.ref a))
structure Keep(σ:L2.St)(δ:Dn)(H:Hp)(δ':Dn)(H':Hp):Prop where
 kp: ∀a o,H a=some o-> ¬OwnA σ δ a->H' a=some o
 owi: ∀i a,OwnI σ δ' i a->OwnI σ δ i a
 dm: ∀a,H a≠none->H' a≠none
theorem Keep.ow{σ δ H δ' H'}(k:Keep σ δ H δ' H')(a:gm)(h:OwnA σ δ' a):OwnA σ δ a:=by
 obtain⟨i,d,h1,h2⟩:=h;obtain⟨e,h3,h4⟩:=k.owi i a ⟨d,h1,h2⟩;exact⟨i,e,h3,h4⟩
theorem Keep.refl{σ δ H}:Keep σ δ H δ H:=⟨fun _ _ e _=>e,fun _ _ z=>z,fun _ z=>z⟩
theorem Keep.trans{σ δ δ1 δ2 H H1 H2}(x:Keep σ δ H δ1 H1)(y:Keep σ δ1 H1 δ2 H2):Keep σ δ H δ2 H2:=
 ⟨fun a o e n=>y.kp a o (x.kp a o e n) fun z=>n (x.ow a z),fun i a z=>x.owi i a (y.owi i a z),fun a z=>y.dm a (x.dm a z)⟩
theorem Keep.ext{σ δ H H1}(k: ∀a o,H a=some o->H1 a=some o):Keep σ δ H δ H1:=⟨fun a o e _=>k a o e,fun _ _ z=>z,fun a z=>by
 cases h:H a with
 |none=>exact absurd h z
 |some o=>rw[k a o h];simp⟩
theorem OwnI.set(h:OwnI σ (δ.set i (some (d,false))) j a):OwnI σ δ j a:=by
 obtain⟨e,h1,h2⟩:=h;rw[wx] at h1;split at h1
 ·split at h1<;>simp at h1
 ·exact⟨e,h1,h2⟩
theorem Keep.set{σ δ H i d}:Keep σ δ H (δ.set i (some (d,false))) H:=⟨fun _ _ e _=>e,fun _ _ z=>z.set,fun _ z=>z⟩
def Post(K:gQ)(T:AP')(σ:L2.St)(δ:Dn)(H:Hp)(r:D×Bool)(δ':Dn)(v:V)(H':Hp):Prop:=
 Keep σ δ H δ' H'/\
 match r with
 |(d,false)=>ER K H' T σ δ'/\Rep K H' (fun a=>OwnA σ δ' a\/T a) d v
 |(d,true)=> ∃p,v= .ref p/\H p=none/\ER K H' (fun a=>T a\/a=p) σ δ'/\OwnOk K H' (fun a=>OwnA σ δ' a\/T a\/a=p) d p
abbrev F:=Dn->Option ((D×Bool)×Dn)
def tF(K:gQ)(f:F):TE:=fun σ H Q=> ∃δ T r δ',ER K H T σ δ/\f δ=some (r,δ')/\ ∀v H',Post K T σ δ H r δ' v H'->Q v H'
def PX(X:Cx)(e:gx)(f:F):Prop:=PE X e (tF X.K f)
noncomputable def Tmp(T:AP')(r:D×Bool)(v:V):AP':=fun a=>T a\/(r.2=true/\v= .ref a)
section
variable {K:gQ}{T:AP'}{σ:L2.St}{δ δ1 δ2:Dn}{H H1 H2:Hp}{x y:D×Bool}{v u:V}
theorem Post.er(E:ER K H T σ δ)(P:Post K T σ δ H x δ1 v H1):ER K H1 (Tmp T x v) σ δ1:=by
 obtain⟨d,b⟩:=x
 cases b with
 |false=>
  refine P.2.1.mono (fun _ _ e _=>e) (fun b _ z=>z.elim id fun z=>absurd z.1 (by simp)) (fun a z=>?_);rcases z with z|z
  ·exact P.2.1.dom a z
  ·exact absurd z.1 (by simp)
 |true=>
  obtain⟨p,rfl,hp,E1,o1⟩:=P.2;refine E1.mono (fun _ _ e _=>e) (fun b _ z=>z.elim .inl fun z=> .inr (by have:=z.2;cases this;rfl)) (fun a z=>?_);rcases z with z|z
  ·exact E1.dom a (.inl z)
  ·have:=z.2;cases this;exact E1.dom _ (.inr rfl)
theorem Post.rep(E:ER K H T σ δ)(P:Post K T σ δ H x δ1 v H1):ER K H1 T σ δ1/\Rep K H1 (fun a=>OwnA σ δ1 a\/T a) x.1 v:=by
 obtain⟨d,b⟩:=x
 cases b with
 |false=>exact P.2
 |true=>
  obtain⟨p,rfl,hp,E1,o1⟩:=P.2;refine⟨E1.mono (fun _ _ e _=>e) (fun b _ z=> .inl z) (fun a z=>E1.dom a (.inl z)),o1.rep (fun z=>?_) fun b _ z=>z.elim .inl fun z=> .inr (.inl z)⟩;rcases z with z|z
  ·exact E1.nT p z (.inr rfl)
  ·exact(E.dom p z).ne hp
theorem Post.val(k:Keep σ δ H δ2 H2)(E:ER K H2 T σ δ2)(r:Rep K H2 (fun a=>OwnA σ δ2 a\/T a) d w):Post K T σ δ H (d,false) δ2 w H2:=⟨k,E,r⟩
end
theorem gJ{α β:Type}{a a':α}{b b':β}(h:some (a,b)=some (a',b')):a=a'/\b=b':=by cases h;exact⟨rfl,rfl⟩
noncomputable def fC(d:D):F:=fun δ=>some ((d,false),δ)
noncomputable def js(i:Nat):F:=fun δ=>match δ[i]? with
 |some (some (d,_))=>some ((d,false),δ.set i (some (d,false)))
 |_=>none
section
variable {X:Cx}{a b c:gx}{pos:Pos}{fa fb fc:F}
theorem PX.imp(h:PE X e t)(k: ∀σ H Q,tF X.K f σ H Q->t σ H Q):PX X e f:=fun pins s σ H Q I hw=>h pins s σ H Q I (k σ H Q hw)
theorem Of{i j}:PX X (.Constant (.int i) j pos) (fC (.int i)):=PX.imp D8 fun σ H Q h=>by
 obtain⟨δ,T,r,δ',E,e,k⟩:=h;cases e;exact k _ _ (Post.val .refl E (by first|exact Rep.mkInt|exact Rep.mkBl|exact Rep.mkNon|exact Rep.mkStr))
theorem Nb{i j}:PX X (.Constant (.bool i) j pos) (fC (.bl i)):=PX.imp Q3 fun σ H Q h=>by
 obtain⟨δ,T,r,δ',E,e,k⟩:=h;cases e;exact k _ _ (Post.val .refl E (by first|exact Rep.mkInt|exact Rep.mkBl|exact Rep.mkNon|exact Rep.mkStr))
theorem Ob{j}:PX X (.Constant .none j pos) (fC .non):=PX.imp OL fun σ H Q h=>by
 obtain⟨δ,T,r,δ',E,e,k⟩:=h;cases e;exact k _ _ (Post.val .refl E (by first|exact Rep.mkInt|exact Rep.mkBl|exact Rep.mkNon|exact Rep.mkStr))
theorem N4{i j}:PX X (.Constant (.str i) j pos) (fC (.str i)):=PX.imp OH fun σ H Q h=>by
 obtain⟨δ,T,r,δ',E,e,k⟩:=h;cases e;exact k _ _ (Post.val .refl E (by first|exact Rep.mkInt|exact Rep.mkBl|exact Rep.mkNon|exact Rep.mkStr))
theorem N2{i:Nat}{x:Str}(hN:X.N[i]?=some x)(hv:Vis X.env.scope x)(hd:(x==("__debug__":Str))=false)(r9:(x==("__classdict__":Str))=false):PX X (.Name x pos) (js i):=PX.imp (xq hN hv hd r9) fun σ H Q h=>by
 obtain⟨δ,T,r,δ',E,e,k⟩:=h;unfold js at e
 cases hi:δ[i]? with
 |none=>rw[hi] at e;cases e
 |some o=>
  cases o with
  |none=>rw[hi] at e;cases e
  |some p=>
   obtain⟨d,b⟩:=p;rw[hi] at e;cases e;obtain⟨E1,v,h1,h2⟩:=E.freeze hi;exact⟨v,h1,k v H (Post.val .set E1 h2)⟩
end
inductive Opd where
 |val(r:D×Bool)|slot(i:Nat)
noncomputable def res(δ:Dn):Opd->Option D
 | .val r=>some r.1
 | .slot i=>match δ[i]? with
  |some (some (d,_))=>some d
  |_=>none
def iW(K:gQ)(H:Hp)(O:AP')(d:D)(v:V):Prop:=Rep K H O d v\/ ∃a,v= .ref a/\OwnOk K H O d a
abbrev FO:=Dn->Option (Opd×Dn)
def PostO(K:gQ)(T:AP')(σ:L2.St)(δ:Dn)(H:Hp)(o:Opd)(δ':Dn)(v:V)(H':Hp):Prop:=
 match o with
 | .val r=>Post K T σ δ H r δ' v H'
 | .slot i=>Keep σ δ H δ' H'/\ER K H' T σ δ'/\σ[i]?=some (some v)
noncomputable def vO(T:AP')(o:Opd)(v:V):AP':=match o with
 | .val r=>Tmp T r v
 | .slot _=>T
def tO(K:gQ)(f:FO):TE:=fun σ H Q=> ∃δ T o δ',ER K H T σ δ/\f δ=some (o,δ')/\ ∀v H',PostO K T σ δ H o δ' v H'->Q v H'
def PO(X:Cx)(e:gx)(f:FO):Prop:=PE X e (tO X.K f)
noncomputable def gq(f:F):FO:=fun δ=>(f δ).bind fun p=>some (.val p.1,p.2)
noncomputable def gn(i:Nat):FO:=fun δ=>match δ[i]? with
 |some (some _)=>some (.slot i,δ)
 |_=>none
theorem PE.imp'(h:PE X e t)(k: ∀σ H Q,t' σ H Q->t σ H Q):PE X e t':=fun pins s σ H Q I hw=>h pins s σ H Q I (k σ H Q hw)
section
variable {X:Cx}{pos:Pos}
theorem PX.po(h:PX X e f):PO X e (gq f):=PE.imp' h fun σ H Q hw=>by
 obtain⟨δ,T,o,δ',E,e,k⟩:=hw;unfold gq at e
 cases h1:f δ with
 |none=>rw[h1] at e;cases e
 |some p=>
  obtain⟨r,δ1⟩:=p;rw[h1] at e;obtain⟨rfl,rfl⟩:=gJ e;exact⟨δ,T,r,δ1,E,h1,fun v H' P=>k v H' P⟩
theorem OD{i:Nat}{x:Str}(hN:X.N[i]?=some x)(hv:Vis X.env.scope x)(hd:(x==("__debug__":Str))=false)(r9:(x==("__classdict__":Str))=false):PO X (.Name x pos) (gn i):=PE.imp' (xq hN hv hd r9) fun σ H Q h=>by
 obtain⟨δ,T,o,δ',E,e,k⟩:=h;unfold gn at e
 cases hi:δ[i]? with
 |none=>rw[hi] at e;cases e
 |some q=>
  cases q with
  |none=>rw[hi] at e;cases e
  |some p=>
   obtain⟨d,b⟩:=p;rw[hi] at e;obtain⟨rfl,rfl⟩:=gJ e;obtain⟨E1,v,h1,h2⟩:=E.freeze hi;exact⟨v,h1,k v H ⟨.refl,E,h1⟩⟩
end
structure Ops(K:gQ)(T:AP')(σ:L2.St)(δ:Dn)(H:Hp)(os:List Opd)(vs:List V)(δ':Dn)(H':Hp)(T':AP'):Prop where
 len:os.length=vs.length
 keep:Keep σ δ H δ' H'
 er:ER K H' T' σ δ'
 tt: ∀a,T a->T' a
 val: ∀(j:Nat) (d:D) (v:V),os[j]?=some (.val (d,false))->vs[j]?=some v->Rep K H' (fun a=>OwnA σ δ' a\/T a) d v
 tmp: ∀(j:Nat) (d:D) (v:V),os[j]?=some (.val (d,true))->vs[j]?=some v-> ∃p,v= .ref p/\T' p/\H p=none/\OwnOk K H' (fun a=>OwnA σ δ' a\/T a) d p
 slt: ∀(j i:Nat) (v:V),os[j]?=some (.slot i)->vs[j]?=some v->σ[i]?=some (some v)
section
variable {K:gQ}{T T':AP'}{σ:L2.St}{δ δ' δ2:Dn}{H H' H2:Hp}{os:List Opd}{vs:List V}{o:Opd}{v:V}
theorem Ops.nil(E:ER K H T σ δ):Ops K T σ δ H [] [] δ H T:=⟨rfl,.refl,E,fun _ z=>z,fun j d v h=>by simp at h,fun j d v h=>by simp at h,fun j i v h=>by simp at h⟩
theorem PostO.keep(P:PostO K T σ δ H o δ' v H'):Keep σ δ H δ' H':=by
 cases o with
 |val r=>exact P.1
 |slot i=>exact P.1
theorem PostO.er(E:ER K H T σ δ)(P:PostO K T σ δ H o δ' v H'):ER K H' (vO T o v) σ δ':=by
 cases o with
 |val r=>exact Post.er E P
 |slot i=>exact P.2.1
end
def Gen(K:gQ)(H:Hp)(O:AP')(z:D×Bool)(Q:VK):Prop:=
 match z with
 |(d,false)=> ∀w H',(∀a o,H a=some o->H' a=some o)->Rep K H' O d w->Q w H'
 |(d,true)=> ∀p H',H p=none->(∀a o,H a=some o->H' a=some o)->OwnOk K H' (fun a=>O a\/a=p) d p->Q (.ref p) H'
section
variable {K:gQ}{T T':AP'}{σ:L2.St}{δ δ1 δ' δ2:Dn}{H H1 H' H2:Hp}{os:List Opd}{vs:List V}{o:Opd}{v:V}{z:D×Bool}{Q:VK}
theorem Ops.cons(E:ER K H T σ δ)(P:PostO K T σ δ H o δ1 v H1)(B:Ops K (vO T o v) σ δ1 H1 os vs δ2 H2 T'):Ops K T σ δ H (o::os) (v::vs) δ2 H2 T':=by
 have E1:=P.er E;have p1:=B.keep.kp;have p2:=B.keep.ow
 have eS: ∀a,T a->vO T o v a:=fun a z=>by
  cases o with
  |val r=>exact .inl z
  |slot i=>exact z
 refine⟨by simp[B.len],P.keep.trans B.keep,B.er,fun a z=>B.tt a (eS a z),fun j d w h1 h2=>?_,fun j d w h1 h2=>?_,fun j i w h1 h2=>?_⟩
 ·cases j with
  |zero=>
   simp at h1 h2;subst h1;subst h2;have P':Post K T σ δ H (d,false) δ1 v H1:=P;exact Rep.mono (fun b ob e n=>p1 b ob e fun z=>n (.inl z)) (fun b _ z=>z.elim (fun z=>Or.inl (p2 b z)) Or.inr) (P'.rep E).2
  |succ j=>exact Rep.mono (fun _ _ e _=>e) (fun b _ z=>z.elim Or.inl fun z=>Or.inr (eS b z)) (B.val j d w (by simpa using h1) (by simpa using h2))
 ·cases j with
  |zero=>
   simp at h1 h2;subst h1;subst h2;have P':Post K T σ δ H (d,true) δ1 v H1:=P;obtain⟨p,rfl,hp,E3,ok⟩:=P'.2;have tp:vO T (.val (d,true)) (V.ref p) p:= .inr ⟨rfl,rfl⟩;refine⟨p,rfl,B.tt p tp,hp,ok.mono (fun b ob e n=>p1 b ob e fun z=>n (.inl z)) (fun b _ z=>z.elim (fun z=>Or.inl (p2 b z)) fun z=>Or.inr (Or.inl z)) fun ob e=>p1 p ob e fun z=>E1.nT p z tp⟩
  |succ j=>
   obtain⟨p,rfl,tp,hp,ok⟩:=B.tmp j d w (by simpa using h1) (by simpa using h2);refine⟨p,rfl,tp,?_,ok.mono (fun _ _ e _=>e) (fun b _ z=>z.elim Or.inl fun z=>Or.inr (eS b z)) fun _ e=>e⟩
   cases hH:H p with
   |none=>rfl
   |some ob=>exact absurd hp (P.keep.dm p (by rw[hH];simp))
 ·cases j with
  |zero=>
   simp at h1 h2;subst h1;subst h2;exact P.2.2
  |succ j=>exact B.slt j i w (by simpa using h1) (by simpa using h2)
theorem Ops.view(B:Ops K T σ δ H os vs δ' H' T'){j:Nat}{d:D}(h1:os[j]?=some o)(h2:vs[j]?=some v)(hr:res δ' o=some d):iW K H' (fun a=>OwnA σ δ' a\/T a) d v:=by
 cases o with
 |val r=>
  obtain⟨e,b⟩:=r;have hd:e=d:=iC hr;subst hd
  cases b with
  |false=>exact .inl (B.val j e v h1 h2)
  |true=>
   obtain⟨p,rfl,_,_,ok⟩:=B.tmp j e v h1 h2;exact .inr ⟨p,rfl,ok⟩
 |slot i=>
  have hs:=B.slt j i v h1 h2;unfold res at hr;dsimp only at hr
  cases hi:δ'[i]? with
  |none=>rw[hi] at hr;cases hr
  |some q=>
   cases q with
   |none=>rw[hi] at hr;cases hr
   |some p=>
    obtain⟨e,b⟩:=p;rw[hi] at hr;have hd:e=d:=iC hr;subst hd
    cases b with
    |false=>
     obtain⟨w,h3,h4⟩:=B.er.val i e hi;rw[hs] at h3;cases h3;exact .inl (Rep.mono (fun _ _ e _=>e) (fun b _ z=>z.elim Or.inl fun z=>Or.inr (B.tt b z)) h4)
    |true=>
     obtain⟨a,h3,h4⟩:=B.er.own i e hi;rw[hs] at h3;cases h3;exact .inr ⟨a,rfl,h4.mono (fun _ _ e _=>e) (fun b _ z=>z.elim Or.inl fun z=>Or.inr (B.tt b z)) fun _ e=>e⟩
theorem Ops.done(B:Ops K T σ δ H os vs δ' H' T')(k: ∀v H2,Post K T σ δ H z δ' v H2->Q v H2):Gen K H' (fun a=>OwnA σ δ' a\/T a) z Q:=by
 obtain⟨d,b⟩:=z;have dom: ∀{H2:Hp},(∀a o,H' a=some o->H2 a=some o)-> ∀a,T a->Ow (H2 a):=fun {H2} hx a z=>(B.er.dom a (B.tt a z)).up (hx a)
 cases b with
 |false=>
  intro w H2 hx r;exact k w H2 ⟨B.keep.trans (.ext hx),B.er.mono (fun b o e _=>hx b o e) (fun b _ z=>B.tt b z) (dom hx),r⟩
 |true=>
  intro p H2 hp hx ok
  have hp0:H p=none:=by
   cases hH:H p with
   |none=>rfl
   |some ob=>exact absurd hp (B.keep.dm p (by rw[hH];simp))
  refine k (.ref p) H2 ⟨B.keep.trans (.ext hx),p,rfl,hp0,B.er.mono (fun b o e _=>hx b o e) (fun b hb z=>z.elim (B.tt b) fun z=>absurd (z▸hp) hb) (fun a z=>?_),ok.mono (fun _ _ e _=>e) (fun b _ z=>?_) fun _ e=>e⟩
  ·rcases z with z|z
   ·exact dom hx a z
   ·subst z;exact ok.ow
  ·rcases z with z|z|z
   ·exact Or.inl (Or.inl z)
   ·exact Or.inl (Or.inr z)
   ·exact Or.inr z
theorem Gen.int(g:Gen K H O (.int i,false) Q):Q (.int i) H:=g _ H (fun _ _ e=>e) Rep.mkInt
theorem Gen.bl(g:Gen K H O (.bl i,false) Q):Q (.bl i) H:=g _ H (fun _ _ e=>e) Rep.mkBl
theorem kM{H:Hp}{p:gm}{o:HO}(hp:H p=none): ∀a u,H a=some u->upd H p o a=some u:=fun a u e=>by rw[gR (by intro z;subst z;rw[e] at hp;cases hp)];exact e
theorem Gen.lst{O:AP'}{l:List D}{xs:List V}{p:gm}(g:Gen K H O (.lst l,true) Q)(hp:H p=none)(r:RepL K H O l xs):Q (.ref p) (upd H p (.lst xs)):=
 g p _ hp (kM hp) ⟨xs,gU,RepL.mono (fun b o e _=>kM hp b o e) (fun b hb z=>z.elim id fun z=>absurd (z▸hp) hb) r⟩
theorem Gen.tup(g:Gen K H O (.tup l,false) Q)(hp:H p=none)(np: ¬O p)(r:RepL K H O l xs):Q (.ref p) (upd H p (.tup xs)):=
 g _ _ (kM hp) (Rep.mkTup ⟨gU,np⟩ (RepL.mono (fun b o e _=>kM hp b o e) (fun b hb z=>z) r))
theorem Ops.np(B:Ops K T σ δ H os vs δ' H' T')(hp: ¬Ow (H' p)): ¬(OwnA σ δ' p\/T p):=fun z=>hp (z.elim (fun z=>B.er.ownOw z) fun z=>B.er.dom p (B.tt p z))
end
noncomputable def jQ(g:D->Option (D×Bool))(fa:FO):F:=fun δ=>(fa δ).bind fun p=>(res p.2 p.1).bind fun x=>(g x).bind fun z=>some (z,p.2)
noncomputable def gK(g:D->D->Option (D×Bool))(fa fb:FO):F:=fun δ=>(fa δ).bind fun p=>(fb p.2).bind fun q=>(res q.2 p.1).bind fun x=>(res q.2 q.1).bind fun y=>(g x y).bind fun z=>some (z,q.2)
noncomputable def ja:List FO->Dn->Option (List Opd×Dn)
 |[],δ=>some ([],δ)
 |f::fs,δ=>(f δ).bind fun p=>(ja fs p.2).bind fun q=>some (p.1::q.1,q.2)
noncomputable def tH(δ:Dn):List Opd->Option (List D)
 |[]=>some []
 |o::os=>(res δ o).bind fun d=>(tH δ os).bind fun l=>some (d::l)
noncomputable def ig(g:List D->Option (D×Bool))(fs:List FO):F:=fun δ=>(ja fs δ).bind fun p=>(tH p.2 p.1).bind fun ds=>(g ds).bind fun z=>some (z,p.2)
def tA(K:gQ)(fs:List FO):TA:=fun σ H Q=> ∃δ T os δ',ER K H T σ δ/\ja fs δ=some (os,δ')/\ ∀vs H' T',Ops K T σ δ H os vs δ' H' T'->Q vs H'
section
variable {X:Cx}{e a b:gx}{es:jf}{fa fb:FO}{fs:List FO}{pos:Pos}
theorem gk{α β:Type}{x:Option α}{f:α->Option β}{b:β}(h:x.bind f=some b): ∃a,x=some a/\f a=some b:=by
 cases x with
 |none=>cases h
 |some a=>exact⟨a,rfl,h⟩
def T5(K:gQ)(r:V->Hp->VK->Prop)(g:D->Option (D×Bool)):Prop:=
 ∀x z v H (O:AP') (Q:VK),(∀p,¬Ow (H p)-> ¬O p)->iW K H O x v->g x=some z->Gen K H O z Q->r v H Q
def P4(K:gQ)(r:R2)(g:D->D->Option (D×Bool)):Prop:=
 ∀x y z v u H (O:AP') (Q:VK),(∀p,¬Ow (H p)-> ¬O p)->iW K H O x v->iW K H O y u->g x y=some z->Gen K H O z Q->r v u H Q
def T4(K:gQ)(r:List V->Hp->VK->Prop)(g:List D->Option (D×Bool)):Prop:=
 ∀ds z vs H (O:AP') (Q:VK),(∀p,¬Ow (H p)-> ¬O p)->ds.length=vs.length->(∀(j:Nat) d v,ds[j]?=some d->vs[j]?=some v->iW K H O d v)->g ds=some z->Gen K H O z Q->r vs H Q
theorem N9{r:V->Hp->VK->Prop}{g:D->Option (D×Bool)}(h:PE X e (tUn r (tO X.K fa)))(hr:T5 X.K r g):PX X e (jQ g fa):=PX.imp h fun σ H Q hw=>by
 obtain⟨δ,T,rr,δ',E,e,k⟩:=hw;obtain⟨⟨o,δ1⟩,h1,e⟩:=gk e;obtain⟨x,h2,e⟩:=gk e;obtain⟨z,h3,e⟩:=gk e;obtain⟨rfl,rfl⟩:=gJ e;refine⟨δ,T,o,δ1,E,h1,fun v H1 P1=>?_⟩;have B:=Ops.cons E P1 (Ops.nil (P1.er E));exact hr x z v H1 _ Q (fun p hp=>B.np hp) (B.view (j:=0) rfl rfl h2) h3 (B.done k)
theorem N8{r:R2}{g:D->D->Option (D×Bool)}(h:PE X e (tOp r (tO X.K fa) (tO X.K fb)))(hr:P4 X.K r g):PX X e (gK g fa fb):=PX.imp h fun σ H Q hw=>by
 obtain⟨δ,T,rr,δ',E,e,k⟩:=hw;obtain⟨⟨o,δ1⟩,h1,e⟩:=gk e;obtain⟨⟨o2,δ2⟩,h2,e⟩:=gk e;obtain⟨x,h3,e⟩:=gk e;obtain⟨y,h4,e⟩:=gk e;obtain⟨z,h5,e⟩:=gk e;obtain⟨rfl,rfl⟩:=gJ e;refine⟨δ,T,o,δ1,E,h1,fun v H1 P1=>⟨δ1,vO T o v,o2,δ2,P1.er E,h2,fun u H2 P2=>?_⟩⟩;have B:=Ops.cons E P1 (Ops.cons (P1.er E) P2 (Ops.nil (P2.er (P1.er E))));exact hr x y z v u H2 _ Q (fun p hp=>B.np hp) (B.view (j:=0) rfl rfl h3) (B.view (j:=1) rfl rfl h4) h5 (B.done k)
theorem FL:PA X [] (tA X.K []):=fun pos pins s σ H Q I h=>by
 obtain⟨δ,T,os,δ',E,e,k⟩:=h;obtain⟨rfl,rfl⟩:=gJ e;exact nW pos pins s σ H Q I (k [] H T (Ops.nil E))
theorem BZ(ha:PO X e fa)(hr:PA X es (tA X.K fs))(hs:starEach (e::es) X.env=(false,eval e X.env)::starEach es X.env):PA X (e::es) (tA X.K (fa::fs)):=fun pos pins s σ H Q I h=>by
 obtain⟨δ,T,os,δ',E,e,k⟩:=h;unfold ja at e;obtain⟨⟨o,δ1⟩,h1,e⟩:=gk e;obtain⟨⟨os2,δ2⟩,h2,e⟩:=gk e;obtain⟨rfl,rfl⟩:=gJ e;exact kN ha hr hs pos pins s σ H Q I ⟨δ,T,o,δ1,E,h1,fun v H1 P1=>⟨δ1,vO T o v,os2,δ2,P1.er E,h2,fun vs H2 T2 B=>k _ H2 T2 (Ops.cons E P1 B)⟩⟩
theorem mU{δ:Dn}: ∀{os:List Opd} {ds:List D},tH δ os=some ds->ds.length=os.length/\ ∀(j:Nat) d,ds[j]?=some d-> ∃o,os[j]?=some o/\res δ o=some d
 |[],ds,h=>by cases h;exact⟨rfl,fun j d h=>by simp at h⟩
 |o::os,ds,h=>by
  unfold tH at h;obtain⟨d,h1,h⟩:=gk h;obtain⟨l,h2,h⟩:=gk h;cases h;obtain⟨h3,h4⟩:=mU h2;refine⟨by simp[h3],fun j e he=>?_⟩
  cases j with
  |zero=>simp at he;subst he;exact⟨o,rfl,h1⟩
  |succ j=>
   obtain⟨o',q1,q2⟩:=h4 j e (by simpa using he);exact⟨o',by simpa using q1,q2⟩
theorem LO{r:List V->Hp->VK->Prop}{g:List D->Option (D×Bool)}(h:PE X e (tCB r (tA X.K fs)))(hr:T4 X.K r g):PX X e (ig g fs):=PX.imp h fun σ H Q hw=>by
 obtain⟨δ,T,rr,δ',E,e,k⟩:=hw;obtain⟨⟨os,δ1⟩,h1,e⟩:=gk e;obtain⟨ds,h2,e⟩:=gk e;obtain⟨z,h3,e⟩:=gk e;obtain⟨rfl,rfl⟩:=gJ e;obtain⟨h4,h5⟩:=mU h2;refine⟨δ,T,os,δ1,E,h1,fun vs H1 T1 B=>?_⟩;refine hr ds z vs H1 _ Q (fun p hp=>B.np hp) (h4.trans B.len) (fun j d v hd hv=>?_) h3 (B.done k);obtain⟨o,ho,cu⟩:=h5 j d hd;exact B.view ho hv cu
end
open PySem.SeqAt
mutual
/-- ==of data -/
noncomputable def D.eqb:D->D->Bool
 | .non,.non=>true
 | .bl a,.bl b=>a==b
 | .bl a,.int b=>(if a then 1 else 0)==b
 | .int a,.bl b=>a==(if b then 1 else 0)
 | .int a,.int b=>a==b
 | .str a,.str b=>a==b
 | .tup l,.tup m=>D.eqbL l m
 | .lst l,.lst m=>D.eqbL l m
 | .oth _ _ _,.oth _ _ _=>true
 |_,_=>false
noncomputable def D.eqbL:List D->List D->Bool
 |[],[]=>true
 |a::l,b::m=>D.eqb a b&&D.eqbL l m
 |_,_=>false
end
mutual
noncomputable def D.dep:D->Nat
 | .tup l=>D.depL l+1
 | .lst l=>D.depL l+1
 | .oth _ _ _=>20000
 |_=>0
noncomputable def D.depL:List D->Nat
 |[]=>0
 |d::l=>max (D.dep d) (D.depL l)
end
mutual
theorem D.eqb_refl: ∀d:D,D.eqb d d=true
 | .non=>rfl
 | .bl a=>by simp[D.eqb]
 | .int a=>by simp[D.eqb]
 | .str a=>by simp[D.eqb]
 | .tup l=>by rw[D.eqb];exact D.eqbL_refl l
 | .lst l=>by rw[D.eqb];exact D.eqbL_refl l
 | .oth _ _ _=>by rw[D.eqb]
theorem D.eqbL_refl: ∀l:List D,D.eqbL l l=true
 |[]=>rfl
 |d::l=>by rw[D.eqbL,D.eqb_refl d,D.eqbL_refl l];rfl
end
theorem D.dep_mem{d:D}: ∀{l:List D} {j:Nat},l[j]?=some d->d.dep<=D.depL l
 |[],j,h=>by simp at h
 |e::l,0,h=>by simp at h;subst h;rw[D.depL];exact Nat.le_max_left _ _
 |e::l,j+1,h=>by rw[D.depL];exact ll (D.dep_mem (by simpa using h)) (Nat.le_max_right _ _)
noncomputable def qg(l m:List D)(j:Nat):Bool:=match l[j]?,m[j]? with
 |some d,some e=>D.eqb d e
 |_,_=>true
theorem lR: ∀l m:List D,((List.range (min l.length m.length)).all (qg l m)&&l.length==m.length)=D.eqbL l m
 |[],[]=>rfl
 |[],e::m=>by simp[D.eqbL]
 |d::l,[]=>by simp[D.eqbL]
 |d::l,e::m=>by
  rw[D.eqbL,<-lR l m];simp only[jq,Nat.succ_min_succ,List.range_succ_eq_map,List.all_cons,List.all_map,Function.comp_def];have h0:qg (d::l) (e::m) 0=D.eqb d e:=rfl;have h1:(fun x=>qg (d::l) (e::m) (Nat.succ x))=qg l m:=by funext x;simp[qg]
  rw[h0];simp only[h1,Bool.and_assoc]
  congr 2
  simp
section
variable {X:Cx}{pins:gZ}{σ:L2.St}{H:Hp}{s:gu}
theorem kG(h:iW X.K H O (.tup l) v): ∃a xs,v= .ref a/\SqT X.K H a xs/\RepL X.K H O l xs:=by
 rcases h with h|⟨a,rfl,h⟩
 ·obtain⟨a,xs,e,q,r⟩:=h.tup;exact⟨a,xs,e,q.sq,r⟩
 ·exact h.elim
theorem jN(h:iW X.K H O (.lst l) v): ∃a xs,v= .ref a/\SqL X.K H a xs/\RepL X.K H O l xs:=by
 rcases h with h|⟨a,rfl,h⟩
 ·obtain⟨a,xs,e,q,r⟩:=h.lst;exact⟨a,xs,e,q.sq,r⟩
 ·obtain⟨xs,e,r⟩:=h;exact⟨a,xs,rfl,.inl (.inl e),r⟩
theorem RepL.views{O:AP'}{l:List D}{xs:List V}(r:RepL X.K H O l xs){j:Nat}{d:D}{v:V}(h1:l[j]?=some d)(h2:xs[j]?=some v):Rep X.K H O d v:=by
 obtain⟨w,h3,h4⟩:=r.get h1;rw[h2] at h3;cases h3;exact h4
theorem JM(I:Inv X pins σ H s)(h:OthB X.K (H a) k ks vs us): ∃o,s.heap.get? a=some o/\(o.cls= .type "dict"\/o.cls= .type "set"\/ ∃C,o.cls= .ref C):=by
 cases k with
 |dct=>
  rcases h with⟨i3,e,_⟩|⟨i3,e,_⟩
  ·obtain⟨_,_,vs,_,o,es,ep,h1,h2,_⟩:=(show ObjOk X.prog X.w H s.heap a (.dK i3) from I.hok a _ e)
   exact⟨o,h1,.inl h2.1⟩
  ·obtain⟨_,_,xs,_,o,es,ep,h1,h2,_⟩:=(show ObjOk X.prog X.w H s.heap a (.dT i3) from I.hok a _ e)
   exact⟨o,h1,.inl h2.1⟩
 |set=>
  obtain⟨_,zs,e,_⟩:=h;obtain⟨es,n,t,h1,_⟩:=(show ObjOk X.prog X.w H s.heap a (.stt zs) from I.hok a _ e)
  exact⟨_,h1,.inr (.inl rfl)⟩
 |exc C=>
  obtain⟨_,o,e,h1,_⟩:=h;obtain⟨e1,_⟩:=(show ObjOk X.prog X.w H s.heap a (.frz o (.own 0)) from I.hok a _ e)
  exact⟨o,e1,.inr (.inr ⟨C,h1⟩)⟩
 |_=>exact h.elim
theorem Bz(I:Inv X pins σ H s)(h1:SqT X.K H a xs)(h2:SqL X.K H a ys):False:=by
 obtain⟨b6,_,⟨o,e,c,_⟩,_⟩:=I.tuple h1;obtain⟨g0,_,⟨o2,n2,e2,c2,_⟩,_⟩:=I.list h2;rw[e] at e2;cases e2;rw[c] at c2;exact absurd c2 (by simp)
theorem Mf(I:Inv X pins σ H s)(h1:SqT X.K H a xs)(h2:OthB X.K (H a) k ks vs us):False:=by
 obtain⟨b6,_,⟨o,e,c,_⟩,_⟩:=I.tuple h1;obtain⟨o2,e2,c2⟩:=JM I h2;rw[e] at e2;cases e2;rw[c] at c2;rcases c2 with c2|c2|⟨C,c2⟩<;>exact absurd c2 (by simp)
theorem Mg(I:Inv X pins σ H s)(h1:SqL X.K H a xs)(h2:OthB X.K (H a) k ks vs us):False:=by
 obtain⟨b6,_,⟨o,n,e,c,_⟩,_⟩:=I.list h1;obtain⟨o2,e2,c2⟩:=JM I h2;rw[e] at e2;cases e2;rw[c] at c2;rcases c2 with c2|c2|⟨C,c2⟩<;>exact absurd c2 (by simp)
mutual
theorem Rep.inj(I:Inv X pins σ H s): ∀{d e:D} {v:V},d.dep<20000->Rep X.K H O d v->Rep X.K H O' e v->d=e
 | .non,e,v,hz,h,h'=>by
  have:=h.non;subst this
  cases e with
  |non=>rfl
  |bl b=>have:=h'.bl;cases this
  |int b=>have:=h'.int;cases this
  |str b=>have:=h'.str;cases this
  |tup m=>obtain⟨a,xs,z,_⟩:=h'.tup;cases z
  |lst m=>obtain⟨a,xs,z,_⟩:=h'.lst;cases z
  |oth m m1 m2=>obtain⟨a,xs,z,_⟩:=h'.oth;cases z
 | .bl b,e,v,hz,h,h'=>by
  have:=h.bl;subst this
  cases e with
  |non=>have:=h'.non;cases this
  |bl b=>have:=h'.bl;cases this;rfl
  |int b=>have:=h'.int;cases this
  |str b=>have:=h'.str;cases this
  |tup m=>obtain⟨a,xs,z,_⟩:=h'.tup;cases z
  |lst m=>obtain⟨a,xs,z,_⟩:=h'.lst;cases z
  |oth m m1 m2=>obtain⟨a,xs,z,_⟩:=h'.oth;cases z
 | .int b,e,v,hz,h,h'=>by
  have:=h.int;subst this
  cases e with
  |non=>have:=h'.non;cases this
  |bl b=>have:=h'.bl;cases this
  |int b=>have:=h'.int;cases this;rfl
  |str b=>have:=h'.str;cases this
  |tup m=>obtain⟨a,xs,z,_⟩:=h'.tup;cases z
  |lst m=>obtain⟨a,xs,z,_⟩:=h'.lst;cases z
  |oth m m1 m2=>obtain⟨a,xs,z,_⟩:=h'.oth;cases z
 | .str b,e,v,hz,h,h'=>by
  have:=h.str;subst this
  cases e with
  |non=>have:=h'.non;cases this
  |bl b=>have:=h'.bl;cases this
  |int b=>have:=h'.int;cases this
  |str b=>have:=h'.str;cases this;rfl
  |tup m=>obtain⟨a,xs,z,_⟩:=h'.tup;cases z
  |lst m=>obtain⟨a,xs,z,_⟩:=h'.lst;cases z
  |oth m m1 m2=>obtain⟨a,xs,z,_⟩:=h'.oth;cases z
 | .tup l,e,v,hz,h,h'=>by
  rw[D.dep] at hz;obtain⟨a,xs,rfl,q,r⟩:=h.tup
  cases e with
  |non=>have:=h'.non;cases this
  |bl b=>have:=h'.bl;cases this
  |int b=>have:=h'.int;cases this
  |str b=>have:=h'.str;cases this
  |tup m=>
   obtain⟨a2,eR,z,q2,r2⟩:=h'.tup;cases z;have:=I.tuple_inj q.sq q2.sq;subst this;rw[RepL.inj I (by omega) r r2]
  |lst m=>
   obtain⟨a2,eR,z,q2,r2⟩:=h'.lst;cases z;exact(Bz I q.sq q2.sq).elim
  |oth m m1 m2=>
   obtain⟨a2,us2,z,q2,r2⟩:=h'.oth;cases z;exact(Mf I q.sq q2.2).elim
 | .lst l,e,v,hz,h,h'=>by
  rw[D.dep] at hz;obtain⟨a,xs,rfl,q,r⟩:=h.lst
  cases e with
  |non=>have:=h'.non;cases this
  |bl b=>have:=h'.bl;cases this
  |int b=>have:=h'.int;cases this
  |str b=>have:=h'.str;cases this
  |tup m=>
   obtain⟨a2,eR,z,q2,r2⟩:=h'.tup;cases z;exact(Bz I q2.sq q.sq).elim
  |lst m=>
   obtain⟨a2,eR,z,q2,r2⟩:=h'.lst;cases z;have:=I.list_inj q.sq q2.sq;subst this;rw[RepL.inj I (by omega) r r2]
  |oth m m1 m2=>
   obtain⟨a2,us2,z,q2,r2⟩:=h'.oth;cases z;exact(Mg I q.sq q2.2).elim
 | .oth _ _ _,e,v,hz,h,h'=>by rw[D.dep] at hz;omega
theorem RepL.inj(I:Inv X pins σ H s){O O':AP'}: ∀{l m:List D} {vs:List V},D.depL l<20000->RepL X.K H O l vs->RepL X.K H O' m vs->l=m
 |[],m,vs,_,h,h'=>by
  rw[RepL] at h;subst h
  cases m with
  |nil=>rfl
  |cons e m=>rw[RepL] at h';obtain⟨_,_,z,_⟩:=h';cases z
 |d::l,m,vs,hz,h,h'=>by
  rw[D.depL] at hz;rw[RepL] at h;obtain⟨v,r,rfl,h1,h2⟩:=h
  cases m with
  |nil=>rw[RepL] at h';cases h'
  |cons e m=>
   rw[RepL] at h';obtain⟨v',r',z,h3,h4⟩:=h';cases z;rw[Rep.inj I (by omega) h1 h3,RepL.inj I (by omega) h2 h4]
end
theorem tX(h:iW X.K H O d v)(hd:d.dep=0)(nt: ∀l,d≠ .tup l)(nl: ∀l,d≠ .lst l):Rep X.K H O d v:=by
 rcases h with h|⟨a,rfl,h⟩
 ·exact h
 ·cases d with
  |lst l=>exact absurd rfl (nl l)
  |oth _ _ _=>rw[D.dep] at hd;omega
  |_=>exact h.elim
inductive Sh(X:Cx)(H:Hp)(s:gu)(O:AP'):D->V->Value->Prop
 |non:Sh X H s O .non .non .none
 |bl (b:Bool):Sh X H s O (.bl b) (.bl b) (.bool b)
 |int (i:Int) (t:Tok):Sh X H s O (.int i) (.int i) (.int i t)
 |str (x:Str) (t:Tok):Sh X H s O (.str x) (.str x) (.str x t)
 |tup {l:List D} {p:gm} {xs:List V} {b6:ir} (q:SqT X.K H p xs) (r:RepL X.K H O l xs) (v:Vals xs b6) (pl:IsTup s.heap p b6.toArray):Sh X H s O (.tup l) (.ref p) (.ref p)
 |lst {l:List D} {p:gm} {xs:List V} {b6:ir} (q:SqL X.K H p xs) (r:RepL X.K H O l xs) (v:Vals xs b6) (pl:s.heap.IsList p b6.toArray):Sh X H s O (.lst l) (.ref p) (.ref p)
theorem qo(I:Inv X pins σ H s)(h:iW X.K H O d v)(ra:RelV v a)(hn:d.dep<20000):Sh X H s O d v a:=by
 cases d with
 |oth m m1 m2=>rw[D.dep] at hn;omega
 |tup l=>obtain⟨p,xs,rfl,q,r⟩:=kG h;cases ra;obtain⟨b6,v1,pl,_⟩:=I.tuple q;exact .tup q r v1 pl
 |lst l=>obtain⟨p,xs,rfl,q,r⟩:=jN h;cases ra;obtain⟨b6,v1,pl,_⟩:=I.list q;exact .lst q r v1 pl.isList
 |non=>have:=(tX h rfl (by simp) (by simp)).non;subst this;cases ra;exact .non
 |bl c=>have:=(tX h rfl (by simp) (by simp)).bl;subst this;cases ra;exact .bl c
 |int c=>have:=(tX h rfl (by simp) (by simp)).int;subst this;obtain⟨t,rfl⟩:=ra;exact .int c t
 |str c=>have:=(tX h rfl (by simp) (by simp)).str;subst this;obtain⟨t,rfl⟩:=ra;exact .str c t
theorem zG(I:Inv X pins σ H s)(n:Nat)
  (ih: ∀(d e:D) (v u:V) (a b:gy) (O O':AP') (A:gG),iW X.K H O d v->iW X.K H O' e u->RelV v a->RelV u b->d.dep+1<=n->e.dep<20000->A.units+n<cLine+1->EqAt A s a b (D.eqb d e)):
  ∀(d e:D) (v u:V) (a b:gy) (O O':AP') (A:gG),iW X.K H O d v->iW X.K H O' e u->RelV v a->RelV u b->d.dep<=n->e.dep<20000->A.units+n<cLine->EqAt A s a b (D.eqb d e):=by
 intro d e v u a b O O' A hd he ra rb hn v7 hA;have hu:A.units<cLine:=by omega
 have af:cLine=9900:=rfl
 have items: ∀(l m:List D) (xs ys:List V) (b6 g0:ir) (O1 O2:AP'),D.depL l+1<=n->D.depL m<20000->RepL X.K H O1 l xs->RepL X.K H O2 m ys->Vals xs b6->Vals ys g0->
   ∀j (h1:j<b6.toArray.size) (h2:j<g0.toArray.size),EqAt A.in1 s b6.toArray[j] g0.toArray[j] (qg l m j):=fun l m xs ys b6 g0 O1 O2 hl hm r1 r2 v1 v2 j h1 h2=>by
  have e1:=v1.length;have e2:=v2.length;have e3:=r1.length;have e4:=r2.length;simp only[jc] at h1 h2;have hx:xs[j]?=some xs[j]:=iM (by omega);have hy:ys[j]?=some ys[j]:=iM (by omega);have cH:l[j]?=some l[j]:=iM (by omega);have aP:m[j]?=some m[j]:=iM (by omega);obtain⟨w,w1,w2⟩:=v1.get hx;obtain⟨w',w3,w4⟩:=v2.get hy
  have i1:b6.toArray[j]=w:=by
   have:b6[j]?=some b6[j]:=iM (by omega);rw[this] at w1;simpa using w1
  have i2:g0.toArray[j]=w':=by
   have:g0[j]?=some g0[j]:=iM (by omega);rw[this] at w3;simpa using w3
  rw[i1,i2];have hj:qg l m j=D.eqb l[j] m[j]:=by unfold qg;rw[cH,aP]
  rw[hj];have aH:=D.dep_mem cH;have hdep2:=D.dep_mem aP;exact ih _ _ _ _ _ _ O1 O2 A.in1 (.inl (r1.views cH hx)) (.inl (r2.views aP hy)) w2 w4 (by omega) (by omega) (by show A.units+1+n<cLine+1;omega)
 have h1:=qo I hd ra (by omega);have h2:=qo I he rb v7
 cases h1 with
 |non=>
  cases h2 with
  |non=>exact kD ra rb rfl rfl
  |bl c2=>exact kD ra rb rfl rfl
  |int c2 t2=>exact kD ra rb rfl rfl
  |str c2 t2=>exact kD ra rb rfl rfl
  |tup q2 r2 v2 i5=>exact EqAt.none_tuple i5 hu
  |lst q2 r2 v2 i5=>exact EqAt.none_list i5 hu
 |bl c1=>
  cases h2 with
  |non=>exact kD ra rb rfl rfl
  |bl c2=>exact kD ra rb rfl rfl
  |int c2 t2=>exact kD ra rb rfl rfl
  |str c2 t2=>exact kD ra rb rfl rfl
  |tup q2 r2 v2 i5=>exact EqAt.bool_tuple c1 i5 hu
  |lst q2 r2 v2 i5=>exact EqAt.bool_list c1 i5 hu
 |int c1 t1=>
  cases h2 with
  |non=>exact kD ra rb rfl rfl
  |bl c2=>exact kD ra rb rfl rfl
  |int c2 t2=>exact kD ra rb rfl rfl
  |str c2 t2=>exact kD ra rb rfl rfl
  |tup q2 r2 v2 i5=>exact EqAt.int_tuple c1 t1 i5 hu
  |lst q2 r2 v2 i5=>exact EqAt.int_list c1 t1 i5 hu
 |str c1 t1=>
  cases h2 with
  |non=>exact kD ra rb rfl rfl
  |bl c2=>exact kD ra rb rfl rfl
  |int c2 t2=>exact kD ra rb rfl rfl
  |str c2 t2=>exact kD ra rb rfl rfl
  |tup q2 r2 v2 i5=>exact EqAt.str_tuple c1 t1 i5 hu
  |lst q2 r2 v2 i5=>exact EqAt.str_list c1 t1 i5 hu
 | @tup l p xs b6 q r v1 pl=>
  cases h2 with
  |non=>exact EqAt.tuple_none pl hu
  |bl c2=>exact EqAt.tuple_bool c2 pl hu
  |int c2 t2=>exact EqAt.tuple_int c2 t2 pl hu
  |str c2 t2=>exact EqAt.tuple_str c2 t2 pl hu
  | @tup m p2 ys g0 q2 r2 v2 i5=>
   by_cases hp:p=p2
   ·subst hp;have:=I.tuple_inj q q2;subst this;rw[RepL.inj I (by rw[D.dep] at hn;omega) r r2,D.eqb_refl];exact EqAt.same _
   ·refine .of_refs hp ?_;have hl:D.depL l+1<=n:=by rw[D.dep] at hn;exact hn
    have hm:D.depL m<20000:=by rw[D.dep] at v7;omega
    have z:=RcAt.tuples pl i5 hu (items l m xs ys b6 g0 _ _ hl hm r r2 v1 v2);have e1:=v1.length;have e2:=v2.length;have e3:=r.length;have e4:=r2.length;simp only[jc] at z;rw[show b6.length=l.length by omega,show g0.length=m.length by omega,lR] at z;rw[D.eqb];exact z
  |lst q2 r2 v2 i5=>exact EqAt.tuple_list pl i5 hu
 | @lst l p xs b6 q r v1 pl=>
  cases h2 with
  |non=>exact EqAt.list_none pl hu
  |bl c2=>exact EqAt.list_bool c2 pl hu
  |int c2 t2=>exact EqAt.list_int c2 t2 pl hu
  |str c2 t2=>exact EqAt.list_str c2 t2 pl hu
  |tup q2 r2 v2 i5=>exact EqAt.list_tuple pl i5 hu
  | @lst m p2 ys g0 q2 r2 v2 i5=>
   by_cases hp:p=p2
   ·subst hp;have:=I.list_inj q q2;subst this;rw[RepL.inj I (by rw[D.dep] at hn;omega) r r2,D.eqb_refl];exact EqAt.same _
   ·refine .of_refs hp ?_;have hl:D.depL l+1<=n:=by rw[D.dep] at hn;exact hn
    have hm:D.depL m<20000:=by rw[D.dep] at v7;omega
    have e1:=v1.length;have e2:=v2.length;have e3:=r.length;have e4:=r2.length;have al:=lR l m;by_cases hlen:l.length=m.length
    ·have z:=RcAt.lists pl i5 (by simp only[jc];omega) hu (items l m xs ys b6 g0 _ _ hl hm r r2 v1 v2);simp only[jc] at z;rw[show b6.length=min l.length m.length by omega] at z;rw[D.eqb,<-al,hlen];rw[hlen] at z;simpa using z
    ·have z:=RcAt.lists_lengths pl i5 (by simp only[jc,bne_iff_ne,ne_eq];omega) hu;rw[D.eqb,<-al];rw[show(l.length==m.length)=false by simpa using hlen];simpa using z
theorem yp(I:Inv X pins σ H s): ∀(n:Nat) (d e:D) (v u:V) (a b:gy) (O O':AP') (A:gG),iW X.K H O d v->iW X.K H O' e u->RelV v a->RelV u b->d.dep<=n->e.dep<20000->A.units+n<cLine->EqAt A s a b (D.eqb d e):=by
 intro n
 induction n with
 |zero=>
  intro d e v u a b O O' A hd he ra rb hn v7 hA;exact zG I 0 (fun d e v u a b O O' A hd he ra rb hn v7 hA=>absurd hn (by omega)) d e v u a b O O' A hd he ra rb hn v7 hA
 |succ n ih=>
  intro d e v u a b O O' A hd he ra rb hn v7 hA;exact zG I (n+1) (fun d e v u a b O O' A hd he ra rb hn v7 hA=>ih d e v u a b O O' A hd he ra rb (by omega) v7 (by omega)) d e v u a b O O' A hd he ra rb hn v7 hA
end
section
variable {X:Cx}{pins:gZ}{σ:L2.St}{H:Hp}{s:gu}
theorem Ct(I:Inv X pins σ H s){A:gG}{n:Nat}(hA:A.units+n<cLine): ∀(l m:List D) (xs ys:List V) (b6 g0:ir) (O1 O2:AP'),D.depL l+1<=n->D.depL m<20000->RepL X.K H O1 l xs->RepL X.K H O2 m ys->Vals xs b6->Vals ys g0->
   ∀j (h1:j<b6.toArray.size) (h2:j<g0.toArray.size),EqAt A.in1 s b6.toArray[j] g0.toArray[j] (qg l m j):=fun l m xs ys b6 g0 O1 O2 hl hm r1 r2 v1 v2 j h1 h2=>by
 have e1:=v1.length;have e2:=v2.length;have e3:=r1.length;have e4:=r2.length;simp only[jc] at h1 h2;have hx:xs[j]?=some xs[j]:=iM (by omega);have hy:ys[j]?=some ys[j]:=iM (by omega);have cH:l[j]?=some l[j]:=iM (by omega);have aP:m[j]?=some m[j]:=iM (by omega);obtain⟨w,w1,w2⟩:=v1.get hx;obtain⟨w',w3,w4⟩:=v2.get hy
 have i1:b6.toArray[j]=w:=by
  have:b6[j]?=some b6[j]:=iM (by omega);rw[this] at w1;simpa using w1
 have i2:g0.toArray[j]=w':=by
  have:g0[j]?=some g0[j]:=iM (by omega);rw[this] at w3;simpa using w3
 rw[i1,i2];have hj:qg l m j=D.eqb l[j] m[j]:=by unfold qg;rw[cH,aP]
 rw[hj];have aH:=D.dep_mem cH;have hdep2:=D.dep_mem aP;exact yp I (n-1) _ _ _ _ _ _ O1 O2 A.in1 (.inl (r1.views cH hx)) (.inl (r2.views aP hy)) w2 w4 (by omega) (by omega) (by show A.units+1+(n-1)<cLine;omega)
theorem NX(I:Inv X pins σ H s)(hd:iW X.K H O d v)(he:iW X.K H O' e u)(ra:RelV v a)(rb:RelV u b)(hn:d.dep<=n)(v7:e.dep<20000)(hA:A.units+n<cLine):RcAt A s a b (D.eqb d e):=by
 have hu:A.units<cLine:=by omega
 have items:=Ct I hA;have af:cLine=9900:=rfl;have h1:=qo I hd ra (by omega);have h2:=qo I he rb v7
 cases h1 with
 |non=>
  cases h2 with
  |non=>exact RcAt.none_none
  |bl c2=>exact RcAt.none_bool c2
  |int c2 t2=>exact RcAt.none_int c2 t2
  |str c2 t2=>exact RcAt.none_str c2 t2
  |tup q2 r2 v2 i5=>exact RcAt.none_tuple i5 hu
  |lst q2 r2 v2 i5=>exact RcAt.none_list i5 hu
 |bl c1=>
  cases h2 with
  |non=>exact RcAt.bool_none c1
  |bl c2=>exact RcAt.bool_bool c1 c2
  |int c2 t2=>exact RcAt.bool_int c1 c2 t2
  |str c2 t2=>exact RcAt.bool_str c1 c2 t2
  |tup q2 r2 v2 i5=>exact RcAt.bool_tuple c1 i5 hu
  |lst q2 r2 v2 i5=>exact RcAt.bool_list c1 i5 hu
 |int c1 t1=>
  cases h2 with
  |non=>exact RcAt.int_none c1 t1
  |bl c2=>exact RcAt.int_bool c1 t1 c2
  |int c2 t2=>exact RcAt.int_int c1 t1 c2 t2
  |str c2 t2=>exact RcAt.int_str c1 t1 c2 t2
  |tup q2 r2 v2 i5=>exact RcAt.int_tuple c1 t1 i5 hu
  |lst q2 r2 v2 i5=>exact RcAt.int_list c1 t1 i5 hu
 |str c1 t1=>
  cases h2 with
  |non=>exact RcAt.str_none c1 t1
  |bl c2=>exact RcAt.str_bool c1 t1 c2
  |int c2 t2=>exact RcAt.str_int c1 t1 c2 t2
  |str c2 t2=>exact RcAt.str_str c1 t1 c2 t2
  |tup q2 r2 v2 i5=>exact RcAt.str_tuple c1 t1 i5 hu
  |lst q2 r2 v2 i5=>exact RcAt.str_list c1 t1 i5 hu
 | @tup l p xs b6 q r v1 pl=>
  cases h2 with
  |non=>exact RcAt.tuple_none pl hu
  |bl c2=>exact RcAt.tuple_bool c2 pl hu
  |int c2 t2=>exact RcAt.tuple_int c2 t2 pl hu
  |str c2 t2=>exact RcAt.tuple_str c2 t2 pl hu
  | @tup m p2 ys g0 q2 r2 v2 i5=>
   have hl:D.depL l+1<=n:=by rw[D.dep] at hn;exact hn
   have hm:D.depL m<20000:=by rw[D.dep] at v7;omega
   have e1:=v1.length;have e2:=v2.length;have e3:=r.length;have e4:=r2.length;have z:=RcAt.tuples pl i5 hu (items l m xs ys b6 g0 _ _ hl hm r r2 v1 v2);simp only[jc] at z;rw[show b6.length=l.length by omega,show g0.length=m.length by omega,lR] at z;rw[D.eqb];exact z
  |lst q2 r2 v2 i5=>exact RcAt.tuple_list pl i5 hu
 | @lst l p xs b6 q r v1 pl=>
  cases h2 with
  |non=>exact RcAt.list_none pl hu
  |bl c2=>exact RcAt.list_bool c2 pl hu
  |int c2 t2=>exact RcAt.list_int c2 t2 pl hu
  |str c2 t2=>exact RcAt.list_str c2 t2 pl hu
  |tup q2 r2 v2 i5=>exact RcAt.list_tuple pl i5 hu
  | @lst m p2 ys g0 q2 r2 v2 i5=>
   have hl:D.depL l+1<=n:=by rw[D.dep] at hn;exact hn
   have hm:D.depL m<20000:=by rw[D.dep] at v7;omega
   have e1:=v1.length;have e2:=v2.length;have e3:=r.length;have e4:=r2.length;have al:=lR l m;by_cases hlen:l.length=m.length
   ·have z:=RcAt.lists pl i5 (by simp only[jc];omega) hu (items l m xs ys b6 g0 _ _ hl hm r r2 v1 v2);simp only[jc] at z;rw[show b6.length=min l.length m.length by omega] at z;rw[D.eqb,<-al,hlen];rw[hlen] at z;simpa using z
   ·have z:=RcAt.lists_lengths pl i5 (by simp only[jc,bne_iff_ne,ne_eq];omega) hu;rw[D.eqb,<-al];rw[show(l.length==m.length)=false by simpa using hlen];simpa using z
theorem Jb(I:Inv X pins σ H s)(hd:iW X.K H O d v)(he:iW X.K H O' e u)(ra:RelV v a)(rb:RelV u b)(hn:d.dep<=n)(v7:e.dep<20000)(hA:A.units+n<cLine):RcNeAt A s a b (!D.eqb d e):=by
 have hu:A.units<cLine:=by omega
 have items:=Ct I hA;have af:cLine=9900:=rfl;have h1:=qo I hd ra (by omega);have h2:=qo I he rb v7
 cases h1 with
 |non=>
  cases h2 with
  |non=>exact RcNeAt.none_none
  |bl c2=>exact RcNeAt.none_bool c2
  |int c2 t2=>exact RcNeAt.none_int c2 t2
  |str c2 t2=>exact RcNeAt.none_str c2 t2
  |tup q2 r2 v2 i5=>exact RcNeAt.none_tuple i5 hu
  |lst q2 r2 v2 i5=>exact RcNeAt.none_list i5 hu
 |bl c1=>
  cases h2 with
  |non=>exact RcNeAt.bool_none c1
  |bl c2=>exact RcNeAt.bool_bool c1 c2
  |int c2 t2=>exact RcNeAt.bool_int c1 c2 t2
  |str c2 t2=>exact RcNeAt.bool_str c1 c2 t2
  |tup q2 r2 v2 i5=>exact RcNeAt.bool_tuple c1 i5 hu
  |lst q2 r2 v2 i5=>exact RcNeAt.bool_list c1 i5 hu
 |int c1 t1=>
  cases h2 with
  |non=>exact RcNeAt.int_none c1 t1
  |bl c2=>exact RcNeAt.int_bool c1 t1 c2
  |int c2 t2=>exact RcNeAt.int_int c1 t1 c2 t2
  |str c2 t2=>exact RcNeAt.int_str c1 t1 c2 t2
  |tup q2 r2 v2 i5=>exact RcNeAt.int_tuple c1 t1 i5 hu
  |lst q2 r2 v2 i5=>exact RcNeAt.int_list c1 t1 i5 hu
 |str c1 t1=>
  cases h2 with
  |non=>exact RcNeAt.str_none c1 t1
  |bl c2=>exact RcNeAt.str_bool c1 t1 c2
  |int c2 t2=>exact RcNeAt.str_int c1 t1 c2 t2
  |str c2 t2=>exact RcNeAt.str_str c1 t1 c2 t2
  |tup q2 r2 v2 i5=>exact RcNeAt.str_tuple c1 t1 i5 hu
  |lst q2 r2 v2 i5=>exact RcNeAt.str_list c1 t1 i5 hu
 | @tup l p xs b6 q r v1 pl=>
  cases h2 with
  |non=>exact RcNeAt.tuple_none pl hu
  |bl c2=>exact RcNeAt.tuple_bool c2 pl hu
  |int c2 t2=>exact RcNeAt.tuple_int c2 t2 pl hu
  |str c2 t2=>exact RcNeAt.tuple_str c2 t2 pl hu
  | @tup m p2 ys g0 q2 r2 v2 i5=>
   have hl:D.depL l+1<=n:=by rw[D.dep] at hn;exact hn
   have hm:D.depL m<20000:=by rw[D.dep] at v7;omega
   have e1:=v1.length;have e2:=v2.length;have e3:=r.length;have e4:=r2.length;have z:=RcNeAt.tuples pl i5 hu (items l m xs ys b6 g0 _ _ hl hm r r2 v1 v2);simp only[jc] at z;rw[show b6.length=l.length by omega,show g0.length=m.length by omega,lR] at z;rw[D.eqb];exact z
  |lst q2 r2 v2 i5=>exact RcNeAt.tuple_list pl i5 hu
 | @lst l p xs b6 q r v1 pl=>
  cases h2 with
  |non=>exact RcNeAt.list_none pl hu
  |bl c2=>exact RcNeAt.list_bool c2 pl hu
  |int c2 t2=>exact RcNeAt.list_int c2 t2 pl hu
  |str c2 t2=>exact RcNeAt.list_str c2 t2 pl hu
  |tup q2 r2 v2 i5=>exact RcNeAt.list_tuple pl i5 hu
  | @lst m p2 ys g0 q2 r2 v2 i5=>
   have hl:D.depL l+1<=n:=by rw[D.dep] at hn;exact hn
   have hm:D.depL m<20000:=by rw[D.dep] at v7;omega
   have e1:=v1.length;have e2:=v2.length;have e3:=r.length;have e4:=r2.length;have al:=lR l m;by_cases hlen:l.length=m.length
   ·have z:=RcNeAt.lists pl i5 (by simp only[jc];omega) hu (items l m xs ys b6 g0 _ _ hl hm r r2 v1 v2);simp only[jc] at z;rw[show b6.length=min l.length m.length by omega] at z;rw[D.eqb,<-al,hlen];rw[hlen] at z;simpa using z
   ·have z:=RcNeAt.lists_lengths pl i5 (by simp only[jc,bne_iff_ne,ne_eq];omega) hu;rw[D.eqb,<-al];rw[show(l.length==m.length)=false by simpa using hlen];simpa using z
theorem OV(hu:X.A.units+60<cLine):OpR X (compareOp .Eq) (fun x y H Q=> ∃O d e,iW X.K H O d x/\iW X.K H O e y/\(d.dep<=50/\e.dep<=50)/\Q (.bl (D.eqb d e)) H):=by
 intro pins s σ H x y v u Q I rx ry h;obtain⟨O,d,e,h1,h2,h3,q⟩:=h;exact NX (A:=X.A) I h1 h2 rx ry h3.1 (by omega) (by omega) _ _ _ _ ⟨.bl _,H,I,rfl,q⟩
theorem OS(hu:X.A.units+60<cLine):OpR X (compareOp .NotEq) (fun x y H Q=> ∃O d e,iW X.K H O d x/\iW X.K H O e y/\(d.dep<=50/\e.dep<=50)/\Q (.bl (!D.eqb d e)) H):=by
 intro pins s σ H x y v u Q I rx ry h;obtain⟨O,d,e,h1,h2,h3,q⟩:=h;exact Jb (A:=X.A) I h1 h2 rx ry h3.1 (by omega) (by omega) _ _ _ _ ⟨.bl _,H,I,rfl,q⟩
end
theorem gY{α:Type}{c:Prop}[Decidable c]{a b:α}(h:(if c then some a else none)=some b):c/\a=b:=by
 split at h
 ·rename_i hc;exact⟨hc,iC h⟩
 ·cases h
section
variable {X:Cx}{pins:gZ}{σ:L2.St}{H:Hp}{s:gu}
theorem Kc(I:Inv X pins σ H s){A:gG}{l:List D}{xs:List V}{b6:ir}{O O':AP'}{dx:D}{vx:V}{x:gy}(r:RepL X.K H O l xs)(v:Vals xs b6)(hx:iW X.K H O' dx vx)(rx:RelV vx x)(hn:D.depL l<=50)(hxn:dx.dep<=50)(hA:A.units+60<cLine):
  ∃e:Value->Bool,(∀y∈b6,EqAt A.in1 s y x (e y))/\b6.any e=l.any fun d=>D.eqb d dx:=by
 let e:Value->Bool:=fun y=>match(b6.zip l).find? (fun p=>p.1==y) with
  |some p=>D.eqb p.2 dx
  |none=>false
 have e1:=v.length;have e3:=r.length
 have key: ∀(j:Nat) (hj:j<b6.length) (hl:j<l.length),e b6[j]=D.eqb l[j] dx:=fun j hj hl=>by
  show(match(b6.zip l).find? (fun p=>p.1==b6[j]) with|some p=>D.eqb p.2 dx|none=>false)=_
  cases hf:(b6.zip l).find? (fun p=>p.1==b6[j]) with
  |none=>
   have:=List.find?_eq_none.mp hf (b6[j],l[j]) (by
    have:(b6.zip l)[j]?=some (b6[j],l[j]):=by simp[List.getElem?_zip_eq_some,iM hj,iM hl]
    exact kF this)
   simp at this
  |some p=>
   have hp:=List.find?_some hf;have hm:=List.mem_of_find?_eq_some hf;obtain⟨i,hi⟩:=qX hm;obtain⟨p1,p2⟩:=p;rw[List.getElem?_zip_eq_some] at hi;have cx:p1=b6[j]:=qZ hp;obtain⟨h1,h2⟩:=hi;have aM:i<xs.length:=by have:=(pQ.mp h1).1;omega
   obtain⟨w,w1,w2⟩:=v.get (iM aM);have cY:j<xs.length:=by omega
   obtain⟨w',w3,w4⟩:=v.get (iM cY);rw[h1] at w1;cases w1;rw[iM hj] at w3;cases w3;subst cx;have hv:=w2.inj w4;have a1:=r.views h2 (iM aM);have a2:=r.views (iM hl) (iM cY);rw[hv] at a1;have hdi:=D.dep_mem h2;have:=Rep.inj I (by omega) a1 a2;exact oj (fun z=>D.eqb z dx) this
 refine⟨e,fun y hy=>?_,?_⟩
 ·obtain⟨j,hj⟩:=qX hy;have hj1:=(pQ.mp hj).1;have cY:=(pQ.mp hj).2;have hl:j<l.length:=by omega
  have eA:j<xs.length:=by omega
  obtain⟨w,w1,w2⟩:=v.get (iM eA);rw[hj] at w1;cases w1;have hk:=key j hj1 hl;rw[cY] at hk;rw[hk];have hd:=D.dep_mem (iM hl);exact yp I 50 _ _ _ _ _ _ O O' A.in1 (.inl (r.views (iM hl) (iM eA))) hx w2 rx (by omega) (by omega) (by show A.units+1+50<cLine;omega)
 ·have:b6.map e=l.map fun d=>D.eqb d dx:=by
   apply Dl
   ·simp;omega
   ·intro j h1 h2;simp only[jk] at h1 h2;simp only[List.getElem_map];exact key j h1 h2
  have h3:b6.any e=(b6.map e).any id:=by rw[List.any_map];rfl
  have h4:(l.any fun d=>D.eqb d dx)=(l.map fun d=>D.eqb d dx).any id:=by rw[List.any_map];rfl
  rw[h3,h4,this]
noncomputable def inD(x:D):D->Option Bool
 | .tup l=>if D.depL l<=50/\x.dep<=50 then some (l.any fun d=>D.eqb d x) else none
 | .lst l=>if D.depL l<=50/\x.dep<=50 then some (l.any fun d=>D.eqb d x) else none
 |_=>none
theorem G2(hu:X.A.units+60<cLine):OpR X (compareOp .NotIn) (fun x y H Q=> ∃O d e b,iW X.K H O d x/\iW X.K H O e y/\inD d e=some b/\Q (.bl (!b)) H):=by
 intro pins s σ H x y v u Q I rx ry h;obtain⟨O,d,e,b,h1,h2,h3,q⟩:=h
 cases e with
 |tup l=>
  obtain⟨hn,rfl⟩:=gY h3
  ·skip
   obtain⟨a,xs,rfl,hq,r⟩:=kG h2;cases ry;obtain⟨b6,v1,pl,_⟩:=I.tuple hq;obtain⟨e,he,ha⟩:=Kc (A:=X.A) I r v1 h1 rx hn.1 hn.2 hu;refine notIn_tupleAt e pl (fun w hw=>he w (by simpa using hw)) ⟨.bl _,H,I,rfl,?_⟩;rw[show b6.toArray.any e=b6.any e by simp,ha];exact q
 |lst l=>
  obtain⟨hn,rfl⟩:=gY h3
  ·skip
   obtain⟨a,xs,rfl,hq,r⟩:=jN h2;cases ry;obtain⟨b6,v1,pl,_⟩:=I.list hq;obtain⟨e,he,ha⟩:=Kc (A:=X.A) I r v1 h1 rx hn.1 hn.2 hu;refine notIn_listAt e pl.isList (fun w hw=>he w (by simpa using hw)) ⟨.bl _,H,I,rfl,?_⟩;rw[show b6.toArray.any e=b6.any e by simp,ha];exact q
 |_=>cases h3
end
def rD1(K:gQ)(g:D->Option (D×Bool)):V->Hp->VK->Prop:=fun x H Q=> ∃(O:AP') (d:D) (z:D×Bool),(∀p,¬Ow (H p)-> ¬O p)/\iW K H O d x/\g d=some z/\Gen K H O z Q
def rD(K:gQ)(g:D->D->Option (D×Bool)):R2:=fun x y H Q=> ∃(O:AP') (d e:D) (z:D×Bool),(∀p,¬Ow (H p)-> ¬O p)/\iW K H O d x/\iW K H O e y/\g d e=some z/\Gen K H O z Q
def rDn(K:gQ)(g:List D->Option (D×Bool)):List V->Hp->VK->Prop:=fun vs H Q=> ∃(O:AP') (ds:List D) (z:D×Bool),(∀p,¬Ow (H p)-> ¬O p)/\ds.length=vs.length/\(∀(j:Nat) d v,ds[j]?=some d->vs[j]?=some v->iW K H O d v)/\g ds=some z/\Gen K H O z Q
section
variable {X:Cx}{e a b:gx}{fa fb:FO}{fs:List FO}{pos:Pos}
theorem px1(h:PE X e (tUn (rD1 X.K g) (tO X.K fa))):PX X e (jQ g fa):=N9 h fun x z v H O Q np hx hg G=>⟨O,x,z,np,hx,hg,G⟩
theorem px2(h:PE X e (tOp (rD X.K g) (tO X.K fa) (tO X.K fb))):PX X e (gK g fa fb):=N8 h fun x y z v u H O Q np hx hy hg G=>⟨O,x,y,z,np,hx,hy,hg,G⟩
theorem pxn(h:PE X e (tCB (rDn X.K g) (tA X.K fs))):PX X e (ig g fs):=LO h fun ds z vs H O Q np hl hv hg G=>⟨O,ds,z,np,hl,hv,hg,G⟩
theorem gS{K H}{O:AP'}{i:Int}{v:V}(h:iW K H O (.int i) v):v= .int i:=h.elim (fun h=>h.int) fun⟨_,_,h⟩=>h.elim
theorem Fh{K H}(h:iW K H O (.bl i) v):v= .bl i:=h.elim (fun h=>h.bl) fun⟨_,_,h⟩=>h.elim
theorem wR{K H}(h:iW K H O (.str i) v):v= .str i:=h.elim (fun h=>h.str) fun⟨_,_,h⟩=>h.elim
theorem ID{K H}(h:iW K H O .non v):v= .non:=h.elim (fun h=>h.non) fun⟨_,_,h⟩=>h.elim
theorem Gen.str{K H}(g:Gen K H O (.str i,false) Q):Q (.str i) H:=g _ H (fun _ _ e=>e) Rep.mkStr
noncomputable def gI(f:Int->Int->Option D):D->D->Option (D×Bool)
 | .int i,.int j=>(f i j).map fun z=>(z,false)
 |_,_=>none
theorem vY{f:Int->Int->Option D}{d e:D}{z:D×Bool}(h:gI f d e=some z): ∃i j y,d= .int i/\e= .int j/\f i j=some y/\z=(y,false):=by
 cases d with
 |int i=>
  cases e with
  |int j=>
   cases hf:f i j with
   |none=>rw[gI,hf] at h;cases h
   |some y=>rw[gI,hf] at h;cases h;exact⟨i,j,y,rfl,rfl,hf,rfl⟩
  |_=>cases h
 |_=>cases h
theorem vV{f:vh}{C:Int->Int->Prop}[∀i j,Decidable (C i j)]{g:Int->Int->Int}(ho:OpR X f (rI C fun i j=> .int (g i j))):OpR X f (rD X.K (gI fun i j=>if C i j then some (.int (g i j)) else none)):=by
 intro pins s σ H x y v u Q I rx ry h;obtain⟨O,d,e,z,np,h1,h2,hg,G⟩:=h;obtain⟨i,j,w,rfl,rfl,hf,rfl⟩:=vY hg;obtain⟨hc,rfl⟩:=gY hf;exact ho pins s σ H x y v u Q I rx ry ⟨i,j,gS h1,gS h2,hc,G.int⟩
theorem JN{f:vh}{g:Int->Int->Int}(ho:OpR X f (rI0 fun i j=> .int (g i j))):OpR X f (rD X.K (gI fun i j=>some (.int (g i j)))):=by
 intro pins s σ H x y v u Q I rx ry h;obtain⟨O,d,e,z,np,h1,h2,hg,G⟩:=h;obtain⟨i,j,w,rfl,rfl,hf,rfl⟩:=vY hg;cases hf;exact ho pins s σ H x y v u Q I rx ry ⟨i,j,gS h1,gS h2,G.int⟩
instance(i j:Int):Decidable (CMul i j):=by unfold CMul;exact inferInstance
instance(i j:Int):Decidable (HA i j):=by unfold HA;exact inferInstance
instance(i j:Int):Decidable (vP i j):=by unfold vP;exact inferInstance
noncomputable def gSub:=gI fun i j=>some (.int (i-j))
noncomputable def ya:=gI fun i j=>if CMul i j then some (.int (i*j)) else none
noncomputable def Ki:=gI fun i j=>if HA i j then some (.int (i / j)) else none
noncomputable def yS:=gI fun i j=>if 0<j then some (.int (i%j)) else none
noncomputable def va:=gI fun i j=>if vP i j then some (.int (i^j.toNat)) else none
theorem vU:OpR X (binaryOp .Sub) (rD X.K gSub):=JN OQ
theorem qD:OpR X (binaryOp .Mult) (rD X.K ya):=vV OT
theorem FP:OpR X (binaryOp .FloorDiv) (rD X.K Ki):=vV Mh
theorem qE:OpR X (binaryOp .Mod) (rD X.K yS):=vV OU
theorem qC:OpR X (binaryOp .Pow) (rD X.K va):=vV OR
noncomputable def kf:D->D->Option (D×Bool)
 | .int i,.int j=>some (.int (i+j),false)
 | .str i,.str j=>if i.length+j.length<=sizeLine then some (.str (i++j),false) else none
 | .tup l,.tup m=>if l.length+m.length<=sizeLine then some (.tup (l++m),false) else none
 | .lst l,.lst m=>if l.length+m.length<=sizeLine then some (.lst (l++m),true) else none
 |_,_=>none
theorem iw:OpR X (binaryOp .Add) (rD X.K kf):=by
 intro pins s σ H x y v u Q I rx ry h;obtain⟨O,d,e,z,np,h1,h2,hg,G⟩:=h
 cases d with
 |int i=>
  cases e with
  |int j=>cases hg;exact OW pins s σ H x y v u Q I rx ry ⟨i,j,gS h1,gS h2,G.int⟩
  |_=>cases hg
 |str i=>
  cases e with
  |str j=>
   obtain⟨hc,rfl⟩:=gY hg;exact Eb pins s σ H x y v u Q I rx ry ⟨i,j,wR h1,wR h2,hc,G.str⟩
  |_=>cases hg
 |tup l=>
  cases e with
  |tup m=>
   obtain⟨hc,rfl⟩:=gY hg;have k1:Rep X.K H O (.tup l) x:=h1.elim id fun⟨_,_,z⟩=>z.elim;have k2:Rep X.K H O (.tup m) y:=h2.elim id fun⟨_,_,z⟩=>z.elim;obtain⟨p1,xs,rfl,q1,r1⟩:=k1.tup;obtain⟨p2,ys,rfl,q2,r2⟩:=k2.tup;have l1:=r1.length;have l2:=r2.length;by_cases hx:xs=[]
   ·subst hx;have:l=[]:=by simpa using l1.symm
    subst this;cases rx;cases ry;obtain⟨b6,v1,eT,_⟩:=I.tuple q1.sq;obtain⟨g0,v2,i5,_⟩:=I.tuple q2.sq;have e1:b6=[]:=by have:=v1.length;simpa using this.symm
    subst e1;obtain⟨⟨cls,dd,data,sl⟩,ho,af,n,hd⟩:=id eT;obtain⟨⟨cQ,y6,data2,u5⟩,v5,n0,n2,hd2⟩:=id i5;simp only at af hd n0 hd2;subst af hd n0 hd2
    refine An ⟨_,ho,rfl⟩ ⟨_,v5,rfl⟩ DD DC DA Dz (Dy _ _)
     (tuple_addW0 p1 p2 #[] g0.toArray n n2 dd y6 sl u5 (by simp)) ⟨ho,v5,⟨.ref p2,H,I,rfl,?_⟩⟩
    exact G _ H (fun _ _ e=>e) (by simpa using k2)
   ·refine Mi pins s σ H _ _ v u Q I rx ry ⟨p1,p2,xs,ys,rfl,rfl,q1.sq,q2.sq,hx,by omega,fun hy=>?_,fun hy p hp=>?_⟩
    ·subst hy;have:m=[]:=by simpa using l2.symm
     subst this;exact G _ H (fun _ _ e=>e) (by simpa using k1)
    ·exact G.tup hp (np p (nOw hp)) (r1.append r2)
  |_=>cases hg
 |lst l=>
  cases e with
  |lst m=>
   obtain⟨hc,rfl⟩:=gY hg;obtain⟨p1,xs,rfl,q1,r1⟩:=jN h1;obtain⟨p2,ys,rfl,q2,r2⟩:=jN h2;have l1:=r1.length;have l2:=r2.length;cases rx;cases ry;obtain⟨b6,v1,eT,_⟩:=I.list q1;obtain⟨g0,v2,i5,_⟩:=I.list q2;have e1:=v1.length;have e2:=v2.length;obtain⟨⟨cls,dd,data,sl⟩,ho,af,n,hd⟩:=id eT.isList;obtain⟨⟨cQ,y6,data2,u5⟩,v5,n0,n2,hd2⟩:=id i5.isList;simp only at af hd n0 hd2;subst af hd n0 hd2
   refine An ⟨_,ho,rfl⟩ ⟨_,v5,rfl⟩ noFill_list_add seq_list_add PySem.F.slot_list_add PySem.F.entry_list_add (PySem.F.args_list_add_2 _ _)
    (list_addW p1 p2 b6.toArray g0.toArray n n2 dd y6 sl u5 (by simp only[jc];omega)) ⟨ho,v5,?_⟩
   rw[show b6.toArray++g0.toArray=(b6++g0).toArray by simp];exact⟨.ref _,_,I.lnew (t':=s.toks) (v1.append v2) (by rw[mz];omega),rfl,G.lst I.fresh (r1.append r2)⟩
  |_=>cases hg
 |_=>cases hg
noncomputable def gEq(d e:D):Option (D×Bool):=if d.dep<=50/\e.dep<=50 then some (.bl (D.eqb d e),false) else none
noncomputable def gNe(d e:D):Option (D×Bool):=if d.dep<=50/\e.dep<=50 then some (.bl (!D.eqb d e),false) else none
theorem Ea(hu:X.A.units+60<cLine):OpR X (compareOp .Eq) (rD X.K gEq):=by
 intro pins s σ H x y v u Q I rx ry h;obtain⟨O,d,e,z,np,h1,h2,hg,G⟩:=h;obtain⟨hc,rfl⟩:=gY hg;exact OV hu pins s σ H x y v u Q I rx ry ⟨O,d,e,h1,h2,hc,G.bl⟩
theorem xw(hu:X.A.units+60<cLine):OpR X (compareOp .NotEq) (rD X.K gNe):=by
 intro pins s σ H x y v u Q I rx ry h;obtain⟨O,d,e,z,np,h1,h2,hg,G⟩:=h;obtain⟨hc,rfl⟩:=gY hg;exact OS hu pins s σ H x y v u Q I rx ry ⟨O,d,e,h1,h2,hc,G.bl⟩
theorem hZ{α β:Type}{x:Option α}{f:α->β}{b:β}(h:x.map f=some b): ∃a,x=some a/\f a=b:=by
 cases x with
 |none=>cases h
 |some a=>exact⟨a,rfl,iC h⟩
noncomputable def pG:D->Option (D×Bool)
 | .int i=>some (.int (-i),false)
 |_=>none
theorem Ld:UnR X (unaryOp .USub) (rD1 X.K pG):=by
 intro pins s σ H x v Q I rx h;obtain⟨O,d,z,np,h1,hg,G⟩:=h
 cases d with
 |int i=>cases hg;exact NF pins s σ H x v Q I rx ⟨i,gS h1,G.int⟩
 |_=>cases hg
noncomputable def gIx:D->D->Option (D×Bool)
 | .tup l,.int i=>(atI l i).map fun d=>(d,false)
 | .lst l,.int i=>(atI l i).map fun d=>(d,false)
 |_,_=>none
theorem Gq{K H}{O:AP'}{l:List D}{xs:List V}{i:Int}{d:D}(r:RepL K H O l xs)(h:atI l i=some d): ∃v,atI xs i=some v/\Rep K H O d v:=by
 unfold atI at h ⊢;rw[r.length];obtain⟨j,h1,h2⟩:=gk h;rw[h1];exact r.get h2
theorem Rh:IxR X (rD X.K gIx):=by
 intro value slice pins s σ H x y v u Q I rx ry h hs;obtain⟨O,d,e,z,np,h1,h2,hg,G⟩:=h
 cases d with
 |tup l=>
  cases e with
  |int i=>
   obtain⟨w,hw,rfl⟩:=hZ hg;obtain⟨p,xs,rfl,q,r⟩:=kG h1;obtain⟨vv,hv,hr⟩:=Gq r hw;exact Pg value slice pins s σ H _ _ v u Q I rx ry ⟨p,xs,i,vv,rfl,gS h2,q,hv,G _ H (fun _ _ e=>e) hr⟩ hs
  |_=>cases hg
 |lst l=>
  cases e with
  |int i=>
   obtain⟨w,hw,rfl⟩:=hZ hg;obtain⟨p,xs,rfl,q,r⟩:=jN h1;obtain⟨vv,hv,hr⟩:=Gq r hw;exact Mu value slice pins s σ H _ _ v u Q I rx ry ⟨p,xs,i,vv,rfl,gS h2,q,hv,G _ H (fun _ _ e=>e) hr⟩ hs
  |_=>cases hg
 |_=>cases hg
theorem Oi(ho:OpR X (binaryOp op) (rD X.K g))(ha:PO X a fa)(hb:PO X b fb):PX X (.BinOp a op b pos) (gK g fa fb):=px2 (QZ ho ha hb)
theorem Oh{op:CmpOp}{g:D->D->Option (D×Bool)}(ho:OpR X (compareOp op) (rD X.K g))(ha:PO X a fa)(hb:PO X b fb)(hm:behindInMarks op b=false):PX X (.Compare a [op] [b] pos) (gK g fa fb):=px2 (Md ho ha hb hm)
theorem Oc(ha:PO X a fa):PX X (.UnaryOp .USub a pos) (jQ pG fa):=px1 (QY Ld ha)
theorem QN(ha:PO X a fa)(hb:PO X b fb)(hs:Be b):PX X (.Subscript a b pos) (gK gIx fa fb):=px2 (Q0 Rh ha hb hs)
end
noncomputable def mT:List Opd->Option (List D)
 |[]=>some []
 | .val r::os=>(mT os).map (r.1:: ·)
 | .slot _::_=>none
noncomputable def mZ(fs:List F):F:=fun δ=>(ja (fs.map gq) δ).bind fun p=>(mT p.1).bind fun ds=>if ds.length<=sizeLine then some ((.tup ds,false),p.2) else none
noncomputable def jw(fs:List F):F:=fun δ=>(ja (fs.map gq) δ).bind fun p=>(mT p.1).bind fun ds=>if ds.length<=sizeLine then some ((.lst ds,true),p.2) else none
section
variable {K:gQ}{T T':AP'}{σ:L2.St}{δ δ':Dn}{H H':Hp}{os:List Opd}{vs:List V}
theorem Ops.rep(E:ER K H T σ δ)(B:Ops K T σ δ H os vs δ' H' T'){j:Nat}{r:D×Bool}{v:V}(h1:os[j]?=some (.val r))(h2:vs[j]?=some v):Rep K H' (fun a=>OwnA σ δ' a\/T a) r.1 v:=by
 obtain⟨d,b⟩:=r
 cases b with
 |false=>exact B.val j d v h1 h2
 |true=>
  obtain⟨p,rfl,tp,hp,ok⟩:=B.tmp j d v h1 h2;refine ok.rep (fun z=>?_) fun b _ z=>z;rcases z with z|z
  ·exact B.er.nT p z tp
  ·exact(E.dom p z).ne hp
theorem oJ{O:AP'}: ∀{os:List Opd} {vs:List V} {ds:List D},mT os=some ds->os.length=vs.length->(∀(j:Nat) (r:D×Bool) (v:V),os[j]?=some (.val r)->vs[j]?=some v->Rep K H' O r.1 v)->RepL K H' O ds vs
 |[],vs,ds,h,hl,_=>by
  cases h;have:vs=[]:=by simpa using hl.symm
  subst this;exact RepL.nil
 | .slot i::os,vs,ds,h,_,_=>by cases h
 | .val r::os,vs,ds,h,hl,k=>by
  obtain⟨l,h1,rfl⟩:=hZ h
  cases vs with
  |nil=>simp at hl
  |cons v vs=>exact RepL.cons (k 0 r v rfl rfl) (oJ h1 (by simpa using hl) fun j r' v' a b=>k (j+1) r' v' (by simpa using a) (by simpa using b))
end
section
variable {X:Cx}{e a b:gx}{es:jf}{fa fb:FO}{fs:List F}{pos:Pos}
theorem N3{x1}(h:PA X es (tA X.K (fs.map gq))):PX X (.Tuple es x1 pos) (mZ fs):=PX.imp (OG h) fun σ H Q hw=>by
 obtain⟨δ,T,rr,δ',E,e,k⟩:=hw;obtain⟨⟨os,δ1⟩,h1,e⟩:=gk e;obtain⟨ds,h2,e⟩:=gk e;obtain⟨hn,e⟩:=gY e;obtain⟨rfl,rfl⟩:=sJ e;refine⟨δ,T,os,δ1,E,h1,fun vs H1 T1 B=>?_⟩;have r:=oJ h2 B.len fun j r v a b=>B.rep E a b;exact⟨by rw[r.length];exact hn,fun p hp=>(B.done k).tup hp (B.np (nOw hp)) r⟩
theorem Od(h:PA X es (tA X.K (fs.map gq))):PX X (.List es pos) (jw fs):=PX.imp (OM h) fun σ H Q hw=>by
 obtain⟨δ,T,rr,δ',E,e,k⟩:=hw;obtain⟨⟨os,δ1⟩,h1,e⟩:=gk e;obtain⟨ds,h2,e⟩:=gk e;obtain⟨hn,e⟩:=gY e;obtain⟨rfl,rfl⟩:=sJ e;refine⟨δ,T,os,δ1,E,h1,fun vs H1 T1 B=>?_⟩;have r:=oJ h2 B.len fun j r v a b=>B.rep E a b;exact⟨by rw[r.length];exact hn,fun p hp=>(B.done k).lst hp r⟩
theorem Ml{ds:List D}{vs:List V}{d:D}(hl:ds.length=vs.length)(hd:ds=[d]): ∃v,vs=[v]:=by
 subst hd
 cases vs with
 |nil=>simp at hl
 |cons v r=>
  cases r with
  |nil=>exact⟨v,rfl⟩
  |cons _ _=>simp at hl
noncomputable def g1(g:D->Option (D×Bool)):List D->Option (D×Bool)
 |[d]=>g d
 |_=>none
noncomputable def g2(g:D->D->Option (D×Bool)):List D->Option (D×Bool)
 |[d,e]=>g d e
 |_=>none
theorem ph{f:gy}{g:D->Option (D×Bool)}(h: ∀(pins:gZ) (s:gu) (σ:L2.St) (H:Hp) (x:V) (u:gy) (Q:VK) (O:AP') (d:D) (z:D×Bool),Inv X pins σ H s->RelV x u->(∀p,¬Ow (H p)-> ¬O p)->iW X.K H O d x->g d=some z->Gen X.K H O z Q->
  wpAny (model X.prog X.w) X.A (call f [u]) (EP X pins σ Q) X.xe s):ju X f (rDn X.K (g1 g)):=by
 intro pins s σ H xs us Q I r hq;obtain⟨O,ds,z,np,hl,hv,hg,G⟩:=hq
 match ds,hg with
 |[d],hg=>
  obtain⟨v,rfl⟩:=Ml hl rfl;obtain⟨u,rfl,ru⟩:=rh r;exact h pins s σ H v u Q O d z I ru np (hv 0 d v rfl rfl) hg G
theorem KC{f:gy}{g:D->D->Option (D×Bool)}(h: ∀(pins:gZ) (s:gu) (σ:L2.St) (H:Hp) (x y:V) (us:ir) (Q:VK) (O:AP') (d e:D) (z:D×Bool),Inv X pins σ H s->Vals [x,y] us->(∀p,¬Ow (H p)-> ¬O p)->iW X.K H O d x->iW X.K H O e y->g d e=some z->Gen X.K H O z Q->
  wpAny (model X.prog X.w) X.A (call f us) (EP X pins σ Q) X.xe s):ju X f (rDn X.K (g2 g)):=by
 intro pins s σ H xs us Q I r hq;obtain⟨O,ds,z,np,hl,hv,hg,G⟩:=hq
 match ds,hg,xs,hl with
 |[d,e],hg,[x,y],_=>exact h pins s σ H x y us Q O d e z I r np (hv 0 d x rfl rfl) (hv 1 e y rfl rfl) hg G
noncomputable def yb:D->Option (D×Bool)
 | .tup l=>some (.int l.length,false)
 | .lst l=>some (.int l.length,false)
 |_=>none
theorem mJ:ju X (.builtin "len") (rDn X.K (g1 yb)):=ph fun pins s σ H x u Q O d z I ru np hd hg G=>by
 cases d with
 |tup l=>
  cases hg;obtain⟨p,xs,rfl,q,r⟩:=kG hd;refine uf pins s σ H [_] [u] Q I (.cons ru .nil) ⟨p,xs,rfl,.inr q,?_⟩;rw[r.length];exact G.int
 |lst l=>
  cases hg;obtain⟨p,xs,rfl,q,r⟩:=jN hd;refine uf pins s σ H [_] [u] Q I (.cons ru .nil) ⟨p,xs,rfl,.inl q,?_⟩;rw[r.length];exact G.int
 |_=>cases hg
noncomputable def yT:D->Option (D×Bool)
 | .int i=>some (.int (if i<0 then -i else i),false)
 |_=>none
theorem vg:ju X (.builtin "abs") (rDn X.K (g1 yT)):=ph fun pins s σ H x u Q O d z I ru np hd hg G=>by
 cases d with
 |int i=>cases hg;exact KD pins s σ H [x] [u] Q I (.cons ru .nil) ⟨i,by rw[gS hd],G.int⟩
 |_=>cases hg
noncomputable def EE:D->Option (D×Bool)
 | .int i=>some (.int i,false)
 | .bl b=>some (.int (if b then 1 else 0),false)
 |_=>none
theorem zK:ju X (.type "int") (rDn X.K (g1 EE)):=ph fun pins s σ H x u Q O d z I ru np hd hg G=>by
 cases d with
 |int i=>cases hg;exact zL pins s σ H [x] [u] Q I (.cons ru .nil) (.inl ⟨i,by rw[gS hd],G.int⟩)
 |bl i=>
  cases hg;refine zL pins s σ H [x] [u] Q I (.cons ru .nil) (.inr ⟨i,by rw[Fh hd],?_⟩);have:=G.int;cases i<;>exact this
 |_=>cases hg
noncomputable def oU:D->Option (D×Bool)
 | .tup l=>some (.tup l,false)
 | .lst l=>some (.tup l,false)
 |_=>none
theorem nS:ju X (.type "tuple") (rDn X.K (g1 oU)):=ph fun pins s σ H x u Q O d z I ru np hd hg G=>by
 cases d with
 |tup l=>
  cases hg;have k1:Rep X.K H O (.tup l) x:=hd.elim id fun⟨_,_,z⟩=>z.elim;obtain⟨p,xs,rfl,q,r⟩:=k1.tup;exact rG pins s σ H [_] [u] Q I (.cons ru .nil) ⟨p,xs,rfl,.inr ⟨q.sq,G _ H (fun _ _ e=>e) k1⟩⟩
 |lst l=>
  cases hg;obtain⟨p,xs,rfl,q,r⟩:=jN hd;exact rG pins s σ H [_] [u] Q I (.cons ru .nil) ⟨p,xs,rfl,.inl ⟨q,fun t ht=>G.tup ht (np t (nOw ht)) r⟩⟩
 |_=>cases hg
noncomputable def F6:D->Option (D×Bool)
 | .tup l=>some (.lst l,true)
 | .lst l=>some (.lst l,true)
 |_=>none
theorem ES:ju X (.type "list") (rDn X.K (g1 F6)):=ph fun pins s σ H x u Q O d z I ru np hd hg G=>by
 cases d with
 |tup l=>
  cases hg;obtain⟨p,xs,rfl,q,r⟩:=kG hd;exact ue pins s σ H [_] [u] Q I (.cons ru .nil) ⟨p,xs,rfl,.inr q,fun t ht=>G.lst ht r⟩
 |lst l=>
  cases hg;obtain⟨p,xs,rfl,q,r⟩:=jN hd;exact ue pins s σ H [_] [u] Q I (.cons ru .nil) ⟨p,xs,rfl,.inl q,fun t ht=>G.lst ht r⟩
 |_=>cases hg
end
abbrev FT:=Dn->Option (Bool×Dn)
def tT(K:gQ)(f:FT):TT:=fun σ H Q=> ∃δ T b δ',ER K H T σ δ/\f δ=some (b,δ')/\ ∀H',Keep σ δ H δ' H'->ER K H' T σ δ'->Q b H'
def PTX(X:Cx)(e:gx)(f:FT):Prop:=PT X e (tT X.K f)
def PWX(X:Cx)(e:gx)(f:FT):Prop:=PW X e (tT X.K f)
noncomputable def asB:(D×Bool)×Dn->Option (Bool×Dn)
 |((.bl b,_),δ)=>some (b,δ)
 |_=>none
noncomputable def fT(f:F):FT:=fun δ=>(f δ).bind asB
theorem yG(h:asB p=some q): ∃o,p=((.bl q.1,o),q.2):=by
 obtain⟨⟨d,o⟩,δ⟩:=p
 cases d with
 |bl b=>cases h;exact⟨o,rfl⟩
 |_=>cases h
theorem M6{K:gQ}{f:F}{σ:L2.St}{H:Hp}{Q:Bool->Hp->Prop}(h:tT K (fT f) σ H Q):tF K f σ H fun x H1=> ∃c,x= .bl c/\Q c H1:=by
 obtain⟨δ,T,b,δ',E,e,k⟩:=h;obtain⟨p,h1,h2⟩:=gk e;obtain⟨o,rfl⟩:=yG h2;refine⟨δ,T,_,_,E,h1,fun v H' P=>?_⟩;obtain⟨E1,r⟩:=P.rep E;exact⟨b,r.bl,k H' P.1 E1⟩
section
variable {X:Cx}{e a b c:gx}{es:jf}{fa fb:FO}{f g:F}{ft fu:FT}{pos:Pos}
theorem PT.imp'(h:PT X e t)(k: ∀σ H Q,t' σ H Q->t σ H Q):PT X e t':=fun pins s σ H Q I hw=>h pins s σ H Q I (k σ H Q hw)
theorem PW.imp'(h:PW X e t)(k: ∀σ H Q,t' σ H Q->t σ H Q):PW X e t':=fun wh pins s σ H Q I hw=>h wh pins s σ H Q I (k σ H Q hw)
theorem LR(h:PX X e f)(he: ∀whole,isTrue e X.env whole=(do let v <-whole;standAt e.pos;holding [v] (truthy v))):PTX X e (fT f):=PT.imp' (Oq h he) fun σ H Q hw=>M6 hw
theorem Mk{r:R2}{g:D->D->Option (D×Bool)}(hr:P4 X.K r g){σ:L2.St}{H:Hp}{Q:VK}(hw:tF X.K (gK g fa fb) σ H Q):tOp r (tO X.K fa) (tO X.K fb) σ H Q:=by
 obtain⟨δ,T,rr,δ',E,e,k⟩:=hw;obtain⟨⟨o,δ1⟩,h1,e⟩:=gk e;obtain⟨⟨o2,δ2⟩,h2,e⟩:=gk e;obtain⟨x,h3,e⟩:=gk e;obtain⟨y,h4,e⟩:=gk e;obtain⟨z,h5,e⟩:=gk e;obtain⟨rfl,rfl⟩:=gJ e;refine⟨δ,T,o,δ1,E,h1,fun v H1 P1=>⟨δ1,vO T o v,o2,δ2,P1.er E,h2,fun u H2 P2=>?_⟩⟩;have B:=Ops.cons E P1 (Ops.cons (P1.er E) P2 (Ops.nil (P2.er (P1.er E))));exact hr x y z v u H2 _ Q (fun p hp=>B.np hp) (B.view (j:=0) rfl rfl h3) (B.view (j:=1) rfl rfl h4) h5 (B.done k)
theorem QK{K:gQ}{g:D->D->Option (D×Bool)}:P4 K (rD K g) g:=fun x y z v u H O Q np hx hy hg G=>⟨O,x,y,z,np,hx,hy,hg,G⟩
theorem LX{op:CmpOp}{g:D->D->Option (D×Bool)}(ho:OpR X (compareOp op) (rD X.K g))(ha:PO X a fa)(hb:PO X b fb)(hm:behindInMarks op b=false):PTX X (.Compare a [op] [b] pos) (fT (gK g fa fb)):=
 PT.imp' (LY ho ha hb hm) fun σ H Q hw=>Mk QK (M6 hw)
noncomputable def Rt(f g:FT):FT:=fun δ=>(f δ).bind fun p=>if p.1=true then g p.2 else some (false,p.2)
noncomputable def Cr(f g:FT):FT:=fun δ=>(f δ).bind fun p=>if p.1=true then some (true,p.2) else g p.2
noncomputable def ma(f:FT):FT:=fun δ=>(f δ).bind fun p=>some (!p.1,p.2)
theorem LQ(ha:PTX X a ft):PWX X (.BoolOp .Or [a] pos) ft:=Oo ha
theorem Om(ha:PTX X a ft)(hb:PWX X (.BoolOp .Or (b::es) pos) fu):PWX X (.BoolOp .Or (a::b::es) pos) (Cr ft fu):=PW.imp' (QV ha hb) fun σ H Q hw=>by
 obtain⟨δ,T,c,δ',E,e,k⟩:=hw;obtain⟨⟨c1,δ1⟩,h1,e⟩:=gk e;refine⟨δ,T,c1,δ1,E,h1,fun H1 K1 E1=>?_⟩
 cases c1 with
 |true=>
  rw[gz rfl] at e;rw[gz rfl];obtain⟨rfl,rfl⟩:=gJ e;exact k H1 K1 E1
 |false=>
  rw[gC jl] at e;rw[gC jl];exact⟨δ1,T,c,δ',E1,e,fun H2 K2 E2=>k H2 (K1.trans K2) E2⟩
theorem LW(ha:PTX X a ft):PTX X (.UnaryOp .Not a pos) (ma ft):=PT.imp' (Ot ha) fun σ H Q hw=>by
 obtain⟨δ,T,c,δ',E,e,k⟩:=hw;obtain⟨⟨c1,δ1⟩,h1,e⟩:=gk e;obtain⟨rfl,rfl⟩:=gJ e;exact⟨δ,T,c1,δ1,E,h1,k⟩
noncomputable def EI(f g:F):F:=fun δ=>(f δ).bind fun p=>(asB p).bind fun q=>if q.1=true then g q.2 else some ((.bl false,false),q.2)
noncomputable def fOr(f g:F):F:=fun δ=>(f δ).bind fun p=>(asB p).bind fun q=>if q.1=true then some ((.bl true,false),q.2) else g q.2
noncomputable def Cs(f:F):F:=fun δ=>(f δ).bind fun p=>(asB p).bind fun q=>some ((.bl (!q.1),false),q.2)
theorem Post.pre{K:gQ}{T:AP'}{σ:L2.St}{δ δ1 δ2:Dn}{H H1 H2:Hp}{r:D×Bool}{v:V}(k:Keep σ δ H δ1 H1)(P:Post K T σ δ1 H1 r δ2 v H2):Post K T σ δ H r δ2 v H2:=by
 refine⟨k.trans P.1,?_⟩;obtain⟨d,o⟩:=r
 cases o with
 |false=>exact P.2
 |true=>
  obtain⟨p,h1,h2,h3⟩:=P.2;refine⟨p,h1,?_,h3⟩
  cases hH:H p with
  |none=>rfl
  |some ob=>exact absurd h2 (k.dm p (by rw[hH];simp))
theorem Oj(ha:PX X a f)(hb:PX X (.BoolOp .And (b::es) pos) g):PX X (.BoolOp .And (a::b::es) pos) (EI f g):=PX.imp (ON ha hb) fun σ H Q hw=>by
 obtain⟨δ,T,r,δ',E,e,k⟩:=hw;obtain⟨p,h1,e⟩:=gk e;obtain⟨⟨c,δ1⟩,h2,e2⟩:=gk e;obtain⟨o,rfl⟩:=yG h2;refine⟨δ,T,_,_,E,h1,fun v H1 P=>?_⟩;obtain⟨E1,rv⟩:=P.rep E;refine⟨c,rv.bl,?_⟩
 cases c with
 |true=>
  rw[gz rfl] at e2;rw[gz rfl];exact⟨δ1,T,r,δ',E1,e2,fun w H2 P2=>k w H2 (P2.pre P.1)⟩
 |false=>
  rw[gC jl] at e2;rw[gC jl];obtain⟨rfl,rfl⟩:=gJ e2;exact k _ H1 (Post.val P.1 E1 Rep.mkBl)
theorem LP{op}(ha:PX X a f):PX X (.BoolOp op [a] pos) f:=OI ha
theorem Oa(ha:PX X a f):PX X (.UnaryOp .Not a pos) (Cs f):=PX.imp (OJ ha) fun σ H Q hw=>by
 obtain⟨δ,T,r,δ',E,e,k⟩:=hw;obtain⟨p,h1,e⟩:=gk e;obtain⟨⟨c,δ1⟩,h2,e2⟩:=gk e;obtain⟨o,rfl⟩:=yG h2;obtain⟨rfl,rfl⟩:=gJ e2;refine⟨δ,T,_,_,E,h1,fun v H1 P=>?_⟩;obtain⟨E1,rv⟩:=P.rep E;exact⟨c,rv.bl,k _ H1 (Post.val P.1 E1 Rep.mkBl)⟩
noncomputable def fIf(t:FT)(f g:F):F:=fun δ=>(t δ).bind fun p=>if p.1=true then f p.2 else g p.2
theorem QR(hc:PTX X c ft)(ha:PX X a f)(hb:PX X b g):PX X (.IfExp c a b pos) (fIf ft f g):=PX.imp (JE hc ha hb) fun σ H Q hw=>by
 obtain⟨δ,T,r,δ',E,e,k⟩:=hw;obtain⟨⟨c,δ1⟩,h1,e⟩:=gk e;refine⟨δ,T,c,δ1,E,h1,fun H1 K1 E1=>?_⟩
 cases c with
 |true=>rw[gz rfl] at e;rw[gz rfl];exact⟨δ1,T,r,δ',E1,e,fun w H2 P2=>k w H2 (P2.pre K1)⟩
 |false=>rw[gC jl] at e;rw[gC jl];exact⟨δ1,T,r,δ',E1,e,fun w H2 P2=>k w H2 (P2.pre K1)⟩
end
inductive Out where
 |nx(δ:Dn)|rt(r:D×Bool)(δ:Dn)|bk(δ:Dn)|ct(δ:Dn)
abbrev FS:=Dn->Option Out
structure SK(A:iu)(σ:L2.St)(δ:Dn)(H:Hp)(σ':L2.St)(δ':Dn)(H':Hp):Prop where
 kp: ∀a o,H a=some o-> ¬OwnA σ δ a->H' a=some o
 owi: ∀i a,OwnI σ' δ' i a->OwnI σ δ i a\/H a=none
 dm: ∀a,H a≠none->H' a≠none
 as: ∀i,¬A i->σ'[i]?=σ[i]?
structure FI(L:iu)(H0:Hp)(σ:L2.St)(δ:Dn)(H:Hp):Prop where
 ow: ∀i a,OwnI σ δ i a->L i\/H0 a=none
 dm: ∀a,H0 a≠none->H a≠none
def RV(K:gQ)(T:AP')(H0:Hp)(r:D×Bool)(σ':L2.St)(δ':Dn)(v:V)(H':Hp):Prop:=
 match r with
 |(d,false)=>ER K H' T σ' δ'/\Rep K H' (fun a=>OwnA σ' δ' a\/T a) d v
 |(d,true)=> ∃p,v= .ref p/\H0 p=none/\ER K H' (fun a=>T a\/a=p) σ' δ'/\OwnOk K H' (fun a=>OwnA σ' δ' a\/T a\/a=p) d p
section
variable {A:iu}{σ σ1 σ2:L2.St}{δ δ1 δ2:Dn}{H H0 H1 H2:Hp}{L:iu}{K:gQ}{T:AP'}
theorem SK.refl:SK A σ δ H σ δ H:=⟨fun _ _ e _=>e,fun _ _ z=> .inl z,fun _ z=>z,fun _ _=>rfl⟩
theorem SK.ow(k:SK A σ δ H σ1 δ1 H1)(a:gm)(h:OwnA σ1 δ1 a):OwnA σ δ a\/H a=none:=by
 obtain⟨i,d,h1,h2⟩:=h;rcases k.owi i a ⟨d,h1,h2⟩ with⟨e,h3,h4⟩|z
 ·exact .inl ⟨i,e,h3,h4⟩
 ·exact .inr z
theorem SK.trans(x:SK A σ δ H σ1 δ1 H1)(y:SK A σ1 δ1 H1 σ2 δ2 H2):SK A σ δ H σ2 δ2 H2 where
 kp:=fun a o e n=>y.kp a o (x.kp a o e n) fun z=>(x.ow a z).elim n fun z=>by rw[z] at e;cases e
 owi:=fun i a z=>(y.owi i a z).elim (x.owi i a) fun z=> .inr (by
  cases h:H a with
  |none=>rfl
  |some o=>exact absurd z (x.dm a (by rw[h];simp)))
 dm:=fun a z=>y.dm a (x.dm a z)
 as:=fun i h=>(y.as i h).trans (x.as i h)
theorem Keep.sk(k:Keep σ δ H δ1 H1):SK A σ δ H σ δ1 H1:=⟨k.kp,fun i a z=> .inl (k.owi i a z),k.dm,fun _ _=>rfl⟩
theorem FI.step(f:FI L H0 σ δ H)(k:SK A σ δ H σ1 δ1 H1):FI L H0 σ1 δ1 H1 where
 ow:=fun i a z=>(k.owi i a z).elim (f.ow i a) fun z=> .inr (by
  cases h:H0 a with
  |none=>rfl
  |some o=>exact absurd z (f.dm a (by rw[h];simp)))
 dm:=fun a z=>k.dm a (f.dm a z)
theorem FI.fresh(f:FI L H0 σ δ H)(hp:H p=none):H0 p=none:=by
 cases h:H0 p with
 |none=>rfl
 |some o=>exact absurd hp (f.dm p (by rw[h];simp))
end
def tS(K:gQ)(A L:iu)(H0:Hp)(f:FS):TS:=fun D σ H=> ∃δ T out,ER K H T σ δ/\FI L H0 σ δ H/\f δ=some out/\
 match out with
 | .nx δ'=> ∀σ' H',SK A σ δ H σ' δ' H'->ER K H' T σ' δ'->D.nx σ' H'
 | .bk δ'=> ∀σ' H',SK A σ δ H σ' δ' H'->ER K H' T σ' δ'->D.bk σ' H'
 | .ct δ'=> ∀σ' H',SK A σ δ H σ' δ' H'->ER K H' T σ' δ'->D.ct σ' H'
 | .rt r δ'=> ∀v σ' H',SK A σ δ H σ' δ' H'->RV K T H0 r σ' δ' v H'->D.rt v H'
def PSX(X:Cx)(A L:iu)(H0:Hp)(st:Stmt)(f:FS):Prop:=PS X st (tS X.K A L H0 f)
def yI(X:Cx)(A L:iu)(H0:Hp)(st:List Stmt)(f:FS):Prop:=PSs X st (tS X.K A L H0 f)
noncomputable def hU:FS:=fun δ=>some (.nx δ)
noncomputable def gD(f g:FS):FS:=fun δ=>(f δ).bind fun o=>match o with
 | .nx δ1=>g δ1
 |o=>some o
noncomputable def lA(f:F):FS:=fun δ=>(f δ).bind fun p=>some (.nx p.2)
noncomputable def jG(f:F):FS:=fun δ=>(f δ).bind fun p=>some (.rt p.1 p.2)
noncomputable def qA(i:Nat):FS:=fun δ=>match δ[i]? with
 |some (some (d,true))=>some (.rt (d,true) (δ.set i none))
 |some (some (d,false))=>some (.rt (d,false) δ)
 |_=>none
noncomputable def sIf(t:FT)(f g:FS):FS:=fun δ=>(t δ).bind fun p=>if p.1=true then f p.2 else g p.2
noncomputable def jh(i:Nat)(f:F):FS:=fun δ=>(f δ).bind fun p=>if i<p.2.length then some (.nx (p.2.set i (some p.1))) else none
section
variable {X:Cx}{A L:iu}{H0:Hp}{st:Stmt}{y8:List Stmt}{f g:FS}{fe:F}{ft:FT}{e c:gx}{pos:Pos}
theorem PS.imp'(h:PS X st t)(k: ∀D σ H,t' D σ H->t D σ H):PS X st t':=fun pins s σ H D I hw=>h pins s σ H D I (k D σ H hw)
theorem PSs.imp'(h:PSs X y8 t)(k: ∀D σ H,t' D σ H->t D σ H):PSs X y8 t':=fun pins s σ H D I hw=>h pins s σ H D I (k D σ H hw)
theorem Jl:yI X A L H0 [] hU:=PSs.imp' FD fun D σ H hw=>by
 obtain⟨δ,T,out,E,fi,e,k⟩:=hw;cases e;exact k σ H .refl E
theorem GS(h1:PSX X A L H0 st f)(h2:yI X A L H0 y8 g):yI X A L H0 (st::y8) (gD f g):=PSs.imp' (oD h1 h2) fun D σ H hw=>by
 obtain⟨δ,T,out,E,fi,e,k⟩:=hw;obtain⟨o,h3,e⟩:=gk e;refine⟨δ,T,o,E,fi,h3,?_⟩
 cases o with
 |nx δ1=>
  intro σ1 H1 K1 E1;refine⟨δ1,T,out,E1,fi.step K1,e,?_⟩
  cases out with
  |nx δ2=>exact fun σ2 H2 K2 E2=>k σ2 H2 (K1.trans K2) E2
  |bk δ2=>exact fun σ2 H2 K2 E2=>k σ2 H2 (K1.trans K2) E2
  |ct δ2=>exact fun σ2 H2 K2 E2=>k σ2 H2 (K1.trans K2) E2
  |rt r δ2=>exact fun v σ2 H2 K2 R2=>k v σ2 H2 (K1.trans K2) R2
 |rt r δ1=>cases e;exact k
 |bk δ1=>cases e;exact k
 |ct δ1=>cases e;exact k
theorem Jk(h:PX X e fe)(hs:swapsWith e none pos.line X.env=pure false):PSX X A L H0 (.Expr e pos) (lA fe):=PS.imp' (FE h hs) fun D σ H hw=>by
 obtain⟨δ,T,out,E,fi,e,k⟩:=hw;obtain⟨p,h3,e⟩:=gk e;cases e;exact⟨δ,T,p.1,p.2,E,h3,fun v H1 P=>k σ H1 P.1.sk (P.rep E).1⟩
theorem L0(h:PX X e fe):PSX X A L H0 (.Return (some e) pos) (jG fe):=PS.imp' (Jo h) fun D σ H hw=>by
 obtain⟨δ,T,out,E,fi,e,k⟩:=hw;obtain⟨p,h3,e⟩:=gk e;cases e;refine⟨δ,T,p.1,p.2,E,h3,fun v H1 P=>k v σ H1 P.1.sk ?_⟩;obtain⟨⟨d,o⟩,δ1⟩:=p
 cases o with
 |false=>exact P.2
 |true=>
  obtain⟨q,h1,h2,h3⟩:=P.2;exact⟨q,h1,fi.fresh h2,h3⟩
theorem Ou(hc:PTX X c ft)(ha:yI X A L H0 a f)(hb:yI X A L H0 b g):PSX X A L H0 (.If c a b pos) (sIf ft f g):=PS.imp' (Nc hc ha hb) fun D σ H hw=>by
 obtain⟨δ,T,out,E,fi,e,k⟩:=hw;obtain⟨⟨c,δ1⟩,h1,e⟩:=gk e;refine⟨δ,T,c,δ1,E,h1,fun H1 K1 E1=>?_⟩;have dU:SK A σ δ H σ δ1 H1:=K1.sk
 have fin: ∀(h:FS),h δ1=some out->tS X.K A L H0 h D σ H1:=fun h he=>by
  refine⟨δ1,T,out,E1,fi.step dU,he,?_⟩
  cases out with
  |nx δ2=>exact fun σ2 H2 K2 E2=>k σ2 H2 (dU.trans K2) E2
  |bk δ2=>exact fun σ2 H2 K2 E2=>k σ2 H2 (dU.trans K2) E2
  |ct δ2=>exact fun σ2 H2 K2 E2=>k σ2 H2 (dU.trans K2) E2
  |rt r δ2=>exact fun v σ2 H2 K2 R2=>k v σ2 H2 (dU.trans K2) R2
 cases c with
 |true=>rw[gz rfl] at e;exact(show(if true=true then tS X.K A L H0 f D σ H1 else _) from by rw[gz rfl];exact fin f e)
 |false=>rw[gC jl] at e;exact(show(if false=true then _ else tS X.K A L H0 g D σ H1) from by rw[gC jl];exact fin g e)
end
theorem kh{α:Type}{l:List α}{i j:Nat}{x y:α}(h:(l.set i x)[j]?=some y):(i=j/\i<l.length/\y=x)\/(i≠j/\l[j]?=some y):=by
 rw[wx] at h;split at h
 ·rename_i o4;split at h
  ·rename_i hl;exact .inl ⟨o4,hl,(iC h).symm⟩
  ·cases h
 ·rename_i o4;exact .inr ⟨o4,h⟩
section
variable {K:gQ}{T:AP'}{σ:L2.St}{δ δ1:Dn}{H H1:Hp}{x:D×Bool}{v:V}{i:Nat}
theorem OwnI.store{j:Nat}{a:gm}(h:OwnI (σ.set i (some v)) (δ.set i (some x)) j a):(i≠j/\OwnI σ δ j a)\/(i=j/\x.2=true/\v= .ref a):=by
 obtain⟨d,h1,h2⟩:=h;rcases kh h1 with⟨e,_,q⟩|⟨ne,q⟩
 ·rcases kh h2 with⟨_,_,q2⟩|⟨ne2,_⟩
  ·right;cases q;exact⟨e,rfl,(iC q2).symm⟩
  ·exact absurd e ne2
 ·rcases kh h2 with⟨e2,_,_⟩|⟨_,q2⟩
  ·exact absurd e2 ne
  ·exact .inl ⟨ne,d,q,q2⟩
theorem OwnA.store(h:OwnA (σ.set i (some v)) (δ.set i (some x)) a):OwnA σ δ a\/(x.2=true/\v= .ref a):=by
 obtain⟨j,d,h1,h2⟩:=h;rcases OwnI.store ⟨d,h1,h2⟩ with⟨_,e,h3,h4⟩|⟨_,h3⟩
 ·exact .inl ⟨j,e,h3,h4⟩
 ·exact .inr h3
theorem ER.store(E1:ER K H1 (Tmp T x v) σ δ1)(hi:i<δ1.length)(hx:match x with|(d,false)=>Rep K H1 (fun a=>OwnA σ δ1 a\/T a) d v|(d,true)=> ∃p,v= .ref p/\ ¬T p/\OwnOk K H1 (fun a=>OwnA σ δ1 a\/T a\/a=p) d p):
  ER K H1 T (σ.set i (some v)) (δ1.set i (some x)):=by
 have hσ:i<σ.length:=by rw[E1.len];exact hi
 have sub: ∀b,H1 b≠none->(OwnA (σ.set i (some v)) (δ1.set i (some x)) b\/T b)->(OwnA σ δ1 b\/Tmp T x v b):=fun b _ z=>by
  rcases z with z|z
  ·rcases z.store with z|z
   ·exact .inl z
   ·exact .inr (.inr z)
  ·exact .inr (.inl z)
 refine⟨by rw[pN,pN];exact E1.len,fun j d hj=>?_,fun j d hj=>?_,fun j k d e a hj hk h1 h2=>?_,fun a z=>?_,fun a z=>E1.dom a (.inl z)⟩
 ·rcases kh hj with⟨rfl,_,q⟩|⟨ne,q⟩
  ·have q:=iC q;subst q
   exact⟨v,lJ hσ,Rep.mono (fun _ _ e _=>e) (fun b hb z=>by
    rcases z with z|z
    ·rcases z.store with z|z
     ·exact .inl z
     ·exact absurd z.1 (by simp)
    ·exact .inr z) hx⟩
  ·obtain⟨w,h1,h2⟩:=E1.val j d q;exact⟨w,by rw[mQ ne];exact h1,Rep.mono (fun _ _ e _=>e) sub h2⟩
 ·rcases kh hj with⟨rfl,_,q⟩|⟨ne,q⟩
  ·have q:=iC q;subst q;obtain⟨p,rfl,np,ok⟩:=hx;refine⟨p,lJ hσ,ok.mono (fun _ _ e _=>e) (fun b hb z=>?_) fun _ e=>e⟩;rcases z with z|z
   ·rcases z.store with z|z
    ·exact .inl z
    ·have:=z.2;cases this;exact .inr (.inr rfl)
   ·exact .inr (.inl z)
  ·obtain⟨a,h1,h2⟩:=E1.own j d q;exact⟨a,by rw[mQ ne];exact h1,h2.mono (fun _ _ e _=>e) sub fun _ e=>e⟩
 ·rcases OwnI.store ⟨d,hj,h1⟩ with⟨n1,d',g1,g2⟩|⟨e1,g1,g2⟩
  ·rcases OwnI.store ⟨e,hk,h2⟩ with⟨n2,e',g3,g4⟩|⟨e2,g3,g4⟩
   ·exact E1.inj j k d' e' a g1 g3 g2 g4
   ·exact absurd (Or.inr ⟨g3,g4⟩) (E1.nT a ⟨j,d',g1,g2⟩)
  ·rcases OwnI.store ⟨e,hk,h2⟩ with⟨n2,e',g3,g4⟩|⟨e2,g3,g4⟩
   ·exact absurd (Or.inr ⟨g1,g2⟩) (E1.nT a ⟨k,e',g3,g4⟩)
   ·exact e1.symm.trans e2
 ·rcases z.store with z|z
  ·exact fun t=>E1.nT a z (.inl t)
  ·obtain⟨d,b⟩:=x
   cases b with
   |false=>exact absurd z.1 (by simp)
   |true=>
    obtain⟨p,rfl,np,_⟩:=hx;have:=z.2;cases this;exact np
theorem SK.store(k:Keep σ δ H δ1 H1)(ha:A i)(hp:x.2=true-> ∀p,v= .ref p->H p=none):SK A σ δ H (σ.set i (some v)) (δ1.set i (some x)) H1 where
 kp:=k.kp
 owi:=fun j a z=>by
  rcases z.store with⟨_,z⟩|⟨_,z1,z2⟩
  ·exact .inl (k.owi j a z)
  ·exact .inr (hp z1 a z2)
 dm:=k.dm
 as:=fun j hj=>mQ (fun(e:i=j)=>hj (by subst e;exact ha))
end
section
variable {X:Cx}{A L:iu}{H0:Hp}{fe:F}{e c:gx}{pos pos':Pos}
theorem tf{K:gQ}{T:AP'}{σ:L2.St}{δ δ1:Dn}{H H1:Hp}{r:D×Bool}{v:V}{i:Nat}(E:ER K H T σ δ)(P:Post K T σ δ H r δ1 v H1)(hi:i<δ1.length)(ha:A i):
  SK A σ δ H (σ.set i (some v)) (δ1.set i (some r)) H1/\ER K H1 T (σ.set i (some v)) (δ1.set i (some r)):=by
 have hp:r.2=true-> ∀p,v= .ref p->H p=none:=fun h p hv=>by
  obtain⟨d,o⟩:=r
  cases o with
  |false=>cases h
  |true=>obtain⟨q,h1,h2,_⟩:=P.2;rw[hv] at h1;cases h1;exact h2
 refine⟨SK.store P.1 ha hp,ER.store (P.er E) hi ?_⟩;obtain⟨d,o⟩:=r
 cases o with
 |false=>exact P.2.2
 |true=>
  obtain⟨p,rfl,h2,h3,h4⟩:=P.2;exact⟨p,rfl,fun z=>(E.dom p z).ne h2,h4⟩
theorem LZ{i:Nat}{x:Str}(hN:X.N.Nodup)(hi:X.N[i]?=some x)(hx:Loc X.env.scope x)(he:PX X e fe)(hs:swapsWith e (some (.Name x pos')) pos.line X.env=pure false)(hf:X.fn x=true\/X.env.scope.names.lookup x=some .local)(ha:A i):
  PSX X A L H0 (.Assign [.Name x pos'] e pos) (jh i fe):=PS.imp' (Jn hN hi hx he hs hf) fun D σ H hw=>by
 obtain⟨δ,T,out,E,fi,e,k⟩:=hw;obtain⟨⟨r,δ1⟩,h3,e⟩:=gk e;obtain⟨hi,rfl⟩:=gY e;refine⟨δ,T,r,δ1,E,h3,fun v H1 P=>?_⟩;obtain⟨h1,h2⟩:=tf (A:=A) E P hi ha;exact k _ H1 h1 h2
theorem D4{i:Nat}{x:Str}(hN:X.N[i]?=some x)(hv:Vis X.env.scope x)(hd:(x==("__debug__":Str))=false)(r9:(x==("__classdict__":Str))=false)(hl: ¬L i):PSX X A L H0 (.Return (some (.Name x pos')) pos) (qA i):=PS.imp' (Jo (xq hN hv hd r9)) fun D σ H hw=>by
 obtain⟨δ,T,out,E,fi,e,k⟩:=hw;unfold qA at e
 cases hi:δ[i]? with
 |none=>rw[hi] at e;cases e
 |some q=>
  cases q with
  |none=>rw[hi] at e;cases e
  |some p=>
   obtain⟨d,b⟩:=p;have hil:i<δ.length:=(pQ.mp hi).1
   cases b with
   |false=>
    rw[hi] at e;cases e;obtain⟨v,h1,h2⟩:=E.val i d hi;exact⟨v,h1,k v σ H .refl ⟨E,h2⟩⟩
   |true=>
    rw[hi] at e;cases e;obtain⟨a,h1,h2⟩:=E.own i d hi
    have gone: ∀j b,OwnI σ (δ.set i none) j b->i≠j/\OwnI σ δ j b:=fun j b ⟨d',g1,g2⟩=>by
     rcases kh g1 with⟨_,_,q⟩|⟨ne,q⟩
     ·cases q
     ·exact⟨ne,d',q,g2⟩
    have goneA: ∀b,OwnA σ (δ.set i none) b->OwnA σ δ b/\b≠a:=fun b ⟨j,d',g1,g2⟩=>by
     obtain⟨ne,d2,g3,g4⟩:=gone j b ⟨d',g1,g2⟩;exact⟨⟨j,d2,g3,g4⟩,fun z=>ne (by subst z;exact E.inj i j d d2 _ hi g3 h1 g4)⟩
    have ha:OwnA σ δ a:=⟨i,d,hi,h1⟩
    have sub: ∀b,H b≠none->(OwnA σ (δ.set i none) b\/(T b\/b=a))->(OwnA σ δ b\/T b):=fun b _ z=>by
     rcases z with z|z|z
     ·exact .inl (goneA b z).1
     ·exact .inr z
     ·subst z;exact .inl ha
    refine⟨.ref a,h1,k (.ref a) σ H ⟨fun _ _ e _=>e,fun j b z=> .inl (gone j b z).2,fun _ z=>z,fun _ _=>rfl⟩ ⟨a,rfl,?_,?_,h2.mono (fun _ _ e _=>e) sub fun _ e=>e⟩⟩
    ·rcases fi.ow i a ⟨d,hi,h1⟩ with z|z
     ·exact absurd z hl
     ·exact z
    ·refine⟨by rw[pN];exact E.len,fun j d' hj=>?_,fun j d' hj=>?_,fun j k d' e' b hj hk g1 g2=>?_,fun b z t=>?_,fun b z=>?_⟩
     ·rcases kh hj with⟨_,_,q⟩|⟨ne,q⟩
      ·cases q
      ·obtain⟨w,w1,w2⟩:=E.val j d' q;exact⟨w,w1,Rep.mono (fun _ _ e _=>e) sub w2⟩
     ·rcases kh hj with⟨_,_,q⟩|⟨ne,q⟩
      ·cases q
      ·obtain⟨w,w1,w2⟩:=E.own j d' q;exact⟨w,w1,w2.mono (fun _ _ e _=>e) sub fun _ e=>e⟩
     ·obtain⟨_,d2,q1,q2⟩:=gone j b ⟨d',hj,g1⟩;obtain⟨_,d3,q3,q4⟩:=gone k b ⟨e',hk,g2⟩;exact E.inj j k d2 d3 b q1 q3 q2 q4
     ·obtain⟨z1,z2⟩:=goneA b z;rcases t with t|t
      ·exact E.nT b z1 t
      ·exact z2 t
     ·rcases z with z|z
      ·exact E.dom b z
      ·subst z;exact E.ownOw ha
end
abbrev Tg:=D->Dn->Option Dn
def tG(K:gQ)(A:iu)(tg:Tg):TG:=fun v σ H Q=> ∃δ T d δ',ER K H T σ δ/\Rep K H (fun a=>OwnA σ δ a\/T a) d v/\tg d δ=some δ'/\ ∀σ',SK A σ δ H σ' δ' H->ER K H T σ' δ'->Q σ' H
def PGX(X:Cx)(A:iu)(e:gx)(tg:Tg):Prop:=PG X e (tG X.K A tg)
noncomputable def gW(i:Nat):Tg:=fun d δ=>if i<δ.length then some (δ.set i (some (d,false))) else none
section
variable {X:Cx}{A:iu}{pos:Pos}{e:gx}{es:jf}{t:Tg}{ts:List Tg}
theorem PG.imp'{t t':TG}(h:PG X e t)(k: ∀v σ H Q,t' v σ H Q->t v σ H Q):PG X e t':=fun pins s σ H v u Q I r hw=>h pins s σ H v u Q I r (k v σ H Q hw)
theorem JA{i:Nat}{x:Str}(hN:X.N.Nodup)(hi:X.N[i]?=some x)(hx:Loc X.env.scope x)(hf:X.fn x=true\/X.env.scope.names.lookup x=some .local)(ha:A i):PGX X A (.Name x pos) (gW i):=PG.imp' (Mb hN hi hx hf) fun v σ H Q hw=>by
 obtain⟨δ,T,d,δ',E,r,e,k⟩:=hw;obtain⟨hi,rfl⟩:=gY e;obtain⟨h1,h2⟩:=tf (A:=A) (r:=(d,false)) (v:=v) E (Post.val .refl E r) hi ha;exact k _ h1 h2
end
abbrev SB:=Nat->Prop
def OwB(B:SB)(T:AP')(σ:L2.St)(δ:Dn):AP':=fun a=>(∃i,¬B i/\OwnI σ δ i a)\/T a
theorem OwB.own(h:OwB B T σ δ a):OwnA σ δ a\/T a:=h.imp (fun⟨i,_,d,h1,h2⟩=>⟨i,d,h1,h2⟩) id
structure ItOk(K:gQ)(J:It)(ds:List D)(P O:AP')(H1:Hp):Prop where
 go: ∀(i:Nat) d Hi,ds[i]?=some d->(∀a o,H1 a=some o-> ¬P a->Hi a=some o)->J.go i Hi/\ ∀x H',J.yld i Hi x H'->(∀a o,Hi a=some o->H' a=some o)/\
  ∀O':AP',(∀b,H1 b≠none->O' b->O b)->(∀b,Hi b=none-> ¬O' b)->Rep K H' O' d x
 stop: ∀(i:Nat) Hi,ds.length<=i->(∀a o,H1 a=some o-> ¬P a->Hi a=some o)->J.stop i Hi
abbrev FIt:=Dn->Option (List D×Dn)
def tI(K:gQ)(B:SB)(fi:FIt):TI:=fun σ H R=> ∃δ T ds δ',ER K H T σ δ/\fi δ=some (ds,δ')/\ ∀J H',Keep σ δ H δ' H'->ER K H' T σ δ'->ItOk K J ds (OwB B T σ δ') (fun a=>OwnA σ δ' a\/T a) H'->R J H'
def PIX(X:Cx)(B:SB)(tg iter:gx)(fi:FIt):Prop:=PI X tg iter (tI X.K B fi)
noncomputable def BJ:D->Option (List D)
 | .tup l=>some l
 | .lst l=>some l
 |_=>none
noncomputable def xS(f:FO):FIt:=fun δ=>(f δ).bind fun p=>(res p.2 p.1).bind fun d=>(BJ d).bind fun l=>some (l,p.2)
noncomputable def jT(f:F):FIt:=fun δ=>(f δ).bind fun p=>match p.1.1 with
 | .lst l=>some (l,p.2)
 | .tup l=>some (l,p.2)
 |_=>none
noncomputable def iH(lo:Int)(n:Nat):List D:=(List.range n).map fun(k:Nat)=> .int (lo+k)
noncomputable def AR(f:FO):FIt:=fun δ=>(ja [f] δ).bind fun p=>match tH p.2 p.1 with
 |some [.int j]=>if -(2^62)<=j/\j<2^62 then some (iH 0 j.toNat,p.2) else none
 |_=>none
def SlB(B:SB)(f:FO):Prop:= ∀δ i δ',f δ=some (.slot i,δ')->B i
theorem Lk:SlB B (gq f):=fun δ i δ' h=>by
 obtain⟨p,_,h⟩:=gk h;cases h
theorem Lj(h:B i):SlB B (gn i):=fun δ j δ' e=>by
 unfold gn at e;split at e<;>cases e
 exact h
noncomputable def isL:D->Bool
 | .lst _=>true
 |_=>false
def SqA(b:Bool)(K:gQ)(H:Hp)(P:AP')(a:gm)(xs:List V):Prop:=if b=true then SqLO K H P a xs else SqTO K H P a xs
theorem SqA.mono{K H H'}{P P':AP'}(q:SqA b K H P a xs)(k: ∀b o,H b=some o-> ¬P b->H' b=some o)(hP: ∀b,P' b->P b):SqA b K H' P' a xs:=by
 cases b with
 |true=>exact SqLO.mono q k fun b _=>hP b
 |false=>exact SqTO.mono (K:=K) q k fun b _=>hP b
theorem SqA.l{K H}(q:SqA true K H P a xs):SqL K H a xs:=SqLO.sq q
theorem SqA.t{K H}(q:SqA false K H P a xs):SqT K H a xs:=SqTO.sq (K:=K) q
theorem GI{K H}(h:BJ d=some l)(r:Rep K H O d v): ∃a xs,v= .ref a/\SqA (isL d) K H O a xs/\RepL K H O l xs:=by
 cases d with
 |tup m=>cases h;obtain⟨a,xs,rfl,q,rr⟩:=r.tup;exact⟨a,xs,rfl,q,rr⟩
 |lst m=>cases h;obtain⟨a,xs,rfl,q,rr⟩:=r.lst;exact⟨a,xs,rfl,q,rr⟩
 |_=>cases h
theorem Ops.seq{K:gQ}{T T':AP'}{σ:L2.St}{δ δ':Dn}{H H':Hp}{os:List Opd}{vs:List V}(E:ER K H T σ δ)(W:Ops K T σ δ H os vs δ' H' T'){j:Nat}(h1:os[j]?=some o)(h2:vs[j]?=some v)(hr:res δ' o=some d)(hs:BJ d=some l)(hB: ∀i,o= .slot i->B i):
  ∃a xs,v= .ref a/\SqA (isL d) K H' (OwB B T σ δ') a xs/\RepL K H' (fun a=>OwnA σ δ' a\/T a) l xs:=by
 have fin:Rep K H' (fun a=>OwnA σ δ' a\/T a) d v-> ∃a xs,v= .ref a/\SqA (isL d) K H' (OwB B T σ δ') a xs/\RepL K H' (fun a=>OwnA σ δ' a\/T a) l xs:=fun r=>by
  obtain⟨a,xs,rfl,q,rr⟩:=GI hs r;exact⟨a,xs,rfl,q.mono (fun _ _ e _=>e) fun a z=>z.own,rr⟩
 cases o with
 |val r=>cases hr;exact fin (W.rep E h1 h2)
 |slot i=>
  have hk:=W.slt j i _ h1 h2
  have hd: ∃f,δ'[i]?=some (some (d,f)):=by
   unfold res at hr;dsimp only at hr;split at hr<;>cases hr
   exact⟨_,by assumption⟩
  obtain⟨f,hd⟩:=hd
  cases f with
  |false=>
   obtain⟨w,e1,e2⟩:=W.er.val i _ hd;rw[hk] at e1;cases e1;exact fin (Rep.mono (fun _ _ e _=>e) (fun b _ z=>z.imp id (W.tt b)) e2)
  |true=>
   obtain⟨a,e1,ok⟩:=W.er.own i _ hd;rw[hk] at e1;cases e1
   cases d with
   |lst m=>
    cases hs;obtain⟨xs,e,rr⟩:=ok;exact⟨a,xs,rfl,.inl ⟨.inl e,fun z=>z.elim (fun⟨k,nb,d',g1,g2⟩=>nb (W.er.inj i k _ _ a hd g1 hk g2▸hB i rfl)) fun z=>W.er.nT a ⟨i,_,hd,hk⟩ (W.tt a z)⟩,RepL.mono (fun _ _ e _=>e) (fun b _ z=>z.imp id (W.tt b)) rr⟩
   |tup m=>exact ok.elim
   |_=>cases hs
section
variable {X:Cx}{B:SB}{tg e:gx}{f:F}{fo:FO}{pos p:Pos}
theorem PI.imp'(h:PI X tg e t)(k: ∀σ H R,t' σ H R->t σ H R):PI X tg e t':=fun pins s σ H R I hw=>h pins s σ H R I (k σ H R hw)
theorem PI.or(h:PI X tg e t)(h':PI X tg e t'):PI X tg e (fun σ H R=>t σ H R\/t' σ H R):=fun pins s σ H R I hw=>hw.elim (h pins s σ H R I) (h' pins s σ H R I)
noncomputable def ItS(b:Bool)(K:gQ)(a:gm):It:=if b=true then Itl K a else Itt K a
theorem Kb{K:gQ}{P O:AP'}{H1:Hp}{a:gm}{xs:List V}{l:List D}(q:SqA b K H1 P a xs)(r:RepL K H1 O l xs)(hP: ∀a,P a->O a):ItOk K (ItS b K a) l P O H1:=by
 cases b<;>(
  refine⟨fun i d Hi hd hp=>?_,fun i Hi hi hp=>?_⟩
  ·have q2:=SqA.mono q hp fun _ z=>z
   first|replace q2:=q2.l|replace q2:=q2.t
   obtain⟨x,hx,rx⟩:=r.get hd;refine⟨⟨xs,x,q2,hx⟩,fun y H' hy=>?_⟩;obtain⟨rfl,hy⟩:=hy;have:=hy xs q2;rw[hx] at this;cases this;exact⟨fun _ _ e=>e,fun O' h1 h2=>Rep.mono (fun b o e n=>hp b o e fun z=>n (hP b z)) h1 rx⟩
  ·exact⟨xs,by first|exact(SqA.mono q hp fun _ z=>z).l|exact(SqA.mono q hp fun _ z=>z).t,by rw[r.length];exact hi⟩)
theorem Ex{K:gQ}{P O:AP'}{H1:Hp}(lo:Int)(n:Nat):ItOk K (Itr lo n) (iH lo n) P O H1:=by
 refine⟨fun i d Hi hd hp=>?_,fun i Hi hi hp=>?_⟩
 ·unfold iH at hd;rw[iO] at hd;obtain⟨k,h1,h2⟩:=hZ hd;have hi:i<n:=by have:=(pQ.mp h1).1;simpa using this
  have hk:k=i:=by rw[List.getElem?_range hi] at h1;exact(iC h1).symm
  subst hk;refine⟨hi,fun y H' hy=>?_⟩;obtain⟨rfl,rfl⟩:=hy;refine⟨fun _ _ e=>e,fun O' _ _=>?_⟩;rw[<-h2];exact Rep.mkInt
 ·unfold iH at hi;have:n<=i:=by simpa using hi
  exact this
theorem BW(h:PO X e fo)(hB:SlB B fo):PIX X B tg e (xS fo):=PI.imp' (PI.or (Ma (tg:=tg) h) (OE h)) fun σ H R hw=>by
 obtain⟨δ,T,ds,δ',E,e,k⟩:=hw;obtain⟨⟨o,δ1⟩,h1,e⟩:=gk e;obtain⟨d,h2,e⟩:=gk e;obtain⟨l,h3,e⟩:=gk e;obtain⟨rfl,rfl⟩:=gJ e
 have key: ∀v H1,PostO X.K T σ δ H o δ1 v H1-> ∃a xs,v= .ref a/\SqA (isL d) X.K H1 (OwB B T σ δ1) a xs/\R (ItS (isL d) X.K a) H1:=fun v H1 P=>by
  have W:=Ops.cons E P (Ops.nil (P.er E));obtain⟨a,xs,rfl,q,rr⟩:=W.seq E (j:=0) rfl rfl h2 h3 fun i hi=>hB _ _ _ (hi▸h1);exact⟨a,xs,rfl,q,k _ H1 W.keep (W.er.mono (fun _ _ e _=>e) (fun b _ z=>W.tt b z) (fun a z=>W.er.dom a (W.tt a z))) (Kb q rr fun a z=>z.own)⟩
 cases d with
 |lst m=>exact .inl ⟨δ,T,_,_,E,h1,fun v H1 P=>let⟨a,xs,e,q,r⟩:=key v H1 P;⟨a,e,⟨xs,q.l⟩,r⟩⟩
 |tup m=>exact .inr ⟨δ,T,_,_,E,h1,fun v H1 P=>let⟨a,xs,e,q,r⟩:=key v H1 P;⟨a,e,⟨xs,q.t⟩,r⟩⟩
 |_=>cases h3
theorem L7(h:PX X e f):PIX X B tg e (jT f):=PI.imp' (BW (B:=B) (PX.po h) Lk) fun σ H R hw=>by
 have:jT f=xS (gq f):=funext fun δ=>by
  unfold jT xS gq
  cases f δ with
  |none=>rfl
  |some p=>obtain⟨⟨d,o⟩,δ1⟩:=p;cases d<;>rfl
 rwa [this] at hw
end
noncomputable def tV(tg:Tg)(fb:FS):List D->FS
 |[],δ=>some (.nx δ)
 |d::ds,δ=>(tg d δ).bind fun δ1=>(fb δ1).bind fun o=>match o with
  | .nx δ2=>tV tg fb ds δ2
  | .ct δ2=>tV tg fb ds δ2
  | .bk δ2=>some (.nx δ2)
  | .rt r δ2=>some (.rt r δ2)
noncomputable def tE(fi:FIt)(tg:Tg)(fb:FS):FS:=fun δ=>(fi δ).bind fun p=>tV tg fb p.1 p.2
section
variable {X:Cx}{A L:iu}{H0:Hp}{tg iter:gx}{body:List Stmt}{fi:FIt}{t:Tg}{fb:FS}{pos:Pos}
theorem L5(hp:PassesOwn (model X.prog X.w) X.A X.env X.xe)(hc:X.calm=true)(hi:PIX X (fun _=>False) tg iter fi)(hg:PGX X A tg t)(hb:yI X A L H0 body fb)(hs: ∀x,foldedSetIterable iter X.env x=pure x):
  PSX X A L H0 (.For tg iter body [] pos) (tE fi t fb):=PS.imp' (Jq hp hc hi hg hb hs) fun D σ H hw=>by
 obtain⟨δ,T,out,E,gc,e,k⟩:=hw;obtain⟨⟨ds,δ1⟩,h1,e⟩:=gk e;refine⟨δ,T,ds,δ1,E,h1,fun J H1 K1 E1 ok=>?_⟩;have S1:SK A σ δ H σ δ1 H1:=K1.sk;refine⟨fun i m σ' H'=>m=ds.length-i/\i<=ds.length/\ ∃δ',SK A σ δ1 H1 σ' δ' H'/\ER X.K H' T σ' δ'/\tV t fb (ds.drop i) δ'=some out,⟨ds.length,by simp,lI _,δ1,.refl,E1,by simpa using e⟩,?_⟩;rintro i m σ2 H2 ⟨rfl,hle,δ2,S2,E2,e2⟩;have t6: ∀a o,H1 a=some o-> ¬OwB (fun _=>False) T σ δ1 a->H2 a=some o:=fun a o ea n=>S2.kp a o ea fun⟨i,d,z⟩=>n (.inl ⟨i,id,d,z⟩);by_cases k6:i<ds.length
 ·refine .inr ?_;have hd:ds[i]?=some ds[i]:=iM k6;obtain⟨go,yl⟩:=ok.go i _ H2 hd t6;rw[qW k6] at e2;obtain⟨δ3,h3,e3⟩:=gk e2;obtain⟨o,h4,e4⟩:=gk e3;refine⟨go,fun σ' H'=> ∃δ',SK A σ δ1 H1 σ' δ' H'/\ER X.K H' T σ' δ'/\tV t fb (ds.drop (i+1)) δ'=some out,fun σ' H' ⟨δ',q1,q2,q3⟩=>⟨ds.length-(i+1),by omega,rfl,k6,δ',q1,q2,q3⟩,fun x H' hy=>?_⟩;obtain⟨ext,rep⟩:=yl x H' hy;have bN:ER X.K H' T σ2 δ2:=E2.mono (fun b ob eb _=>ext b ob eb) (fun _ _ z=>z) (fun a z=>(E2.dom a z).up (ext a));have cR:SK A σ δ1 H1 σ2 δ2 H':=S2.trans (Keep.ext ext).sk;have rx:=rep (fun a=>OwnA σ2 δ2 a\/T a) (fun b hb z=>z.elim (fun z=>(S2.ow b z).elim Or.inl fun z=>absurd z hb) Or.inr) (fun b hb z=>z.elim (fun z=>E2.ownDom z hb) fun z=>(E2.dom b z).ne hb);refine⟨δ2,T,ds[i],δ3,bN,rx,h3,fun σ3 S3 E3=>?_⟩;have br:=cR.trans S3;refine⟨δ3,T,o,E3,(gc.step S1).step br,h4,?_⟩
  cases o with
  |nx δ4=>exact fun σ4 H4 S4 E4=>⟨δ4,br.trans S4,E4,e4⟩
  |ct δ4=>exact fun σ4 H4 S4 E4=>⟨δ4,br.trans S4,E4,e4⟩
  |bk δ4=>cases e4;exact fun σ4 H4 S4 E4=>k σ4 H4 (S1.trans (br.trans S4)) E4
  |rt r δ4=>cases e4;exact fun v σ4 H4 S4 R4=>k v σ4 H4 (S1.trans (br.trans S4)) R4
 ·refine .inl ⟨ok.stop i H2 (by omega) t6,?_⟩;rw[rP (by omega)] at e2;cases e2;exact k σ2 H2 (S1.trans S2) E2
end
noncomputable def lP(ft:FT)(fb:FS):Nat->FS
 |0,_=>none
 |n+1,δ=>(ft δ).bind fun p=>if p.1=true then(fb p.2).bind fun o=>(match o with
   | .nx δ2=>lP ft fb n δ2
   | .ct δ2=>lP ft fb n δ2
   | .bk δ2=>some (.nx δ2)
   | .rt r δ2=>some (.rt r δ2)) else some (.nx p.2)
section
variable {X:Cx}{A L:iu}{H0:Hp}{B:SB}{tg e c a b:gx}{body:List Stmt}{ft:FT}{fb:FS}{fa fo:FO}{pos p:Pos}
theorem GP{n:Nat}(hp:PassesOwn (model X.prog X.w) X.A X.env X.xe)(hc:PTX X c ft)(hb:yI X A L H0 body fb):PSX X A L H0 (.While c body [] pos) (lP ft fb n):=PS.imp' (Jm hp hc hb) fun D σ H hw=>by
 obtain⟨δ,T,out,E,gc,e,k⟩:=hw;refine⟨fun m σ' H'=> ∃δ',SK A σ δ H σ' δ' H'/\ER X.K H' T σ' δ'/\lP ft fb m δ'=some out,⟨n,δ,.refl,E,e⟩,?_⟩;rintro m σ2 H2 ⟨δ2,S2,E2,e2⟩
 cases m with
 |zero=>cases e2
 |succ m=>
  obtain⟨⟨c1,δ3⟩,h3,e3⟩:=gk e2;refine⟨δ2,T,c1,δ3,E2,h3,fun H3 K3 E3=>?_⟩;have S3:SK A σ δ H σ2 δ3 H3:=S2.trans K3.sk
  cases c1 with
  |false=>
   rw[gC jl] at e3;cases e3;exact Mx (k σ2 H3 S3 E3)
  |true=>
   rw[gz rfl] at e3;obtain⟨o,h4,e4⟩:=gk e3;refine Mw ⟨fun σ' H'=> ∃δ',SK A σ δ H σ' δ' H'/\ER X.K H' T σ' δ'/\lP ft fb m δ'=some out,fun σ' H' q=>⟨m,Dk _,q⟩,δ3,T,o,E3,gc.step S3,h4,?_⟩
   cases o with
   |nx δ4=>exact fun σ4 H4 S4 E4=>⟨δ4,S3.trans S4,E4,e4⟩
   |ct δ4=>exact fun σ4 H4 S4 E4=>⟨δ4,S3.trans S4,E4,e4⟩
   |bk δ4=>cases e4;exact fun σ4 H4 S4 E4=>k σ4 H4 (S3.trans S4) E4
   |rt r δ4=>cases e4;exact fun v σ4 H4 S4 R4=>k v σ4 H4 (S3.trans S4) R4
theorem zc{K:gQ}{T T':AP'}{σ:L2.St}{δ δ':Dn}{H H':Hp}{os:List Opd}{vs:List V}{ds:List D}(B:Ops K T σ δ H os vs δ' H' T')(h:tH δ' os=some ds){j:Nat}{i:Int}(hd:ds[j]?=some (.int i)):vs[j]?=some (.int i):=by
 obtain⟨h1,h2⟩:=mU h;obtain⟨o,h3,h4⟩:=h2 j _ hd;have hj:j<vs.length:=by have:=(pQ.mp h3).1;have:=B.len;omega
 have hv:vs[j]?=some vs[j]:=iM hj;have:=gS (B.view h3 hv h4);rw[hv,this]
theorem D7(hg:Gl X "range")(hm:X.mg "range"=none)(ha:PA X [a] (tA X.K [fa]))(hs:starEach [a] X.env=[(false,eval a X.env)]):PIX X B tg (.Call (.Name "range" p) [a] [] pos) (AR fa):=PI.imp' (GW hg hm ha hs) fun σ H R hw=>by
 obtain⟨δ,T,ds,δ',E,e,k⟩:=hw;obtain⟨⟨os,δ1⟩,h1,e⟩:=gk e;refine⟨δ,T,os,δ1,E,h1,fun vs H1 T1 B=>?_⟩;dsimp only at e;split at e
 ·rename_i j hj;obtain⟨⟨c1,c2⟩,e⟩:=gY e;obtain⟨rfl,rfl⟩:=sJ e;have hv:=zc B hj (j:=0) rfl;obtain⟨hl,_⟩:=mU hj
  have:vs=[.int j]:=by
   have hlen:=B.len
   cases vs with
   |nil=>simp at hv
   |cons v r=>
    cases r with
    |nil=>simp at hv;rw[hv]
    |cons _ _=>simp at hl hlen;omega
  exact⟨j,this,c1,c2,k _ H1 B.keep (B.er.mono (fun _ _ e _=>e) (fun b _ z=>B.tt b z) (fun a z=>B.er.dom a (B.tt a z))) (Ex 0 j.toNat)⟩
 ·cases e
end
abbrev EvF:=List (D×Bool)->Option ((D×Bool)×Dn)
def spF(K:gQ)(ev:EvF):Sp:=fun vs H Q _=> ∃T args r outs,ER K H T (vs.map some) (args.map some)/\ev args=some (r,outs)/\ ∀v H',Post K T (vs.map some) (args.map some) H r outs v H'->Q v H'
noncomputable def hE(args:List (D×Bool))(δ:Dn):Dn:=args.zipIdx.map fun p=>if p.1.2=true then(δ[p.2]?).join else some p.1
noncomputable def evF(n np:Nat)(asg:hJ)(f:FS):EvF:=fun args=>
 if args.length=np/\np<=n/\(args.zipIdx.all fun p=>!(p.1.2&&asg.contains p.2))=true then
  match f (args.map some++List.replicate (n-np) none) with
  |some (.rt r δ)=>some (r,hE args δ)
  |some (.nx δ)=>some ((.non,false),hE args δ)
  |_=>none
 else none
theorem JK(args:List (D×Bool))(δ:Dn)(i:Nat):(hE args δ)[i]?=args[i]?.map fun x=>if x.2=true then(δ[i]?).join else some x:=by
 unfold hE;rw[iO,HY]
 cases args[i]? with
 |none=>rfl
 |some x=>simp
theorem mI(h:x.join=some p):x=some (some p):=by
 cases x with
 |none=>cases h
 |some y=>exact oj some h
section
variable {K:gQ}{T:AP'}{A:iu}{vs:List V}{args:List (D×Bool)}{H H':Hp}{m:Nat}{σ':L2.St}{δ':Dn}{r:D×Bool}{v:V}
theorem Bi{α:Type}{xs:List α}{m i:Nat}{y:α}:(xs.map some++List.replicate m none)[i]?=some (some y)↔xs[i]?=some y:=by
 by_cases h:i<xs.length
 ·rw[wD (by simpa using h),iO];cases xs[i]?<;>simp
 ·rw[uK (by simpa using h)];constructor
  ·intro e;rw[sM] at e;split at e<;>cases e
  ·intro e;exact absurd (pQ.mp e).1 h
theorem qH{α:Type}{xs:List α}{i:Nat}{y:α}:(xs.map some)[i]?=some (some y)↔xs[i]?=some y:=by
 rw[iO];cases xs[i]?<;>simp
theorem HC{i:Nat}{a:gm}:OwnI (vs.map some++List.replicate m none) (args.map some++List.replicate m none) i a↔OwnI (vs.map some) (args.map some) i a:=by
 unfold OwnI;simp only[Bi,qH]
theorem B6:OwnA σ δ a↔ ∃i,OwnI σ δ i a:=Iff.rfl
theorem GY:OwnA (vs.map some++List.replicate m none) (args.map some++List.replicate m none) a↔OwnA (vs.map some) (args.map some) a:=by
 rw[B6,B6];exact exists_congr fun i=>HC
theorem ER.pad(E:ER K H T (vs.map some) (args.map some)):ER K H T (vs.map some++List.replicate m none) (args.map some++List.replicate m none):=by
 have len:vs.length=args.length:=by simpa using E.len
 refine⟨by simp[len],fun i d h=>?_,fun i d h=>?_,fun i j d e a h1 h2 h3 h4=>?_,fun a z=>E.nT a (GY.mp z),E.dom⟩
 ·obtain⟨w,w1,w2⟩:=E.val i d (qH.mpr (Bi.mp h));exact⟨w,Bi.mpr (qH.mp w1),Rep.mono (fun _ _ e _=>e) (fun b _ z=>z.imp GY.mp id) w2⟩
 ·obtain⟨w,w1,w2⟩:=E.own i d (qH.mpr (Bi.mp h));exact⟨w,Bi.mpr (qH.mp w1),w2.mono (fun _ _ e _=>e) (fun b _ z=>z.imp GY.mp id) fun _ e=>e⟩
 ·exact E.inj i j d e a (qH.mpr (Bi.mp h1)) (qH.mpr (Bi.mp h2)) (qH.mpr (Bi.mp h3)) (qH.mpr (Bi.mp h4))
theorem FN{T':AP'}(E:ER K H T (vs.map some) (args.map some))(S:SK A (vs.map some++List.replicate m none) (args.map some++List.replicate m none) H σ' δ' H')(hA: ∀(i:Nat) d,args[i]?=some (d,true)-> ¬A i)
  (E':ER K H' T' σ' δ')(hT: ∀b,H b≠none->T' b->T b):ER K H' T' (vs.map some) (hE args δ')/\(∀b,OwnA (vs.map some) (hE args δ') b->OwnA σ' δ' b)/\Keep (vs.map some) (args.map some) H (hE args δ') H':=by
 have len:vs.length=args.length:=by simpa using E.len
 have here: ∀(i:Nat) d w,args[i]?=some (d,true)->vs[i]?=some w->σ'[i]?=some (some w):=fun i d w h1 h2=>by
  rw[S.as i (hA i d h1)];exact Bi.mpr h2
 have outI: ∀(i:Nat) d b,(hE args δ')[i]?=some (some (d,b))->(∃e,args[i]?=some (e,true)/\δ'[i]?=some (some (d,b)))\/(b=false/\args[i]?=some (d,false)):=fun i d b h=>by
  rw[JK] at h;obtain⟨⟨e,c⟩,h1,h2⟩:=hZ h
  cases c with
  |true=>
   left;exact⟨e,h1,mI (by simpa using h2)⟩
  |false=>
   right;have:some (e,false)=some (d,b):=by simpa using h2
   cases this;exact⟨rfl,h1⟩
 have aU: ∀i a,OwnI (vs.map some) (hE args δ') i a->OwnI σ' δ' i a/\OwnI (vs.map some) (args.map some) i a:=fun i a ⟨d,h1,h2⟩=>by
  rcases outI i d true h1 with⟨e,h3,h4⟩|⟨z,_⟩
  ·exact⟨⟨d,h4,here i e _ h3 (qH.mp h2)⟩,⟨e,qH.mpr h3,h2⟩⟩
  ·cases z
 have aD: ∀b,OwnA (vs.map some) (hE args δ') b->OwnA σ' δ' b:=fun b ⟨i,d,h1,h2⟩=>by
  obtain⟨⟨e,q1,q2⟩,_⟩:=aU i b ⟨d,h1,h2⟩;exact⟨i,e,q1,q2⟩
 have owA2: ∀b,OwnA (vs.map some) (hE args δ') b->OwnA (vs.map some) (args.map some) b:=fun b ⟨i,d,h1,h2⟩=>by
  obtain⟨_,⟨e,q1,q2⟩⟩:=aU i b ⟨d,h1,h2⟩;exact⟨i,e,q1,q2⟩
 have kp: ∀a o,H a=some o-> ¬OwnA (vs.map some) (args.map some) a->H' a=some o:=fun a o e n=>S.kp a o e fun z=>n (GY.mp z);refine⟨⟨?_,fun i d h=>?_,fun i d h=>?_,fun i j d e a h1 h2 h3 h4=>?_,fun a z=>E'.nT a (aD a z),E'.dom⟩,aD,⟨kp,fun i a z=>(aU i a z).2,S.dm⟩⟩
 ·simp[hE,len]
 ·have hi:i<vs.length:=by
   have:=(pQ.mp h).1;simp[hE] at this;omega
  have hv:vs[i]?=some vs[i]:=iM hi;rcases outI i d false h with⟨e,h3,h4⟩|⟨_,h3⟩
  ·obtain⟨w,w1,w2⟩:=E'.val i d h4;rw[here i e _ h3 hv] at w1;cases w1;exact⟨_,qH.mpr hv,Rep.mono (fun _ _ e _=>e) (fun b _ z=>z.imp (aD b) id) w2⟩
  ·obtain⟨w,w1,w2⟩:=E.val i d (qH.mpr h3);exact⟨w,w1,Rep.mono (fun b o e n=>kp b o e fun z=>n (.inl z)) (fun b hb z=>z.imp (owA2 b) (hT b hb)) w2⟩
 ·have hi:i<vs.length:=by
   have:=(pQ.mp h).1;simp[hE] at this;omega
  have hv:vs[i]?=some vs[i]:=iM hi;rcases outI i d true h with⟨e,h3,h4⟩|⟨z,_⟩
  ·obtain⟨w,w1,w2⟩:=E'.own i d h4;rw[here i e _ h3 hv] at w1;have w1':vs[i]=V.ref w:=by simpa using w1
   exact⟨w,by rw[<-w1'];exact qH.mpr hv,w2.mono (fun _ _ e _=>e) (fun b _ z=>z.imp (aD b) id) fun _ e=>e⟩
  ·cases z
 ·obtain⟨_,⟨d1,q1,q2⟩⟩:=aU i a ⟨d,h1,h3⟩;obtain⟨_,⟨d2,q3,q4⟩⟩:=aU j a ⟨e,h2,h4⟩;exact E.inj i j d1 d2 a q1 q3 q2 q4
theorem qK(E:ER K H T (vs.map some) (args.map some))(S:SK A (vs.map some++List.replicate m none) (args.map some++List.replicate m none) H σ' δ' H')(hA: ∀(i:Nat) d,args[i]?=some (d,true)-> ¬A i)
  (R:RV K T H r σ' δ' v H'):Post K T (vs.map some) (args.map some) H r (hE args δ') v H':=by
 obtain⟨d,b⟩:=r
 cases b with
 |false=>
  obtain⟨E',rv⟩:=R;obtain⟨E2,ow,kp⟩:=FN E S hA E' (fun _ _ z=>z);exact⟨kp,E2,Rep.mono (fun _ _ e _=>e) (fun b _ z=>z.imp (ow b) id) rv⟩
 |true=>
  obtain⟨p,rfl,hp,E',ok⟩:=R;obtain⟨E2,ow,kp⟩:=FN E S hA E' (fun b hb z=>z.elim id fun z=>by subst z;exact absurd hp hb);exact⟨kp,p,rfl,hp,E2,ok.mono (fun _ _ e _=>e) (fun b _ z=>z.imp (ow b) id) fun _ e=>e⟩
end
section
variable {P:gM}{w:gE}{K:gQ}{mg:jK}{base:gL}{N:gT}{m:Nat}{asg:hJ}{fs:FS}{vs:List V}{H:Hp}{Q:VK}{E:XK}
theorem Fo(h:spF K (evF N.length m asg fs) vs H Q E):vs.length=m:=by
 obtain⟨T,args,r,outs,E0,e,_⟩:=h;unfold evF at e;split at e
 ·rename_i hc;have:=E0.len;simp at this;rw[this];exact hc.1
 ·cases e
theorem IT(h:spF K (evF N.length m asg fs) vs H Q E): ∃L:Nat->Prop,(∀i,L i->i<m)/\tS K (fun i=>i∈asg) L H fs {nx:=fun _ H'=>Q .non H',rt:=Q} (L2.nB N vs) H:=by
 obtain⟨T,args,r,outs,E0,e,kq⟩:=h;unfold evF at e;split at e
 ·rename_i hc;obtain⟨h1,h2,h3⟩:=hc;have hlen:vs.length=args.length:=by simpa using E0.len
  refine⟨fun i=> ∃d,args[i]?=some (d,true),fun i ⟨d,hd⟩=>by have:=(pQ.mp hd).1;omega,?_⟩;have u9:L2.nB N vs=vs.map some++List.replicate (N.length-m) none:=by unfold L2.nB;rw[hlen,h1]
  have hA: ∀(i:Nat) d,args[i]?=some (d,true)-> ¬(i∈asg):=fun i d hd hm=>by
   have hz:(args.zipIdx)[i]?=some ((d,true),i):=by rw[HY,hd];simp
   have:=kZ.mp h3 _ (kF hz);simp at this;exact this hm
  rw[u9]
  have fi:FI (fun i=> ∃d,args[i]?=some (d,true)) H (vs.map some++List.replicate (N.length-m) none) (args.map some++List.replicate (N.length-m) none) H:=⟨fun i a z=>by
   obtain⟨d,q1,_⟩:=HC.mp z;exact .inl ⟨d,qH.mp q1⟩,fun _ z=>z⟩
  cases hf:fs (args.map some++List.replicate (N.length-m) none) with
  |none=>rw[hf] at e;cases e
  |some out=>
   rw[hf] at e;refine⟨_,T,out,E0.pad,fi,hf,?_⟩
   cases out with
   |rt r1 δ1=>
    obtain⟨rfl,rfl⟩:=gJ e;exact fun v σ' H' S1 R1=>kq v H' (qK E0 S1 hA R1)
   |nx δ1=>
    obtain⟨rfl,rfl⟩:=gJ e;exact fun σ' H' S1 E1=>kq .non H' (qK (r:=(.non,false)) E0 S1 hA ⟨E1,Rep.mkNon⟩)
   |bk δ1=>cases e
   |ct δ1=>cases e
 ·cases e
theorem Pl{x qual:Str}{st:Stmt}{f:gm}{fd:kR}{ps:gT}{k:Nat}(F:Fun K x qual st f fd)(S:FnScope N ps (gv st))
  (o7: ∀(f9:gy) (A:gG) (outer:List Env) (s:gu) (H:Hp) (E:XK) (L:iu),(∀i,L i->i<ps.length)->Room k (A.deeper (envOfC qual (gv st) s.heap.objs.size f f9))->
   yI (nX CX0 P w K mg base N qual (gv st) f f9 A outer s H E).nox (fun i=>i∈asg) L H (jX st) fs):FnOk P w K mg base CX0 (k+1) f fd ps (spF K (evF N.length ps.length asg fs)):=
 F.ok S (fun vs H Q E h=>Fo h) fun f9 A outer s H vs Q E hr h=>let⟨L,h1,h2⟩:=IT h;⟨_,o7 f9 A outer s H E L h1 hr,h2⟩
end
noncomputable def uk(δ:Dn):Opd->Option (D×Bool)
 | .val r=>some (r.1,false)
 | .slot i=>(δ[i]?).join
noncomputable def iR(δ:Dn):List Opd->Option (List (D×Bool))
 |[]=>some []
 |o::os=>(uk δ o).bind fun a=>(iR δ os).bind fun l=>some (a::l)
noncomputable def gP:List Opd->List (D×Bool)->List Nat
 | .slot i::os,(_,true)::as=>i::gP os as
 |_::os,_::as=>gP os as
 |_,_=>[]
noncomputable def wb:List Opd->List (D×Bool)->Dn->Dn->Dn
 | .slot i::os,(_,true)::as,o::outs,δ=>wb os as outs (δ.set i o)
 |_::os,_::as,_::outs,δ=>wb os as outs δ
 |_,_,_,δ=>δ
noncomputable def gB(ev:EvF)(fs:List FO):F:=fun δ=>(ja fs δ).bind fun p=>(iR p.2 p.1).bind fun args=>if(gP p.1 args).Nodup then(ev args).bind fun q=>some (q.1,wb p.1 args q.2 p.2) else none
theorem kQ{δ:Dn}: ∀{os:List Opd} {as:List (D×Bool)},iR δ os=some as->as.length=os.length/\ ∀(j:Nat) a,as[j]?=some a-> ∃o,os[j]?=some o/\uk δ o=some a
 |[],as,h=>by cases h;exact⟨rfl,fun j d h=>by simp at h⟩
 |o::os,as,h=>by
  unfold iR at h;obtain⟨d,h1,h⟩:=gk h;obtain⟨l,h2,h⟩:=gk h;cases h;obtain⟨h3,h4⟩:=kQ h2;refine⟨by simp[h3],fun j e he=>?_⟩
  cases j with
  |zero=>simp at he;subst he;exact⟨o,rfl,h1⟩
  |succ j=>
   obtain⟨o',q1,q2⟩:=h4 j e (by simpa using he);exact⟨o',by simpa using q1,q2⟩
theorem qF: ∀{os:List Opd} {as:List (D×Bool)} {j i:Nat} {d:D},os[j]?=some (.slot i)->as[j]?=some (d,true)->i∈gP os as
 |[],_,_,_,_,h,_=>by simp at h
 |_::_,[],_,_,_,_,h=>by simp at h
 |o::os,(e,b)::as,0,i,d,h1,h2=>by
  simp at h1 h2;obtain⟨rfl,rfl⟩:=h2;subst h1;simp[gP]
 |o::os,(e,b)::as,j+1,i,d,h1,h2=>by
  have ih:=qF (os:=os) (as:=as) (j:=j) (i:=i) (d:=d) (by simpa using h1) (by simpa using h2)
  cases o with
  |val r=>simpa[gP] using ih
  |slot k=>
   cases b with
   |true=>simp[gP,ih]
   |false=>simpa[gP] using ih
theorem zq: ∀{os:List Opd} {as:List (D×Bool)} {i:Nat},i∈gP os as-> ∃(j:Nat) (d:D),os[j]?=some (.slot i)/\as[j]?=some (d,true)
 |[],_,_,h=>by simp[gP] at h
 |o::_,[],_,h=>by cases o<;>simp[gP] at h
 |o::os,(e,b)::as,i,h=>by
  have cg:i∈gP os as-> ∃(j:Nat) (d:D),(o::os)[j]?=some (.slot i)/\((e,b)::as)[j]?=some (d,true):=fun h=>by
   obtain⟨j,d,h1,h2⟩:=zq h;exact⟨j+1,d,by simpa using h1,by simpa using h2⟩
  cases o with
  |val r=>exact cg (by simpa[gP] using h)
  |slot k=>
   cases b with
   |true=>
    simp[gP] at h;rcases h with rfl|h
    ·exact⟨0,e,rfl,rfl⟩
    ·exact cg h
   |false=>exact cg (by simpa[gP] using h)
theorem zr: ∀{os:List Opd} {as:List (D×Bool)} {j k i:Nat} {d e:D},(gP os as).Nodup->os[j]?=some (.slot i)->as[j]?=some (d,true)->os[k]?=some (.slot i)->as[k]?=some (e,true)->j=k
 |[],_,_,_,_,_,_,_,h,_,_,_=>by simp at h
 |_::_,[],_,_,_,_,_,_,_,h,_,_=>by simp at h
 |o::os,(e0,b)::as,j,k,i,d,e,nd,h1,h2,h3,h4=>by
  cases j with
  |zero=>
   cases k with
   |zero=>rfl
   |succ k=>
    simp at h1 h2;obtain⟨rfl,rfl⟩:=h2;subst h1;have:=qF (os:=os) (as:=as) (j:=k) (by simpa using h3) (by simpa using h4);simp[gP] at nd;exact absurd this nd.1
  |succ j=>
   cases k with
   |zero=>
    simp at h3 h4;obtain⟨rfl,rfl⟩:=h4;subst h3;have:=qF (os:=os) (as:=as) (j:=j) (by simpa using h1) (by simpa using h2);simp[gP] at nd;exact absurd this nd.1
   |succ k=>
    have dA:(gP os as).Nodup:=by
     cases o with
     |val r=>simpa[gP] using nd
     |slot m=>
      cases b with
      |true=>simp[gP] at nd;exact nd.2
      |false=>simpa[gP] using nd
    have:=zr (os:=os) (as:=as) (j:=j) (k:=k) dA (by simpa using h1) (by simpa using h2) (by simpa using h3) (by simpa using h4);omega
theorem wO: ∀{os:List Opd} {as:List (D×Bool)} {outs δ:Dn} {i:Nat},i∉gP os as->(wb os as outs δ)[i]?=δ[i]?
 |[],_,_,_,_,_=>by simp[wb]
 |o::_,[],_,_,_,_=>by cases o<;>simp[wb]
 |o::os,(e,b)::as,[],_,_,_=>by cases o<;>cases b<;>simp[wb]
 |o::os,(e,b)::as,x::outs,δ,i,h=>by
  cases o with
  |val r=>simp only[wb];exact wO (by simpa[gP] using h)
  |slot k=>
   cases b with
   |true=>
    simp[gP] at h;rw[wb,wO h.2,mQ (mC h.1)]
   |false=>simp only[wb];exact wO (by simpa[gP] using h)
theorem wQ: ∀{os:List Opd} {as:List (D×Bool)} {outs δ:Dn},(wb os as outs δ).length=δ.length
 |[],_,_,_=>by simp[wb]
 |o::_,[],_,_=>by cases o<;>simp[wb]
 |o::os,(e,b)::as,[],_=>by cases o<;>cases b<;>simp[wb]
 |o::os,(e,b)::as,x::outs,δ=>by
  cases o with
  |val r=>simp only[wb];exact wQ
  |slot k=>
   cases b with
   |true=>simp only[wb];rw[wQ,pN]
   |false=>simp only[wb];exact wQ
theorem Fg: ∀{os:List Opd} {as:List (D×Bool)} {outs δ:Dn} {i j:Nat} {d:D} {x:Sl},(gP os as).Nodup->os[j]?=some (.slot i)->as[j]?=some (d,true)->outs[j]?=some x->i<δ.length->(wb os as outs δ)[i]?=some x
 |[],_,_,_,_,_,_,_,_,h,_,_,_=>by simp at h
 |o::_,[],_,_,_,_,_,_,_,_,h,_,_=>by simp at h
 |o::os,(e,b)::as,[],_,_,_,_,_,_,_,_,h,_=>by simp at h
 |o::os,(e,b)::as,y::outs,δ,i,0,d,x,nd,h1,h2,h3,hi=>by
  simp at h1 h2 h3;obtain⟨rfl,rfl⟩:=h2;subst h1;subst h3;simp[gP] at nd;rw[wb,wO nd.1,lJ hi]
 |o::os,(e,b)::as,y::outs,δ,i,j+1,d,x,nd,h1,h2,h3,hi=>by
  have dA:(gP os as).Nodup:=by
   cases o with
   |val r=>simpa[gP] using nd
   |slot m=>
    cases b with
    |true=>simp[gP] at nd;exact nd.2
    |false=>simpa[gP] using nd
  cases o with
  |val r=>simp only[wb];exact Fg dA (by simpa using h1) (by simpa using h2) (by simpa using h3) hi
  |slot k=>
   cases b with
   |true=>simp only[wb];exact Fg dA (by simpa using h1) (by simpa using h2) (by simpa using h3) (by rw[pN];exact hi)
   |false=>simp only[wb];exact Fg dA (by simpa using h1) (by simpa using h2) (by simpa using h3) hi
section
variable {K:gQ}{T T1:AP'}{σ:L2.St}{δ δ1:Dn}{H H1 H':Hp}{os:List Opd}{vs:List V}{args:List (D×Bool)}{outs:Dn}{r:D×Bool}{v:V}
noncomputable def Tc(T:AP')(σ:L2.St)(δ1:Dn)(vs:List V)(args:List (D×Bool)):AP':=fun a=>T a\/(OwnA σ δ1 a/\ ¬OwnA (vs.map some) (args.map some) a)
theorem tM(B:Ops K T σ δ H os vs δ1 H1 T1)(ha:iR δ1 os=some args){j:Nat}{d:D}(h:args[j]?=some (d,true)): ∃(i:Nat) (a:gm),os[j]?=some (.slot i)/\δ1[i]?=some (some (d,true))/\vs[j]?=some (.ref a)/\σ[i]?=some (some (.ref a)):=by
 obtain⟨hl,hg⟩:=kQ ha;obtain⟨o,h1,h2⟩:=hg j _ h
 cases o with
 |val r=>cases h2
 |slot i=>
  have h3:δ1[i]?=some (some (d,true)):=mI h2;have hj:j<vs.length:=by have:=(pQ.mp h1).1;have:=B.len;omega
  have hv:vs[j]?=some vs[j]:=iM hj;have h4:=B.slt j i _ h1 hv;obtain⟨a,h5,_⟩:=B.er.own i d h3;rw[h4] at h5;have:vs[j]=V.ref a:=by simpa using h5
  exact⟨i,a,h1,h3,by rw[hv,this],by rw[h4,this]⟩
theorem zt(B:Ops K T σ δ H os vs δ1 H1 T1)(ha:iR δ1 os=some args){j:Nat}{a:gm}(h:OwnI (vs.map some) (args.map some) j a): ∃(i:Nat) (d:D),os[j]?=some (.slot i)/\args[j]?=some (d,true)/\OwnI σ δ1 i a:=by
 obtain⟨d,h1,h2⟩:=h;have h1':=qH.mp h1;obtain⟨i,b,q1,q2,q3,q4⟩:=tM B ha h1';have:=qH.mp h2;rw[q3] at this;cases this;exact⟨i,d,q1,h1',d,q2,q4⟩
theorem Ce(B:Ops K T σ δ H os vs δ1 H1 T1)(ha:iR δ1 os=some args)(h:OwnA (vs.map some) (args.map some) a):OwnA σ δ1 a:=by
 obtain⟨j,d,h1,h2⟩:=h;obtain⟨i,_,_,_,e,q1,q2⟩:=zt B ha ⟨d,h1,h2⟩;exact⟨i,e,q1,q2⟩
theorem ug(E:ER K H T σ δ)(B:Ops K T σ δ H os vs δ1 H1 T1)(ha:iR δ1 os=some args)(nd:(gP os args).Nodup):ER K H1 (Tc T σ δ1 vs args) (vs.map some) (args.map some):=by
 obtain⟨hl,hg⟩:=kQ ha
 have sub: ∀b,(OwnA (vs.map some) (args.map some) b\/Tc T σ δ1 vs args b)->OwnA σ δ1 b\/T b:=fun b z=>by
  rcases z with z|z|z
  ·exact .inl (Ce B ha z)
  ·exact .inr z
  ·exact .inl z.1
 refine⟨by simp[hl,B.len],fun j d h=>?_,fun j d h=>?_,fun j k d e a h1 h2 h3 h4=>?_,fun a z t=>?_,fun a z=>?_⟩
 ·have h:=qH.mp h;obtain⟨o,h1,h2⟩:=hg j _ h;have hj:j<vs.length:=by have:=(pQ.mp h1).1;have:=B.len;omega
  have hv:vs[j]?=some vs[j]:=iM hj;refine⟨_,qH.mpr hv,?_⟩
  cases o with
  |val q=>
   have:q.1=d:=by cases h2;rfl
   subst this;exact Rep.mono (fun _ _ e _=>e) (fun b _ z=>sub b z) (B.rep E h1 hv)
  |slot i=>
   have h3:δ1[i]?=some (some (d,false)):=mI h2;have h4:=B.slt j i _ h1 hv;obtain⟨w,w1,w2⟩:=B.er.val i d h3;rw[h4] at w1;have:vs[j]=w:=by simpa using w1
   rw[this];exact Rep.mono (fun _ _ e _=>e) (fun b _ z=>(sub b z).imp id (B.tt b)) w2
 ·obtain⟨i,a,q1,q2,q3,q4⟩:=tM B ha (qH.mp h);obtain⟨b,h5,h6⟩:=B.er.own i d q2;rw[q4] at h5;cases h5;exact⟨a,qH.mpr q3,h6.mono (fun _ _ e _=>e) (fun b _ z=>(sub b z).imp id (B.tt b)) fun _ e=>e⟩
 ·obtain⟨i,d1,q1,q2,e1,q3,q4⟩:=zt B ha ⟨d,h1,h3⟩;obtain⟨i2,d2,g1,g2,e2,g3,g4⟩:=zt B ha ⟨e,h2,h4⟩;have:=B.er.inj i i2 e1 e2 a q3 g3 q4 g4;subst this;exact zr nd q1 q2 g1 g2
 ·rcases t with t|t
  ·exact B.er.nT a (Ce B ha z) (B.tt a t)
  ·exact t.2 z
 ·rcases z with z|z
  ·exact B.er.dom a (B.tt a z)
  ·exact B.er.ownOw z.1
theorem Gk{T' Td:AP'}(E:ER K H T σ δ)(B:Ops K T σ δ H os vs δ1 H1 T1)(ha:iR δ1 os=some args)(nd:(gP os args).Nodup)(kC:Keep (vs.map some) (args.map some) H1 outs H')
  (E':ER K H' Td (vs.map some) outs)(t1: ∀b,Tc T σ δ1 vs args b->Td b)(t2: ∀b,T' b->Td b)(t3: ∀b,H1 b≠none->T' b->T b):
  ER K H' T' σ (wb os args outs δ1)/\(∀b,OwnA σ (wb os args outs δ1) b->OwnA (vs.map some) outs b\/Tc T σ δ1 vs args b)/\Keep σ δ1 H1 (wb os args outs δ1) H':=by
 obtain⟨hl,hg⟩:=kQ ha;have ol:outs.length=args.length:=by have:=E'.len;have:=B.len;simp at*;omega
 have aR: ∀(i:Nat) (x:Sl),(wb os args outs δ1)[i]?=some x->(i∉gP os args/\δ1[i]?=some x)\/ ∃(j:Nat) (d:D),os[j]?=some (.slot i)/\args[j]?=some (d,true)/\outs[j]?=some x:=fun i x h=>by
  by_cases hm:i∈gP os args
  ·right;obtain⟨j,d,h1,h2⟩:=zq hm;have hj:j<outs.length:=by have:=(pQ.mp h2).1;omega
   have ho:outs[j]?=some outs[j]:=iM hj;have hi:i<δ1.length:=by have:=(pQ.mp h).1;rwa [wQ] at this
   have:=Fg (δ:=δ1) nd h1 h2 ho hi;rw[h] at this;cases this;exact⟨j,d,h1,h2,ho⟩
  ·left;rw[wO hm] at h;exact⟨hm,h⟩
 have notL: ∀{i:Nat} {a:gm},i∉gP os args->OwnI σ δ1 i a-> ¬OwnA (vs.map some) (args.map some) a:=fun {i a} hm ⟨e,q1,q2⟩ ⟨j,d,h1,h2⟩=>by
  obtain⟨i2,d2,g1,g2,e2,g3,g4⟩:=zt B ha ⟨d,h1,h2⟩;have:=B.er.inj i i2 e e2 a q1 g3 q2 g4;subst this;exact hm (qF g1 g2)
 have aU: ∀i a,OwnI σ (wb os args outs δ1) i a->OwnI σ δ1 i a/\(OwnA (vs.map some) outs a\/Tc T σ δ1 vs args a):=fun i a ⟨d,h1,h2⟩=>by
  rcases aR i _ h1 with⟨hm,h3⟩|⟨j,e,g1,g2,g3⟩
  ·exact⟨⟨d,h3,h2⟩,.inr (.inr ⟨⟨i,d,h3,h2⟩,notL hm ⟨d,h3,h2⟩⟩)⟩
  ·obtain⟨i2,b,q1,q2,q3,q4⟩:=tM B ha g2;rw[g1] at q1;cases q1;rw[h2] at q4;cases q4;exact⟨⟨e,q2,h2⟩,.inl ⟨j,d,g3,qH.mpr q3⟩⟩
 have aD: ∀b,OwnA σ (wb os args outs δ1) b->OwnA (vs.map some) outs b\/Tc T σ δ1 vs args b:=fun b ⟨i,d,h1,h2⟩=>(aU i b ⟨d,h1,h2⟩).2
 have dY: ∀b,OwnA σ (wb os args outs δ1) b->OwnA σ δ1 b:=fun b ⟨i,d,h1,h2⟩=>by
  obtain⟨⟨e,q1,q2⟩,_⟩:=aU i b ⟨d,h1,h2⟩;exact⟨i,e,q1,q2⟩
 have kp: ∀a o,H1 a=some o-> ¬OwnA σ δ1 a->H' a=some o:=fun a o e n=>kC.kp a o e fun z=>n (Ce B ha z)
 have subO: ∀b,(OwnA σ (wb os args outs δ1) b\/T' b)->OwnA (vs.map some) outs b\/Td b:=fun b z=>by
  rcases z with z|z
  ·exact(aD b z).imp id (t1 b)
  ·exact .inr (t2 b z)
 refine⟨⟨by rw[wQ];exact B.er.len,fun i d h=>?_,fun i d h=>?_,fun i k d e a h1 h2 h3 h4=>?_,fun a z t=>?_,fun a z=>E'.dom a (t2 a z)⟩,aD,⟨kp,fun i a z=>(aU i a z).1,kC.dm⟩⟩
 ·rcases aR i _ h with⟨hm,h3⟩|⟨j,e,g1,g2,g3⟩
  ·obtain⟨w,w1,w2⟩:=B.er.val i d h3;exact⟨w,w1,Rep.mono (fun b o e n=>kp b o e fun z=>n (.inl z)) (fun b hb z=>z.imp (dY b) fun z=>B.tt b (t3 b hb z)) w2⟩
  ·obtain⟨i2,b,q1,q2,q3,q4⟩:=tM B ha g2;rw[g1] at q1;cases q1;obtain⟨w,w1,w2⟩:=E'.val j d g3;have:=qH.mp w1;rw[q3] at this;cases this;exact⟨_,q4,Rep.mono (fun _ _ e _=>e) (fun b _ z=>subO b z) w2⟩
 ·rcases aR i _ h with⟨hm,h3⟩|⟨j,e,g1,g2,g3⟩
  ·obtain⟨a,w1,w2⟩:=B.er.own i d h3;exact⟨a,w1,w2.mono (fun b o e n=>kp b o e fun z=>n (.inl z)) (fun b hb z=>z.imp (dY b) fun z=>B.tt b (t3 b hb z)) fun o e=>kC.kp a o e (notL hm ⟨d,h3,w1⟩)⟩
  ·obtain⟨i2,b,q1,q2,q3,q4⟩:=tM B ha g2;rw[g1] at q1;cases q1;obtain⟨a,w1,w2⟩:=E'.own j d g3;have:=qH.mp w1;rw[q3] at this;cases this;exact⟨_,q4,w2.mono (fun _ _ e _=>e) (fun b _ z=>subO b z) fun _ e=>e⟩
 ·obtain⟨⟨e1,q1,q2⟩,_⟩:=aU i a ⟨d,h1,h3⟩;obtain⟨⟨e2,q3,q4⟩,_⟩:=aU k a ⟨e,h2,h4⟩;exact B.er.inj i k e1 e2 a q1 q3 q2 q4
 ·exact B.er.nT a (dY a z) (B.tt a (t3 a (B.er.ownDom (dY a z)) t))
theorem yw(E:ER K H T σ δ)(B:Ops K T σ δ H os vs δ1 H1 T1)(ha:iR δ1 os=some args)(nd:(gP os args).Nodup)(P:Post K (Tc T σ δ1 vs args) (vs.map some) (args.map some) H1 r outs v H'):
  Post K T σ δ H r (wb os args outs δ1) v H':=by
 obtain⟨d,b⟩:=r
 cases b with
 |false=>
  obtain⟨kC,E',rv⟩:=P;obtain⟨E2,ow,k2⟩:=Gk (T':=T) E B ha nd kC E' (fun _ z=>z) (fun _ z=> .inl z) (fun _ _ z=>z);refine⟨B.keep.trans k2,E2,Rep.mono (fun _ _ e _=>e) (fun b _ z=>?_) rv⟩;rcases z with z|z
  ·exact ow b z
  ·exact .inr (.inl z)
 |true=>
  obtain⟨kC,p,rfl,hp,E',ok⟩:=P;obtain⟨E2,ow,k2⟩:=Gk (T':=fun a=>T a\/a=p) E B ha nd kC E' (fun _ z=> .inl z) (fun b z=>z.elim (fun z=> .inl (.inl z)) .inr) (fun b hb z=>z.elim id fun z=>by subst z;exact absurd hp hb);refine⟨B.keep.trans k2,p,rfl,?_,E2,ok.mono (fun _ _ e _=>e) (fun b _ z=>?_) fun _ e=>e⟩
  ·cases hH:H p with
   |none=>rfl
   |some ob=>exact absurd hp (B.keep.dm p (by rw[hH];simp))
  ·rcases z with z|z|z
   ·exact(ow b z).imp id .inl
   ·exact .inr (.inl (.inl z))
   ·exact .inr (.inr z)
end
section
variable {X:Cx}{e:gx}{es:jf}{fs:List FO}{pos p:Pos}{k:Nat}{f:gm}{fd:kR}{ps:gT}{ev:EvF}{x:Str}
theorem Ly(F:FnOk X.prog X.w X.K X.mg X.base CX0 k f fd ps (spF X.K ev))(hr:Room k X.A)(hg:Gl X x)(hm:X.mg x=some (.ref f))(hk:PySem.W.keepIn X.K (.ref f)=true)(hb:Binds X.K fd ps [])
  (ha:PA X (e::es) (tA X.K fs))(m9:(x==("__debug__":Str))=false)(he:starEach (e::es) X.env=(false,eval e X.env)::starEach es X.env)(j5:(backTo pos (starEach es X.env)).any (·.1)=false):
  PX X (.Call (.Name x p) (e::es) [] pos) (gB ev fs):=PX.imp (FH F hr hg hm hk hb (.nil) Q4 ha m9 he j5) fun σ H Q hw=>by
 obtain⟨δ,T,rr,δ',E,e,k⟩:=hw;obtain⟨⟨os,δ1⟩,h1,e⟩:=gk e;obtain⟨args,h2,e⟩:=gk e;dsimp only at e;split at e
 ·rename_i nd;obtain⟨⟨r,outs⟩,h3,e⟩:=gk e;obtain⟨rfl,rfl⟩:=gJ e;refine⟨δ,T,os,δ1,E,h1,fun vs H1 T1 B=>?_⟩;show spF X.K ev (vs++[]) H1 Q E0;rw[sN];exact⟨Tc T σ δ1 vs args,args,r,outs,ug E B h2 nd,h3,fun v H' P=>k v H' (yw E B h2 nd P)⟩
 ·cases e
end
structure SKd(A:iu)(d:gm)(σ:L2.St)(δ:Dn)(H:Hp)(σ':L2.St)(δ':Dn)(H':Hp):Prop where
 kp: ∀a o,H a=some o-> ¬OwnA σ δ a->a≠d->H' a=some o
 owi: ∀i a,OwnI σ' δ' i a->OwnI σ δ i a\/H a=none
 dm: ∀a,H a≠none->H' a≠none
 as: ∀i,¬A i->σ'[i]?=σ[i]?
section
variable {A:iu}{d:gm}{σ σ1 σ2:L2.St}{δ δ1 δ2:Dn}{H H1 H2:Hp}
theorem SK.skd(k:SK A σ δ H σ1 δ1 H1):SKd A d σ δ H σ1 δ1 H1:=⟨fun a o e n _=>k.kp a o e n,k.owi,k.dm,k.as⟩
theorem SKd.ow(k:SKd A d σ δ H σ1 δ1 H1)(a:gm)(h:OwnA σ1 δ1 a):OwnA σ δ a\/H a=none:=by
 obtain⟨i,e,h1,h2⟩:=h;rcases k.owi i a ⟨e,h1,h2⟩ with⟨e,h3,h4⟩|z
 ·exact .inl ⟨i,e,h3,h4⟩
 ·exact .inr z
theorem SKd.trans(x:SKd A d σ δ H σ1 δ1 H1)(y:SKd A d σ1 δ1 H1 σ2 δ2 H2):SKd A d σ δ H σ2 δ2 H2 where
 kp:=fun a o e n nd=>y.kp a o (x.kp a o e n nd) (fun z=>(x.ow a z).elim n fun z=>by rw[z] at e;cases e) nd
 owi:=fun i a z=>(y.owi i a z).elim (x.owi i a) fun z=> .inr (by
  cases h:H a with
  |none=>rfl
  |some o=>exact absurd z (x.dm a (by rw[h];simp)))
 dm:=fun a z=>y.dm a (x.dm a z)
 as:=fun i h=>(y.as i h).trans (x.as i h)
end
structure BS(K:gQ)(d:gm)(T:AP')(σ:L2.St)(δ:Dn)(acc:List D)(H:Hp):Prop where
 er:ER K H T σ δ
 td:T d
 at': ∃ys,H d=some (.lst ys)/\RepL K H (fun a=>OwnA σ δ a\/T a) acc ys
abbrev FB:=List D->Dn->Option (List D×Dn)
def tBx(K:gQ)(A:iu)(d:gm)(f:FB):TB:=fun σ H N=> ∃δ T acc k7 δ',BS K d T σ δ acc H/\f acc δ=some (k7,δ')/\ ∀σ' H',SKd A d σ δ H σ' δ' H'->BS K d T σ' δ' k7 H'->N σ' H'
noncomputable def kJ(f:F):FB:=fun acc δ=>(f δ).bind fun p=>if acc.length<sizeLine then some (acc++[p.1.1],p.2) else none
noncomputable def kY(tg:Tg)(ti:FT)(fb:FB):List D->FB
 |[],acc,δ=>some (acc,δ)
 |x::xs,acc,δ=>(tg x δ).bind fun δ1=>(ti δ1).bind fun p=>(if p.1=true then fb acc p.2 else some (acc,p.2)).bind fun q=>kY tg ti fb xs q.1 q.2
section
variable {K:gQ}{A:iu}{d:gm}{T:AP'}{σ σ1:L2.St}{δ δ1:Dn}{acc:List D}{H H1:Hp}
theorem BS.step(b:BS K d T σ δ acc H)(k:SK A σ δ H σ1 δ1 H1)(E1:ER K H1 T σ1 δ1):BS K d T σ1 δ1 acc H1:=by
 obtain⟨ys,h1,h2⟩:=b.at';refine⟨E1,b.td,ys,k.kp d _ h1 fun z=>b.er.nT d z b.td,RepL.mono (fun b o e n=>k.kp b o e fun z=>n (.inl z)) (fun c hc z=>?_) h2⟩;rcases z with z|z
 ·exact(k.ow c z).elim Or.inl fun z=>absurd z hc
 ·exact .inr z
theorem Mp(hg: ∀v σ H Q,tG K A tg v σ H Q->g v σ H Q)(hi: ∀σ H Q,tT K ft σ H Q->ti σ H Q)(hb: ∀σ H N,tBx K A d fb σ H N->tb σ H N)
  (b:BS K d T σ δ acc H)(P O:AP')(ok:ItOk K J ds P O H1)(s1: ∀a o,H1 a=some o-> ¬P a->H a=some o)(s0: ∀a,H1 a≠none->OwnA σ δ a\/a=d->P a)(s2: ∀a,H1 a≠none->(OwnA σ δ a\/T a)->O a)(s3: ∀a,H1 a≠none->H a≠none)(e:kY tg ft fb ds acc δ=some (k7,δ'))
  (k: ∀σ' H',SKd A d σ δ H σ' δ' H'->BS K d T σ' δ' k7 H'->N σ' H'):Bw J g ti tb σ H N:=by
 refine⟨fun i m σ2 H2=>m=ds.length-i/\i<=ds.length/\ ∃δ2 u4,SKd A d σ δ H σ2 δ2 H2/\BS K d T σ2 δ2 u4 H2/\kY tg ft fb (ds.drop i) u4 δ2=some (k7,δ'),⟨ds.length,by simp,lI _,δ,acc,SK.refl.skd,b,by simpa using e⟩,?_⟩;rintro i m σ2 H2 ⟨rfl,hle,δ2,u4,S2,B2,e2⟩
 have hO: ∀a,H1 a≠none->(OwnA σ2 δ2 a\/T a)->O a:=fun a ha z=>by
  rcases z with z|z
  ·exact(S2.ow a z).elim (fun z=>s2 a ha (.inl z)) fun z=>absurd z (s3 a ha)
  ·exact s2 a ha (.inr z)
 have t6: ∀a o,H1 a=some o-> ¬P a->H2 a=some o:=fun a o ea n=>S2.kp a o (s1 a o ea n) (fun z=>n (s0 a (by rw[ea];simp) (.inl z))) fun z=>n (s0 a (by rw[ea];simp) (.inr z));by_cases k6:i<ds.length
 ·refine .inr ?_;have hd:ds[i]?=some ds[i]:=iM k6;obtain⟨go,yl⟩:=ok.go i _ H2 hd t6;rw[qW k6] at e2;obtain⟨δ3,h3,e3⟩:=gk e2;obtain⟨⟨c,δ4⟩,h4,e4⟩:=gk e3;obtain⟨⟨bp,δ5⟩,h5,e5⟩:=gk e4;refine⟨go,fun x H' hy=>?_⟩;obtain⟨ext,rep⟩:=yl x H' hy;have bN:ER K H' T σ2 δ2:=B2.er.mono (fun b ob eb _=>ext b ob eb) (fun _ _ z=>z) (fun a z=>(B2.er.dom a z).up (ext a));have SX:SK A σ2 δ2 H2 σ2 δ2 H':=(Keep.ext ext).sk;have gi:=B2.step SX bN;have cR:SKd A d σ δ H σ2 δ2 H':=S2.trans SX.skd;have rx:=rep (fun a=>OwnA σ2 δ2 a\/T a) hO (fun b hb z=>z.elim (fun z=>B2.er.ownDom z hb) fun z=>(B2.er.dom b z).ne hb);refine hg _ _ _ _ ⟨δ2,T,ds[i],δ3,bN,rx,h3,fun σ3 S3 E3=>?_⟩;have B3:=gi.step S3 E3;have br:=cR.trans S3.skd;refine hi _ _ _ ⟨δ3,T,c,δ4,E3,h4,fun H4 K4 E4=>?_⟩;have S4:SK A σ3 δ3 H' σ3 δ4 H4:=K4.sk;have B4:=B3.step S4 E4;have dS:=br.trans S4.skd
  cases c with
  |false=>
   rw[gC jl] at h5;obtain⟨rfl,rfl⟩:=gJ h5;exact Mx ⟨ds.length-(i+1),by omega,rfl,k6,δ4,u4,dS,B4,e5⟩
  |true=>
   rw[gz rfl] at h5;exact Mw (hb _ _ _ ⟨δ4,T,u4,bp,δ5,B4,h5,fun σ5 H5 S5 B5=>⟨ds.length-(i+1),by omega,rfl,k6,δ5,bp,dS.trans S5,B5,e5⟩⟩)
 ·refine .inl ⟨ok.stop i H2 (by omega) t6,?_⟩;rw[rP (by omega)] at e2;obtain⟨rfl,rfl⟩:=gJ e2;exact k σ2 H2 S2 B2
end
section
variable {X:Cx}{A:iu}{d:gm}{elt:gx}{f:F}
theorem PB.imp'{code:Sem Unit}{t t':TB}(h:PB X code t)(k: ∀σ H N,t' σ H N->t σ H N):PB X code t':=fun pins s σ H N I hw=>h pins s σ H N I (k σ H N hw)
theorem JI{gens:pj}{sc:ip}{p:Pos}{depth:Nat}(hn:gens[depth+1]?=none)(he:PX X elt f):PB X (iQ (.ListComp elt gens sc p) depth (.ref d) X.env) (tBx X.K A d (kJ f)):=PB.imp' (Me hn he) fun σ H N hw=>by
 obtain⟨δ,T,acc,k7,δ',B,e,k⟩:=hw;obtain⟨⟨r,δ1⟩,h1,e⟩:=gk e;obtain⟨hz,e⟩:=gY e;obtain⟨rfl,rfl⟩:=sJ e;refine⟨δ,T,r,δ1,B.er,h1,fun v H1 P=>?_⟩;obtain⟨E1,rv⟩:=P.rep B.er;have S1:SK A σ δ H σ δ1 H1:=P.1.sk;have B1:=B.step S1 E1;obtain⟨ys,hy,ry⟩:=B1.at';refine⟨ys,hy,by rw[ry.length];exact hz,k σ _ ?_ ?_⟩
 ·have:SKd A d σ δ1 H1 σ δ1 (upd H1 d (.lst (ys++[v]))):=⟨fun a o e n nd=>by rw[gR nd];exact e,fun i a z=> .inl z,fun a z=>by
   by_cases ha:a=d
   ·subst ha;rw[gU];simp
   ·rw[gR ha];exact z,fun _ _=>rfl⟩
  exact S1.skd.trans this
 ·have hk: ∀b o,H1 b=some o-> ¬T b->upd H1 d (.lst (ys++[v])) b=some o:=fun b o e n=>by rw[gR (by intro z;subst z;exact n B.td)];exact e
  have hd: ∀a,T a->Ow (upd H1 d (.lst (ys++[v])) a):=fun a z=>by
   by_cases ha:a=d
   ·subst ha;rw[gU];trivial
   ·rw[gR ha];exact E1.dom a z
  refine⟨E1.mono hk (fun _ _ z=>z) hd,B.td,ys++[v],gU,?_⟩;exact RepL.mono (fun b o e n=>hk b o e fun z=>n (.inr z)) (fun _ _ z=>z) (ry.append (RepL.one rv))
end
noncomputable def kj(caps:hJ)(k:Nat)(fi:FIt)(tg:Tg)(ti:FT)(fb:FB):F:=fun δ=>(fi δ).bind fun p=>(iR p.2 (caps.map .slot)).bind fun args=>
 if(gP (caps.map .slot) args).Nodup then(kY tg ti fb p.1 [] (args.map some++List.replicate k none)).bind fun q=>some ((.lst q.1,true),wb (caps.map .slot) args (hE args q.2) p.2) else none
noncomputable def uU(caps:hJ)(k:Nat)(σ:L2.St):L2.St:=(caps.map fun j=>(σ[j]?).join)++List.replicate k none
theorem Ky{K:gQ}{caps:hJ}{k:Nat}{fi:FIt}{tg:Tg}{ti:FT}{fb:FB}{σ:L2.St}{H:Hp}{Q:VK}(h:tF K (kj caps k fi tg ti fb) σ H Q):
  M7 (tI K (fun i=>i∉caps) fi) (tG K (fun i=>caps.length<=i) tg) (tT K ti) (fun d=>tBx K (fun i=>caps.length<=i) d fb) (uU caps k) σ H Q:=by
 obtain⟨δ,T,rr,δr,E,e,kq⟩:=h;obtain⟨⟨ds,δ1⟩,h1,e⟩:=gk e;obtain⟨args,ha,e⟩:=gk e;dsimp only at e ha;split at e
 case isFalse=>cases e
 rename_i nd;obtain⟨⟨acc,δ'⟩,h2,e⟩:=gk e;obtain⟨rfl,rfl⟩:=gJ e;refine⟨δ,T,ds,δ1,E,h1,fun J H1 K1 E1 ok d hd=>?_⟩;obtain⟨hl,hg⟩:=kQ ha;have fF:args.length=caps.length:=by simpa using hl
 let vs:List V:=caps.map fun j=>((σ[j]?).join).getD .non
 have there: ∀(i j:Nat),caps[i]?=some j-> ∃v,σ[j]?=some (some v):=fun i j hj=>by
  have hi:i<args.length:=by have:=(pQ.mp hj).1;omega
  obtain⟨o,q1,q2⟩:=hg i _ (iM hi);rw[iO,hj] at q1;cases q1;have q3:=mI q2;generalize args[i]=y at q3;obtain⟨x,b⟩:=y
  cases b with
  |false=>obtain⟨v,h,_⟩:=E1.val j x q3;exact⟨v,h⟩
  |true=>obtain⟨a,h,_⟩:=E1.own j x q3;exact⟨_,h⟩
 have dE: ∀(i j:Nat),caps[i]?=some j-> ∃v,vs[i]?=some v/\σ[j]?=some (some v):=fun i j hj=>by
  obtain⟨v,hv⟩:=there i j hj;refine⟨v,?_,hv⟩;show(caps.map fun j=>((σ[j]?).join).getD .non)[i]?=some v;rw[iO,hj];simp[hv]
 have ak:uU caps k σ=vs.map some++List.replicate k none:=by
  unfold uU
  congr 1
  apply rO;intro i;show _=((caps.map fun j=>((σ[j]?).join).getD .non).map some)[i]?;rw[iO,iO,iO]
  cases hj:caps[i]? with
  |none=>rfl
  |some j=>obtain⟨v,hv⟩:=there i j hj;simp[hv]
 have B0:Ops K T σ δ1 H1 (caps.map Opd.slot) vs δ1 H1 T:=by
  refine⟨by simp[vs],.refl,E1,fun _ z=>z,fun j x v hj=>?_,fun j x v hj=>?_,fun j i v hj hv=>?_⟩
  ·rw[iO] at hj;obtain⟨_,_,z⟩:=hZ hj;cases z
  ·rw[iO] at hj;obtain⟨_,_,z⟩:=hZ hj;cases z
  ·rw[iO] at hj;obtain⟨c,hc,z⟩:=hZ hj;cases z;obtain⟨v',q1,q2⟩:=dE j i hc;rw[hv] at q1;cases q1;exact q2
 have Ec:=ug E1 B0 ha nd
 have hA: ∀(i:Nat) x,args[i]?=some (x,true)-> ¬(caps.length<=i):=fun i x hx=>by
  have:=(pQ.mp hx).1;omega
 rw[ak];have hx:=kM (o:= .lst []) hd
 have nz: ∀a,H1 a≠none->upd H1 d (.lst []) a≠none:=fun a z=>by
  cases hh:H1 a with
  |none=>exact absurd hh z
  |some o=>rw[hx a o hh];simp
 have b0:BS K d (fun a=>Tc T σ δ1 vs args a\/a=d) (vs.map some++List.replicate k none) (args.map some++List.replicate k none) [] (upd H1 d (.lst [])):=by
  refine⟨(Ec.pad).mono (fun b o eb _=>hx b o eb) (fun b hb z=>z.elim id fun z=>by subst z;exact absurd hd hb) (fun a z=>?_),.inr rfl,[],gU,RepL.nil⟩;rcases z with z|z
  ·exact(Ec.dom a z).up (hx a)
  ·subst z;rw[gU];trivial
 refine Mp (fun _ _ _ _ h=>h) (fun _ _ _ h=>h) (fun _ _ _ h=>h) b0 _ _ ok (fun a o ea _=>hx a o ea) (fun a cN z=>?_) (fun a cN z=>?_) nz h2 fun σ' H2 S2 B2=>?_
 ·rcases z with z|z
  ·obtain⟨j,x,g1,g2⟩:=GY.mp z;obtain⟨i,_,q1,_,q3⟩:=zt B0 ha ⟨x,g1,g2⟩;refine .inl ⟨i,fun n=>n ?_,q3⟩;rw[iO] at q1;obtain⟨c,hc,e⟩:=hZ q1;cases e;exact kF hc
  ·subst z;exact absurd hd cN
 ·rcases z with z|z|z
  ·exact .inl (Ce B0 ha (GY.mp z))
  ·rcases z with z|z
   ·exact .inr z
   ·exact .inl z.1
  ·subst z;exact absurd hd cN
 ·have SS:SK (fun i=>caps.length<=i) (vs.map some++List.replicate k none) (args.map some++List.replicate k none) H1 σ' δ' H2:=
   ⟨fun a o ea n=>S2.kp a o (hx a o ea) n (by intro z;subst z;rw[ea] at hd;cases hd),fun i a z=>(S2.owi i a z).imp id fun z=>by
    cases hh:H1 a with
    |none=>rfl
    |some o=>exact absurd z (nz a (by rw[hh];simp)),fun a z=>S2.dm a (nz a z),S2.as⟩
  obtain⟨ys,hy,ry⟩:=B2.at';have P:=qK (r:=(.lst acc,true)) (v:= .ref d) Ec SS hA ⟨d,rfl,hd,B2.er,ys,hy,RepL.mono (fun _ _ e _=>e) (fun b _ z=>z) ry⟩;exact kq (.ref d) H2 ((yw E1 B0 ha nd P).pre K1)
section
variable {X:Cx}{elt:gx}{c:pI}{hG:pj}{scope:ip}{pos n9 py:Pos}{N':gT}{caps:hJ}{k:Nat}{fi:FIt}{tg:Tg}{ti:FT}{fb:FB}{A L:iu}{H0:Hp}
structure CompOk(X:Cx)(N':gT)(scope:ip)(caps:hJ)(k:Nat):Prop where
 cell: ∀y∈scope.names,y.2= .cell->scope.names.lookup y.1=some .cell
 kind:scope.kind= .function
 names: ∀y∈scope.names,y.2= .local->scope.names.lookup y.1=some .local
 free: ∀y∈scope.names,y.2= .free->X.env.scope.names.lookup y.1=some .cell\/X.env.scope.names.lookup y.1=some .free
 len:caps.length+k=N'.length
 caps: ∀(i j:Nat) (x:Str),caps[i]?=some j->N'[i]?=some x->X.N[j]?=some x/\scope.names.lookup x=some .free
theorem CompOk.sco(C:CompOk X N' scope caps k):CompScope X N' scope (uU caps k):=by
 refine⟨C.cell,C.kind,C.names,C.free,fun σ=>by simp[uU,C.len],fun σ i v x h1 h2=>?_⟩;unfold uU at h1;by_cases hi:i<caps.length
 ·rw[wD (by simpa using hi),iO,iM hi] at h1;obtain⟨q1,q2⟩:=C.caps i caps[i] x (iM hi) h2;refine⟨q2,caps[i],q1,?_⟩;have h3:(σ[caps[i]]?).join=some v:=by simpa using h1
  cases hs:σ[caps[i]]? with
  |none=>rw[hs] at h3;cases h3
  |some y=>rw[hs] at h3;exact oj some h3
 ·rw[uK (by simpa using hi),sM] at h1;split at h1<;>cases h1
theorem LN(C:CompOk X N' scope caps k)(hc:X.calm=true)(ha:c.is_async=0)(x9: ∀g',hG[0]?=some g'->g'.is_async=0)
  (hs: ∀x,foldedSetIterable c.iter X.env x=pure x)(pi:PIX X (fun i=>i∉caps) c.target c.iter fi)
  (ay: ∀(cl:ji) (C:gm) (s3:gu) (H3:Hp) (fp:jo) (pins:gZ),let X':=X.comp N' scope cl C s3 H3 fp pins
   PGX X' (fun i=>caps.length<=i) c.target tg/\PIf X' c.ifs (tT X.K ti)/\ ∀d,PB X' (iQ (.ListComp elt (c::hG) scope pos) 0 (.ref d) X'.env) (tBx X.K (fun i=>caps.length<=i) d fb)):
  PX X (.ListComp elt (c::hG) scope pos) (kj caps k fi tg ti fb):=PX.imp (JD (g:=tG X.K (fun i=>caps.length<=i) tg) (ti:=tT X.K ti) (tb:=fun d=>tBx X.K (fun i=>caps.length<=i) d fb) C.sco hc ha x9 hs pi ay) fun σ H Q h=>Ky h
end
section
variable {K:gQ}{T:AP'}{σ:L2.St}{δ:Dn}{H:Hp}{i:Nat}{l l':List D}{a:gm}{cb:List V}
theorem OwnI.write{j:Nat}{b:gm}(hd:δ[i]?=some (some (.lst l,true)))(h:OwnI σ (δ.set i (some (.lst l',true))) j b):OwnI σ δ j b:=by
 obtain⟨e,h1,h2⟩:=h;rcases kh h1 with⟨rfl,_,_⟩|⟨_,q⟩
 ·exact⟨_,hd,h2⟩
 ·exact⟨e,q,h2⟩
theorem ER.write(E:ER K H T σ δ)(hd:δ[i]?=some (some (.lst l,true)))(hs:σ[i]?=some (some (.ref a)))(r:RepL K H (fun b=>OwnA σ δ b\/T b) l' cb):
  ER K (upd H a (.lst cb)) T σ (δ.set i (some (.lst l',true)))/\Keep σ δ H (δ.set i (some (.lst l',true))) (upd H a (.lst cb)):=by
 have hi:i<δ.length:=(pQ.mp hd).1;have oa:OwnA σ δ a:=⟨i,_,hd,hs⟩
 have aD: ∀b,OwnA σ (δ.set i (some (.lst l',true))) b->OwnA σ δ b:=fun b ⟨j,e,h1,h2⟩=>by
  obtain⟨e',q1,q2⟩:=OwnI.write hd ⟨e,h1,h2⟩;exact⟨j,e',q1,q2⟩
 have kp: ∀b o,H b=some o-> ¬(OwnA σ δ b\/T b)->upd H a (.lst cb) b=some o:=fun b o e n=>by rw[gR (by intro z;subst z;exact n (.inl oa))];exact e
 have dm: ∀b,H b≠none->upd H a (.lst cb) b≠none:=fun b z=>by
  by_cases hb:b=a
  ·subst hb;rw[gU];simp
  ·rw[gR hb];exact z
 have sub: ∀b,H b≠none->(OwnA σ (δ.set i (some (.lst l',true))) b\/T b)->OwnA σ δ b\/T b:=fun b _ z=>z.imp (aD b) id;refine⟨⟨by rw[pN];exact E.len,fun j e hj=>?_,fun j e hj=>?_,fun j k e f b hj hk h1 h2=>?_,fun b z=>E.nT b (aD b z),fun b z=>by have ne:b≠a:=fun e=>E.nT a oa (e▸z);rw[gR ne];exact E.dom b z⟩,⟨fun b o e n=>by rw[gR (by intro z;subst z;exact n oa)];exact e,fun j b z=>OwnI.write hd z,dm⟩⟩
 ·rcases kh hj with⟨_,_,q⟩|⟨_,q⟩
  ·cases q
  ·obtain⟨w,w1,w2⟩:=E.val j e q;exact⟨w,w1,Rep.mono kp sub w2⟩
 ·rcases kh hj with⟨rfl,_,q⟩|⟨ne,q⟩
  ·cases q;exact⟨a,hs,cb,gU,RepL.mono kp sub r⟩
  ·obtain⟨b,w1,w2⟩:=E.own j e q;refine⟨b,w1,w2.mono kp sub fun o eo=>?_⟩;rw[gR]
   ·exact eo
   ·intro z;subst z;exact ne (E.inj i j _ _ _ hd q hs w1)
 ·obtain⟨e1,q1,q2⟩:=OwnI.write hd ⟨e,hj,h1⟩;obtain⟨e2,q3,q4⟩:=OwnI.write hd ⟨f,hk,h2⟩;exact E.inj j k e1 e2 b q1 q3 q2 q4
end
noncomputable def lW(i:Nat)(f:F):F:=fun δ=>match δ[i]? with
 |some (some (.lst _,true))=>(f δ).bind fun p=>match p.2[i]? with
  |some (some (.lst l,true))=>if l.length<sizeLine then some ((.non,false),p.2.set i (some (.lst (l++[p.1.1]),true))) else none
  |_=>none
 |_=>none
noncomputable def sf(i:Nat)(f:FO):F:=fun δ=>match δ[i]? with
 |some (some (.lst _,true))=>(f δ).bind fun p=>match res p.2 p.1,p.2[i]? with
  |some (.int k),some (some (.lst l,true))=>if -(2^63)<=k/\k<2^63 then(ixN l.length k).bind fun j=>(l[j]?).bind fun d=>some ((d,false),p.2.set i (some (.lst (l.eraseIdx j),true))) else none
  |_,_=>none
 |_=>none
noncomputable def uT(i:Nat)(f:F)(g:FO):FS:=fun δ=>(f δ).bind fun p=>match p.2[i]? with
 |some (some _)=>(g p.2).bind fun q=>match res q.2 q.1,q.2[i]? with
  |some (.int k),some (some (.lst l,true))=>(ixN l.length k).bind fun j=>some (.nx (q.2.set i (some (.lst (l.set j p.1.1),true))))
  |_,_=>none
 |_=>none
section
variable {X:Cx}{e ix:gx}{f:F}{fo:FO}{pos f6 apos i4:Pos}{i:Nat}{x:Str}{A L:iu}{H0:Hp}
theorem RepL.erase{K H}{O:AP'}: ∀{l:List D} {vs:List V} (j:Nat),RepL K H O l vs->RepL K H O (l.eraseIdx j) (vs.eraseIdx j)
 |[],vs,j,h=>by rw[RepL] at h;subst h;simp[RepL]
 |d::l,vs,0,h=>by
  rw[RepL] at h;obtain⟨v,r,rfl,h1,h2⟩:=h;exact h2
 |d::l,vs,j+1,h=>by
  rw[RepL] at h;obtain⟨v,r,rfl,h1,h2⟩:=h;exact RepL.cons h1 (RepL.erase j h2)
theorem GO(hv:PO X (.Name x f6) (gn i))(he:PX X e f)(j8:attributeBase (.Name x f6) "append" X.env (eval (.Name x f6) X.env)=eval (.Name x f6) X.env)
  (n6:((backTo i4 (starEach [e] X.env)).all (fun x=>!x.1)&&(backToKw i4 (keywordEach [] X.env)).all (fun x=>x.1.isSome)&&decide ([e].length+([]:List Keyword).length+(if([]:List Keyword).isEmpty then 0 else 1)<30))=true)
  (j7:(apos.endLine==i4.line)=true)(hs:starEach [e] X.env=(false,eval e X.env)::starEach [] X.env)(i6:(backTo i4 (starEach [] X.env)).any (·.1)=false):
  PX X (.Call (.Attribute (.Name x f6) "append" apos) [e] [] i4) (lW i f):=
 PX.imp (JH Dj PySem.F.slot_list_append PySem.F.type_list_append G8 hv (kN he nW hs) j8 n6 j7 hs i6) fun σ H Q hw=>by
 obtain⟨δ,T,rr,δ',E,e,k⟩:=hw;unfold lW at e;split at e
 ·rename_i l0 h0;obtain⟨⟨r,δ1⟩,h1,e⟩:=gk e;dsimp only at e;split at e
  ·rename_i l h2;obtain⟨hz,e⟩:=gY e;obtain⟨rfl,rfl⟩:=sJ e;refine⟨δ,T,.slot i,δ,E,by unfold gn;rw[h0],fun v H1 P=>?_⟩;obtain⟨K1,E1,hσ⟩:=P;obtain⟨a,g1,dt,g2,g3⟩:=E1.own i _ h0;rw[hσ] at g1;cases g1;refine⟨.inl ⟨rfl,dt,SqL.of g2⟩,δ,T,r,δ1,E1,h1,fun y H2 P2=>?_⟩;obtain⟨E2,ry⟩:=P2.rep E1;obtain⟨a',q1,xs,q2,q3⟩:=E2.own i _ h2;rw[hσ] at q1;cases q1;refine⟨_,xs,y,rfl,rfl,q2,by rw[q3.length];exact hz,?_⟩;obtain⟨E3,K3⟩:=E2.write h2 hσ (q3.append (RepL.one ry));exact k _ _ (Post.val ((K1.trans P2.1).trans K3) E3 Rep.mkNon)
  ·cases e
 ·cases e
theorem Jg(hv:PO X (.Name x f6) (gn i))(he:PO X e fo)(j8:attributeBase (.Name x f6) "pop" X.env (eval (.Name x f6) X.env)=eval (.Name x f6) X.env)
  (n6:((backTo i4 (starEach [e] X.env)).all (fun x=>!x.1)&&(backToKw i4 (keywordEach [] X.env)).all (fun x=>x.1.isSome)&&decide ([e].length+([]:List Keyword).length+(if([]:List Keyword).isEmpty then 0 else 1)<30))=true)
  (j7:(apos.endLine==i4.line)=true)(hs:starEach [e] X.env=(false,eval e X.env)::starEach [] X.env)(i6:(backTo i4 (starEach [] X.env)).any (·.1)=false):
  PX X (.Call (.Attribute (.Name x f6) "pop" apos) [e] [] i4) (sf i fo):=
 PX.imp (JH Dj PySem.F.slot_list_pop PySem.F.type_list_pop JW hv (kN he nW hs) j8 n6 j7 hs i6) fun σ H Q hw=>by
 obtain⟨δ,T,rr,δ',E,e,k⟩:=hw;unfold sf at e;split at e
 ·rename_i l0 h0;obtain⟨⟨o,δ1⟩,h1,e⟩:=gk e;dsimp only at e;split at e
  ·rename_i kk l hk h2;split at e
   case isFalse=>cases e
   rename_i hb;obtain⟨j,hj,e⟩:=gk e;obtain⟨d,hd,e⟩:=gk e;obtain⟨rfl,rfl⟩:=gJ e;refine⟨δ,T,.slot i,δ,E,by unfold gn;rw[h0],fun v H1 P=>?_⟩;obtain⟨K1,E1,hσ⟩:=P;obtain⟨a,g1,dt,g2,g3⟩:=E1.own i _ h0;rw[hσ] at g1;cases g1;refine⟨.inl ⟨rfl,dt,SqL.of g2⟩,δ,T,o,δ1,E1,h1,fun y H2 P2=>?_⟩;have B:=Ops.cons E1 P2 (Ops.nil (P2.er E1));have vy:=gS (B.view (j:=0) rfl rfl hk);have E2:ER X.K H2 T σ δ1:=B.er.mono (fun _ _ e _=>e) (fun b _ z=>B.tt b z) (fun a z=>B.er.dom a (B.tt a z));obtain⟨a',q1,xs,q2,q3⟩:=E2.own i _ h2;rw[hσ] at q1;cases q1;obtain⟨w,w1,w2⟩:=q3.get hd;have hl:=q3.length;have fI:ixN xs.length kk=some j:=by rw[hl];exact hj
   obtain⟨s1,s2,s3,s4⟩:=AO fI;obtain⟨E3,K3⟩:=E2.write h2 hσ (RepL.erase j q3);refine⟨_,xs,kk,j,w,rfl,by rw[vy],q2,hb.1,hb.2,s1,w1,?_⟩;exact k _ _ (Post.val ((K1.trans B.keep).trans K3) E3 (Rep.mono (fun b o e n=>K3.kp b o e fun z=>n (.inl z)) (fun b _ z=>z.imp (K3.ow b) id) w2))
  ·cases e
 ·cases e
theorem GR{n9:Pos}(hv:PO X (.Name x f6) (gn i))(he:PX X e f)(hi:PO X ix fo)
  (ha: ∀v,assign (.Subscript (.Name x f6) ix n9) X.env v=(do
   let ov <-holding [v] (eval (.Name x f6) X.env)
   let iv <-holding [v,ov] (eval ix X.env)
   standAt n9
   holding [v,ov,iv] (setItem ov iv v)
   release [v,ov,iv] []))
  (hs:swapsWithSole [.Subscript (.Name x f6) ix n9] e pos.line X.env=pure false)(hw:swappedStores [.Subscript (.Name x f6) ix n9] e X.env=pure none)
  (h1:(assignEach [.Subscript (.Name x f6) ix n9] X.env).map (·.2)=[assign (.Subscript (.Name x f6) ix n9) X.env]):
  PSX X A L H0 (.Assign [.Subscript (.Name x f6) ix n9] e pos) (uT i f fo):=PS.imp' (OB he (OF hv hi IW ha) hs hw h1) fun D σ H hw=>by
 obtain⟨δ,T,out,E,fi,e,k⟩:=hw;obtain⟨⟨r,δ1⟩,h1,e⟩:=gk e;dsimp only at e;split at e
 case h_2=>cases e
 rename_i y0 h0;obtain⟨⟨o,δ2⟩,h2,e⟩:=gk e;dsimp only at e;split at e
 ·rename_i kk l hk h3;obtain⟨j,hj,e⟩:=gk e;cases e;refine⟨δ,T,r,δ1,E,h1,fun v H1 P1=>⟨δ1,Tmp T r v,.slot i,δ1,P1.er E,by unfold gn;rw[h0],fun v2 H2 P2=>⟨δ1,Tmp T r v,o,δ2,P2.er (P1.er E),h2,fun v3 H3 P3=>?_⟩⟩⟩;have P1':PostO X.K T σ δ H (.val r) δ1 v H1:=P1;have B:=Ops.cons E P1' (Ops.cons (P1.er E) P2 (Ops.cons (P2.er (P1.er E)) P3 (Ops.nil (P3.er (P2.er (P1.er E))))));have E3:ER X.K H3 T σ δ2:=B.er.mono (fun _ _ e _=>e) (fun b _ z=>B.tt b z) (fun a z=>B.er.dom a (B.tt a z));have hσ:σ[i]?=some (some v2):=P2.2.2;obtain⟨a,q1,xs,q2,q3⟩:=E3.own i _ h3;rw[hσ] at q1;cases q1;have vk:=gS (B.view (j:=2) rfl rfl hk);have rv:=B.rep E (j:=0) (r:=r) rfl rfl;refine⟨a,xs,kk,j,rfl,vk,q2,by rw[q3.length];exact hj,?_⟩;obtain⟨E4,K4⟩:=E3.write h3 hσ (RepL.set rv j q3);exact k _ _ (B.keep.trans K4).sk E4
 ·cases e
end
noncomputable def Lp(i j:Nat)(fs:List F):FS:=fun δ=>(ja (fs.map gq) δ).bind fun p=>match mT p.1 with
 |some [a,b]=>if i<p.2.length/\j<p.2.length then some (.nx ((p.2.set i (some (a,false))).set j (some (b,false)))) else none
 |_=>none
noncomputable def Sw(tg:Tg)(f:F):FS:=fun δ=>(f δ).bind fun p=>(tg p.1.1 p.2).bind fun δ1=>some (.nx δ1)
section
variable {X:Cx}{A L:iu}{H0:Hp}{a b tg e:gx}{fs:List F}{f:F}{t:Tg}{pos px py pt aT:Pos}{x y:Str}{i j:Nat}{kt k2}
theorem L4(hc:X.calm=true)(hN:X.N.Nodup)(hi:X.N[i]?=some x)(hj:X.N[j]?=some y)(o4:i≠j)(hx:X.env.scope.names.lookup x=some .local)(hy:X.env.scope.names.lookup y=some .local)
  (h:PA X [a,b] (tA X.K (fs.map gq)))(hw:swappedStores [.Tuple [.Name x px,.Name y py] kt pt] (.Tuple [a,b] k2 aT) X.env=pure (some [x,y]))
  (hs:swapsWithSole [.Tuple [.Name x px,.Name y py] kt pt] (.Tuple [a,b] k2 aT) pos.line X.env=pure false)(hA:A i)(hB:A j):
  PSX X A L H0 (.Assign [.Tuple [.Name x px,.Name y py] kt pt] (.Tuple [a,b] k2 aT) pos) (Lp i j fs):=PS.imp' (OA hc hN hi hj o4 hx hy h hw hs) fun D σ H hw=>by
 obtain⟨δ,T,out,E,fi,e,k⟩:=hw;obtain⟨⟨os,δ1⟩,h1,e⟩:=gk e;dsimp only at e;split at e
 ·rename_i d1 d2 hv;obtain⟨hl,rfl⟩:=gY e;refine⟨δ,T,os,δ1,E,h1,fun vs H1 T1 B=>?_⟩;have r:=oJ hv B.len fun j r v a b=>B.rep E a b;have E1:ER X.K H1 T σ δ1:=B.er.mono (fun _ _ e _=>e) (fun b _ z=>B.tt b z) (fun a z=>B.er.dom a (B.tt a z));rw[RepL] at r;obtain⟨v1,r1,rfl,g1,r⟩:=r;rw[RepL] at r;obtain⟨v2,r2,rfl,g2,r⟩:=r;rw[RepL] at r;subst r;refine⟨v1,v2,rfl,?_⟩;obtain⟨q1,q2⟩:=tf (A:=A) (r:=(d1,false)) (v:=v1) E (Post.val B.keep E1 g1) hl.1 hA
  have v9:Rep X.K H1 (fun c=>OwnA (σ.set i (some v1)) (δ1.set i (some (d1,false))) c\/T c) d2 v2:=Rep.mono (fun _ _ e _=>e) (fun c hc z=>z.imp (fun z=>by
   rcases z.store with z|z
   ·exact z
   ·exact absurd z.1 (by simp)) id) g2
  obtain⟨q3,q4⟩:=tf (A:=A) (i:=j) (r:=(d2,false)) (v:=v2) q2 (Post.val .refl q2 v9) (by rw[pN];exact hl.2) hB;exact k _ H1 (q1.trans q3) q4
 ·cases e
theorem FC{id:String}{p:Pos}{es:jf}{fo:List FO}{g:List D->Option (D×Bool)}{z:Str}(hc:ju X (.builtin id) (rDn X.K g))(hg:Gl X z)(hm:X.mg z=none)(hv:bootBuiltins z=some (.builtin id))(ha:PA X (e::es) (tA X.K fo))(hn:z≠"__name__")(m9:(z==("__debug__":Str))=false)
  (he:starEach (e::es) X.env=(false,eval e X.env)::starEach es X.env)(j5:(backTo pos (starEach es X.env)).any (·.1)=false):PX X (.Call (.Name z p) (e::es) [] pos) (ig g fo):=pxn (tK hc hg hm hv ha hn m9 he j5)
theorem Lz{id:String}{p:Pos}{es:jf}{fo:List FO}{g:List D->Option (D×Bool)}{z:Str}(hc:ju X (.type id) (rDn X.K g))(hg:Gl X z)(hm:X.mg z=none)(hv:bootBuiltins z=some (.type id))(ha:PA X (e::es) (tA X.K fo))(hn:z≠"__name__")(m9:(z==("__debug__":Str))=false)
  (he:starEach (e::es) X.env=(false,eval e X.env)::starEach es X.env)(j5:(backTo pos (starEach es X.env)).any (·.1)=false):PX X (.Call (.Name z p) (e::es) [] pos) (ig g fo):=pxn (oE hc hg hm hv ha hn m9 he j5)
end
theorem PN:bootBuiltins "len"=some (.builtin "len"):=by decide+kernel
noncomputable def A2(N:gT)(sc scope:ip)(N':gT)(caps:hJ)(k:Nat):Bool:=
 (scope.names.all fun y=>y.2 != .cell||scope.names.lookup y.1==some .cell)&&decide (scope.kind= .function)&&(scope.names.all fun y=>y.2 != .local||scope.names.lookup y.1==some .local)&&
 (scope.names.all fun y=>y.2 != .free||(sc.names.lookup y.1==some .cell||sc.names.lookup y.1==some .free))&&decide (caps.length+k=N'.length)&&
 ((caps.zip N').all fun p=>N[p.1]?==some p.2&&scope.names.lookup p.2==some .free)
theorem PJ(hN:X.N=N)(hs:X.env.scope=sc)(h:A2 N sc scope N' caps k=true):CompOk X N' scope caps k:=by
 subst hN;subst hs;unfold A2 at h;simp only[jY,kZ,pK] at h;obtain⟨⟨⟨⟨⟨h1,h2⟩,h3⟩,h4⟩,h5⟩,h6⟩:=h;refine⟨fun y hy e=>?_,h2,fun y hy e=>?_,fun y hy e=>?_,h5,fun i j x hi hx=>?_⟩
 ·have:=h1 y hy;rw[e] at this;simpa using this
 ·have:=h3 y hy;rw[e] at this;simpa using this
 ·have:=h4 y hy;rw[e] at this;simpa using this
 ·have hm:(j,x)∈caps.zip N':=by
   have:(caps.zip N')[i]?=some (j,x):=by rw[List.getElem?_zip_eq_some];exact⟨hi,hx⟩
   exact kF this
  have:=h6 _ hm;simpa using this
noncomputable def kH:FT:=fun δ=>some (true,δ)
theorem Jx{X:Cx}:PIf X [] (tT X.K kH):=fun pins s σ H Q I h=>by
 obtain⟨δ,T,b,δ',E,e,k⟩:=h;cases e;exact L9 pins s σ H Q I (k H .refl E)
inductive Ty where
 |int|bool|str|tuple|list|dict
noncomputable def Ty.n:Ty->String
 | .int=>"int"| .bool=>"bool"| .str=>"str"| .tuple=>"tuple"| .list=>"list"| .dict=>"dict"
noncomputable def isT:D->Ty->Bool
 | .bl _,.bool=>true
 | .bl _,.int=>true
 | .int _,.int=>true
 | .str _,.str=>true
 | .tup _,.tuple=>true
 | .lst _,.list=>true
 | .oth .dct _ _,.dict=>true
 |_,_=>false
noncomputable def tyD:D->String
 | .non=>"NoneType"| .bl _=>"bool"| .int _=>"int"| .str _=>"str"| .tup _=>"tuple"| .lst _=>"list"| .oth .dct _ _=>"dict"| .oth .set _ _=>"set"| .oth _ _ _=>"NoneType"
section
variable {X:Cx}{pins:gZ}{σ:L2.St}{H:Hp}{s:gu}
theorem Cj(K:gQ)(d:D)(t:Ty):PySem.W.kitOne K (.type (tyD d)) (.type t.n)=some (isT d t):=by
 cases d with
 |oth k _ _=>cases k<;>cases t<;>with_unfolding_all rfl
 |_=>cases t<;>with_unfolding_all rfl
theorem JL(I:Inv X pins σ H s)(h:OthB X.K (H a) k ks vs us)(hk:k= .dct\/k= .set:=by first|exact .inl rfl|exact .inr rfl):s.TypeIs (.ref a) (tyD (.oth k ks vs)):=by
 cases k with
 |dct=>
  rcases h with⟨i3,e,_⟩|⟨i3,e,_⟩
  ·obtain⟨_,_,vs,_,o,es,ep,h1,h2,_⟩:=(show ObjOk X.prog X.w H s.heap a (.dK i3) from I.hok a _ e)
   exact⟨o,h1,h2.1⟩
  ·obtain⟨_,_,xs,_,o,es,ep,h1,h2,_⟩:=(show ObjOk X.prog X.w H s.heap a (.dT i3) from I.hok a _ e)
   exact⟨o,h1,h2.1⟩
 |set=>
  obtain⟨_,zs,e,_⟩:=h;obtain⟨es,n,t,h1,_⟩:=(show ObjOk X.prog X.w H s.heap a (.stt zs) from I.hok a _ e)
  exact⟨_,h1,rfl⟩
 |exc C=>rcases hk with z|z<;>cases z
 |_=>exact h.elim
theorem sV{K H}(h:iW K H O (.oth k ks vs) v): ∃a us,v= .ref a/\OthB K (H a) k ks vs us/\RepL K H O vs us:=by
 rcases h with h|⟨a,rfl,h⟩
 ·obtain⟨a,us,e,q,r⟩:=h.oth;exact⟨a,us,e,q.2,r⟩
 ·obtain⟨us,e,r⟩:=h;exact⟨a,us,rfl,e,r⟩
end
theorem Ru{K:gQ}{C:Nat}(h: ∀n∈["int","bool","str","tuple","list","dict"],PySem.W.kitOne K (.ref C) (.type n)=some false)(t:Ty){ks vs:List D}:PySem.W.kitOne K (.ref C) (.type t.n)=some (isT (.oth (.exc C) ks vs) t):=by
 cases t<;>exact h _ (by simp[Ty.n])
section
variable {X:Cx}{pins:gZ}{σ:L2.St}{H:Hp}{s:gu}
theorem TQ(I:Inv X pins σ H s)(hd:iW X.K H O d x)(rx:RelV x u)(h: ∀tk,Q (.bool (isT d t)) {s with toks:=tk}):
  wpAny (model X.prog X.w) A (call (.builtin "isinstance") [u,.type t.n]) Q E s:=by
 cases d with
 |non=>have:=ID hd;subst this;cases rx;exact sH PySem.W.kitx_none I.kIn True.intro (Cj X.K .non t) (fun z=>nomatch z) h
 |bl b=>have:=Fh hd;subst this;cases rx;exact sH PySem.W.kitx_bool I.kIn True.intro (Cj X.K (.bl b) t) (fun z=>nomatch z) h
 |int b=>have:=gS hd;subst this;obtain⟨tk,rfl⟩:=rx;exact sH PySem.W.kitx_int I.kIn True.intro (Cj X.K (.int b) t) (fun z=>nomatch z) h
 |str b=>have:=wR hd;subst this;obtain⟨tk,rfl⟩:=rx;exact sH PySem.W.kitx_str I.kIn True.intro (Cj X.K (.str b) t) (fun z=>nomatch z) h
 |tup l=>
  obtain⟨a,xs,rfl,q,_⟩:=kG hd;cases rx;obtain⟨b6,_,⟨o,h1,h2,_⟩,_⟩:=I.tuple q;exact sH PySem.W.kitx_tuple I.kIn ⟨o,h1,h2⟩ (Cj X.K (.tup l) t) (fun z=>nomatch z) h
 |lst l=>
  obtain⟨a,xs,rfl,q,_⟩:=jN hd;cases rx;obtain⟨b6,_,⟨o,n,h1,h2,_⟩,_⟩:=I.list q;exact sH PySem.W.kitx_list I.kIn ⟨o,h1,h2⟩ (Cj X.K (.lst l) t) (fun z=>nomatch z) h
 |oth k ks vs=>
  obtain⟨a,us,rfl,q,_⟩:=sV hd;cases rx
  cases k with
  |dct=>exact sH PySem.W.kitx_dict I.kIn (JL I q) (Cj X.K (.oth .dct ks vs) t) (fun z=>nomatch z) h
  |set=>exact sH PySem.W.kitx_set I.kIn (JL I q) (Cj X.K (.oth .set ks vs) t) (fun z=>nomatch z) h
  |exc C=>
   obtain⟨_,o,e,h1,h2,h3⟩:=q;exact sH (h2 a) I.kIn (show ObjOk X.prog X.w H s.heap a (.frz o (.own 0)) from I.hok a _ e).1 (Ru h3 t) (fun z=>nomatch z) h
  |_=>exact q.elim
end
noncomputable def AY(ts:List Ty)(d:D):Option (D×Bool):=some (.bl (ts.any (isT d)),false)
section
variable {X:Cx}{e:gx}{fa:FO}{pos p p2:Pos}{z:Str}
theorem Oe{t:Ty}(ha:PO X e fa)(hg:Gl X "isinstance")(hm:X.mg "isinstance"=none)(cB:Gl X z)(fD:X.mg z=none)(hz:bootBuiltins z=some (.type t.n))(hn:z≠"__name__")(m9:(z==("__debug__":Str))=false)(hv:bootBuiltins "isinstance"=some (.builtin "isinstance"))
  (s1:starEach [e,.Name z p2] X.env=(false,eval e X.env)::starEach [.Name z p2] X.env)(s2:starEach [.Name z p2] X.env=(false,eval (.Name z p2) X.env)::starEach [] X.env)(j5:(backTo pos (starEach [.Name z p2] X.env)).any (·.1)=false):
  PX X (.Call (.Name "isinstance" p) [e,.Name z p2] [] pos) (jQ (AY [t]) fa):=by
 have hc:ju X (.builtin "isinstance") (fun xs H Q=> ∃(O:AP') (d:D) (x:V),xs=[x,.ty t.n]/\iW X.K H O d x/\Q (.bl (isT d t)) H):=by
  intro pins s σ H xs us Q I r h;obtain⟨O,d,x,rfl,hd,q⟩:=h;obtain⟨u,w',rfl,ru,aS⟩:=Bt r;cases aS;exact TQ I hd ru fun tk=>⟨.bl _,H,I.tok _,rfl,q⟩
 refine PX.imp (tK hc hg hm hv (kN ha (kN (FK (v:= .ty t.n) cB fD hz rfl hn m9) nW s2) s1) (by decide) (by decide) s1 j5) fun σ H Q hw=>?_;obtain⟨δ,T,rr,δ',E,e,k⟩:=hw;obtain⟨⟨o,δ1⟩,h1,e⟩:=gk e;obtain⟨x,h2,e⟩:=gk e;obtain⟨zz,h3,e⟩:=gk e;cases h3;obtain⟨rfl,rfl⟩:=gJ e;refine⟨δ,T,o,δ1,E,h1,fun v H1 P1=>?_⟩;have B:=Ops.cons E P1 (Ops.nil (P1.er E));refine⟨_,x,v,rfl,B.view (j:=0) rfl rfl h2,?_⟩;have:=(B.done k).bl;simpa using this
end
noncomputable def nU:List D->Option (List Bool)
 |[]=>some []
 | .bl b::l=>(nU l).map (b:: ·)
 |_::_=>none
noncomputable def Hl:D->Option (D×Bool)
 | .lst l=>(nU l).map fun bs=>(.bl (bs.all id),false)
 |_=>none
theorem vF{K H}{O:AP'}: ∀{l:List D} {bs:List Bool} {xs:List V} {b6:ir},nU l=some bs->RepL K H O l xs->Vals xs b6->LSm.BoolsAre b6 bs
 |[],bs,xs,b6,h,r,v=>by
  cases h;rw[RepL] at r;subst r;cases v;exact .nil
 | .bl b::l,bs,xs,b6,h,r,v=>by
  obtain⟨bs',h1,rfl⟩:=hZ h;rw[RepL] at r;obtain⟨x,xr,rfl,r1,r2⟩:=r;have:=r1.bl;subst this
  cases v with
  |cons a c=>cases a;exact .cons b (vF h1 r2 c)
 | .non::l,_,_,_,h,_,_=>by cases h
 | .int _::l,_,_,_,h,_,_=>by cases h
 | .str _::l,_,_,_,h,_,_=>by cases h
 | .tup _::l,_,_,_,h,_,_=>by cases h
 | .lst _::l,_,_,_,h,_,_=>by cases h
 | .oth _ _ _::l,_,_,_,h,_,_=>by cases h
section
variable {X:Cx}
theorem AN{h h':gL}{o:Obj}(hk: ∀b x,b∉[h.objs.size]->(h.push o).get? b=some x->h'.get? b=some x)(b:gm)(x:Obj)(e:h.get? b=some x):h'.get? b=some x:=
 hk b x (fun z=>by have:=nV.mp z;subst this;exact absurd (iq e) (pP _)) (iB _ e)
theorem zM(hc:X.calm=true):ju X (.builtin "all") (rDn X.K (g1 Hl)):=ph fun pins s σ H x u Q O d z I ru np hd hg G=>by
 cases d with
 |lst l=>
  obtain⟨bs,hb,rfl⟩:=hZ hg;obtain⟨p,xs,rfl,q,r⟩:=jN hd;cases ru;obtain⟨b6,v,pl,_⟩:=I.list q;have are:=vF hb r v;have hh:X.A.in1.handled=none:=I.ok.hd hc;have plt:p<s.heap.objs.size:=by obtain⟨_,e,_⟩:=pl.isList;exact iq e
  refine call_all_walk (wpAny_pyIter_list pl.isList ⟨s.heap.objs.size,[s.heap.objs.size,p],[s.heap.objs.size],b6.toArray.size,_,_,fun i=>(bs[i]?).getD true,rfl,Walks.list hh _ p (jy plt) b6.toArray,
   ⟨⟨_,kU _ rfl,rfl,rfl⟩,pl.isList.push _⟩,fun i w s' Q' E' hP hQ=>?_,fun h' tk hk=>?_⟩)
  ·obtain⟨b,e,rfl⟩:=are.get i w (by simpa using hP);dsimp only at hQ;rw[e] at hQ;exact vr hQ
  ·rw[jc,are.length,LSm.range_all];exact⟨.bl _,H,I.kept (AN hk),rfl,G.bl⟩
 |_=>cases hg
noncomputable def Kh:=gI fun i j=>some (.int (if j>i then j else i))
noncomputable def Kg:=gI fun i j=>some (.int (if j<i then j else i))
theorem EO(hc:X.calm=true):ju X (.builtin "max") (rDn X.K (g2 Kh)):=KC fun pins s σ H x y us Q O d e z I r np h1 h2 hg G=>by
 obtain⟨i,j,w,rfl,rfl,hf,rfl⟩:=vY hg;cases hf;exact Hu hc pins s σ H [x,y] us Q I r ⟨i,j,by rw[gS h1,gS h2],G.int⟩
theorem EN(hc:X.calm=true):ju X (.builtin "min") (rDn X.K (g2 Kg)):=KC fun pins s σ H x y us Q O d e z I r np h1 h2 hg G=>by
 obtain⟨i,j,w,rfl,rfl,hf,rfl⟩:=vY hg;cases hf;exact Ht hc pins s σ H [x,y] us Q I r ⟨i,j,by rw[gS h1,gS h2],G.int⟩
theorem xi{lo:Int}{n:Nat}{acc:kg}(h:ItemsOf (fun i v=> ∃t,v= .int (lo+(i:Int)*1) t) acc n):Vals ((List.range n).map fun(k:Nat)=>V.int (lo+k)) acc.toList:=by
 have key: ∀(l:ir) (m:Nat),(∀(j:Nat) v,l[j]?=some v-> ∃t,v= .int (lo+((m+j:Nat):Int)) t)->Vals ((List.range' m l.length).map fun(k:Nat)=>V.int (lo+k)) l:=by
  intro l
  induction l with
  |nil=>intro m _;exact .nil
  |cons v l ih=>
   intro m hv;obtain⟨t,e⟩:=hv 0 v rfl;refine .cons ⟨t,by simpa using e⟩ (ih (m+1) fun j w hw=>?_);obtain⟨t',e'⟩:=hv (j+1) w (by simpa using hw);exact⟨t',by rw[e'];congr 2;first|done|omega⟩
 have:=key acc.toList 0 fun j v hv=>by
  obtain⟨t,e⟩:=h.2 j v (by simpa using hv);exact⟨t,by rw[e];congr 1⟩
 rw[jv,h.1,<-List.range_eq_range'] at this;exact this
theorem D3{K H}(lo:Int)(n:Nat):RepL K H O (iH lo n) ((List.range n).map fun(k:Nat)=>V.int (lo+k)):=by
 unfold iH
 induction(List.range n) with
 |nil=>exact RepL.nil
 |cons k l ih=>exact RepL.cons Rep.mkInt ih
end
def RgOk(lo hi:Int):Prop:= -(2^62)<=lo/\lo<2^62/\ -(2^62)<=hi/\hi<2^62/\(hi-lo).toNat<=2^24
instance(lo hi:Int):Decidable (RgOk lo hi):=by unfold RgOk;infer_instance
noncomputable def rgV(lo hi:Int):List V:=(List.range (hi-lo).toNat).map fun(k:Nat)=>V.int (lo+k)
theorem RgOk.small{lo hi:Int}(h:RgOk lo hi):Builtin.Range.small lo hi 1=true:=small_one h.1 h.2.1 h.2.2.1 h.2.2.2.1
theorem Fv(lo hi:Int):Builtin.Range.rangeSize lo hi 1=((hi-lo).toNat:Nat):=by rw[rangeSize_one];split<;>omega
section
variable {prog:gM}{w:gE}{A:gG}{E:hV}{s:gu}
theorem EM{Q:List Value->Shared->Prop}{r:gm}{lo hi:Int}{t u v:Tok}(hh:A.handled=none)(hr:IsRange s.heap r lo hi 1 t u v)(ok:RgOk lo hi)
  (hQ: ∀(h':gL) tk (acc:kg),(∀b o,s.heap.get? b=some o->h'.get? b=some o)->ItemsOf (fun i v=> ∃t,v= .int (lo+(i:Int)*1) t) acc (hi-lo).toNat->Q acc.toList {s with heap:=h',toks:=tk}):
  wpAny (model prog w) A (collect (.ref r)) Q E s:=by
 unfold collect;refine gw (wpAny_runValue (vp F.entry_proto_collect ?_));rw[uF F.plain_proto_collect _];refine gw (m:=newList []) (mB ?_);refine gA ⟨wu F.plain_list_iadd _,vp F.entry_list_iadd ?_⟩;rw[uF F.plain_list_iadd _];have e0:=kU s.heap (o:=({cls:= .type "list",data:= .seq ([]:List Value).toArray}:Obj)) rfl
 let R:Result->Shared->Prop:=fun r s'=> ∃(h':gL) (tk:Nat) (acc:kg) (c':Nat),r= .ok (.ret (.ref s.heap.objs.size))/\s'={s with heap:=h',toks:=tk}/\(∀b o,s.heap.get? b=some o->h'.get? b=some o)/\
  h'.get? s.heap.objs.size=some {cls:= .type "list",dict:=none,data:= .seq acc c',slots:= #[]}/\ItemsOf (fun i v=> ∃t,v= .int (lo+(i:Int)*1) t) acc (hi-lo).toNat
 have fin: ∀{r s'},R r s'-> ∃v,r= .ok (.ret v)/\wpAny (model prog w) A (match v with
   |Value.ref a=>do
    match(<-load a).data with
     |Data.seq xs _=>pure xs.toList
     |_=>unsupported "internal:collect"
   |_=>unsupported "internal:collect") Q E s':=fun {r s'} hR=>by
  obtain⟨h',tk,acc,c',rfl,rfl,hk,bV,v8⟩:=hR;exact⟨_,rfl,gw (m:=load s.heap.objs.size) (wG bV (gA (hQ h' tk acc hk v8)))⟩
 refine nA (wpAny_extend_range (A:=A) (R:=R) (s:={s with heap:=s.heap.push {cls:= .type "list",data:= .seq ([]:List Value).toArray}}) hh (iB _ hr) ok.small (Fv lo hi) ok.2.2.2.2 _ _ 0 e0 fun h' tk k7 c' hk bV v8=>
  ⟨h',tk,k7,c',rfl,rfl,fun b o e=>hk b o (jy (iq e)) (iB _ e),bV,v8⟩) (fun f s' h=>?_) (fun e s' h=>?_)
 ·cases f with
  |done f=>
   obtain⟨v,hv,h2⟩:=fin h;cases hv;exact h2
  |again c'=>exact⟨h.1,rd h.2 fun r aq hr=>by obtain⟨v,rfl,h2⟩:=fin hr;exact h2⟩
 ·obtain⟨v,hv,_⟩:=fin h;cases hv
theorem Ar{Q₁:hV}{r:gm}{lo hi:Int}{t u v:Tok}(hh:A.handled=none)(hr:IsRange s.heap r lo hi 1 t u v)(ok:RgOk lo hi)
  (h: ∀(h':gL) tk (acc:kg),(∀b o,s.heap.get? b=some o->h'.get? b=some o)->ItemsOf (fun i v=> ∃t,v= .int (lo+(i:Int)*1) t) acc (hi-lo).toNat->Q₁ (.ref h'.objs.size) {s with heap:=h'.push {cls:= .type "tuple",data:= .seq acc},toks:=tk}):
  codeAny (model prog w) A (.call (.builtin "tuple.__new__") ⟨[.type "tuple",.ref r],[]⟩) (wants Q₁ E) s:=by
 refine wz ?_;refine gw (m:=checkBuiltinCall "tuple.__new__" _) (sG (F.newCall_tuple_1 _) (gA ⟨wu F.plain_tuple_new _,vp F.entry_tuple_new ?_⟩));rw[uF F.plain_tuple_new _];have hsub:=sub_tuple_self;have hinit:=init_tuple_lookup;have hmh:=madeHere_tuple;have hTI:s.TypeIs (.ref r) "range":=⟨_,hr,rfl⟩
 have hh1:A.in1.handled=none:=hh
 wp_walk using vq hTI,EM hh1 hr ok
 intro h' tk acc hk v8;have hz:acc.size<=sizeLine:=by rw[v8.1,iZ];have:=ok.2.2.2.2;omega
 refine gw (m:=Builtin.Tuple.tupleExact acc.toList.toArray) ?_;unfold Builtin.Tuple.tupleExact;refine mB ?_ (by show acc.toList.toArray.size<=sizeLine;simpa using hz);refine gA ?_;have e:acc.toList.toArray=acc:=by simp
 rw[e];exact h h' tk acc hk v8
theorem yV{Q:hV}{r:gm}{lo hi:Int}{t u v:Tok}(hh:A.handled=none)(hr:IsRange s.heap r lo hi 1 t u v)(ok:RgOk lo hi)
  (h: ∀(h':gL) tk (acc:kg),(∀b o,s.heap.get? b=some o->h'.get? b=some o)->ItemsOf (fun i v=> ∃t,v= .int (lo+(i:Int)*1) t) acc (hi-lo).toNat->Q (.ref h'.objs.size) {s with heap:=h'.push {cls:= .type "tuple",data:= .seq acc},toks:=tk}):
  wpAny (model prog w) A (call (.type "tuple") [.ref r]) Q E s:=by
 refine callType_codes (Q₁:=fun obj s₁=>s₁.TypeIs obj "tuple"/\Q obj s₁) KZ (F.typeCall_tuple_1 _) F.entry_object_init
  (Ar hh hr ok fun h' tk acc hm v8=>⟨⟨_,kU _ rfl,rfl⟩,h h' tk acc hm v8⟩) fun obj s₁ h₁=>?_
 exact⟨h₁.1,F.args_object_init_2 obj _,object_init_meets KZ.init.lookup KZ.made (by decide) prog w A.in1 _ s₁ ⟨h₁.1,rfl,h₁.2⟩⟩
end
section
variable {X:Cx}
theorem zJ:ju X (.type "range") (fun xs H Q=> ∃i j,xs=[.int i,.int j]/\ ∀r,H r=none->Q (.ref r) (upd H r (.rng i j))):=by
 intro pins s σ H xs us Q I r h;obtain⟨i,j,rfl,h⟩:=h;obtain⟨u,u',rfl,⟨t,rfl⟩,⟨t',rfl⟩⟩:=Bt r;exact call_range_2 ⟨.ref _,_,I.laid (o:= .rng i j) (fun b o e=>iB _ e) (ic _) ⟨_,_,_,kU _ rfl⟩,rfl,h _ I.fresh⟩
theorem yW(hc:X.calm=true):ju X (.type "list") (fun xs H Q=> ∃r lo hi,xs=[.ref r]/\H r=some (.rng lo hi)/\RgOk lo hi/\ ∀l,H l=none->Q (.ref l) (upd H l (.lst (rgV lo hi)))):=by
 intro pins s σ H xs us Q I dv h;obtain⟨r,lo,hi,rfl,hr,ok,h⟩:=h;obtain⟨u,rfl,ru⟩:=rh dv;cases ru;obtain⟨t,u,v,er⟩:=I.hok r _ hr;refine call_list_range (A:=X.A) (I.ok.hd hc) er ok.small (Fv lo hi) ok.2.2.2.2 fun h' tk acc c kp e items=>?_;have rv:=xi items;refine⟨.ref _,_,I.laid kp (ic _) (show ObjOk X.prog X.w _ _ _ (.lst (rgV lo hi)) from⟨?_,acc.toList,c,rv,by simpa using e⟩),rfl,h _ I.fresh⟩;have:=ok.2.2.2.2;simp only[rgV,jk,List.length_range,iZ];omega
theorem yv(hc:X.calm=true):ju X (.type "tuple") (fun xs H Q=> ∃r lo hi,xs=[.ref r]/\H r=some (.rng lo hi)/\RgOk lo hi/\ ∀l,H l=none->Q (.ref l) (upd H l (.tup (rgV lo hi)))):=by
 intro pins s σ H xs us Q I dv h;obtain⟨r,lo,hi,rfl,hr,ok,h⟩:=h;obtain⟨u,rfl,ru⟩:=rh dv;cases ru;obtain⟨t,u,v,er⟩:=I.hok r _ hr;refine yV (A:=X.A) (I.ok.hd hc) er ok fun h' tk acc kp items=>?_;have rv:=xi items;have I1:Inv X pins σ H {s with heap:=h',toks:=tk}:=I.kept kp;refine⟨.ref _,_,I1.laid (fun b o e=>iB _ e) (ic _) (show ObjOk X.prog X.w _ _ _ (.tup (rgV lo hi)) from⟨?_,acc.toList,rv,by have:=uN h' acc;simpa using this⟩),rfl,h _ I1.fresh⟩;have:=ok.2.2.2.2;simp only[rgV,jk,List.length_range,iZ];omega
noncomputable def gRg(mk:List D->D)(o:Bool):List D->Option (D×Bool)
 |[.int j]=>if RgOk 0 j then some (mk (iH 0 j.toNat),o) else none
 |[.int i,.int j]=>if RgOk i j then some (mk (iH i (j-i).toNat),o) else none
 |_=>none
theorem Fw{K H}(lo hi:Int):RepL K H O (iH lo (hi-lo).toNat) (rgV lo hi):=D3 lo _
variable {a b:gx}{fa fb:FO}{p p2 pos bG:Pos}
theorem Bu(h:upd H r o l=none):H l=none:=by
 by_cases e:l=r
 ·subst e;rw[gU] at h;cases h
 ·rwa [gR e] at h
theorem zV{K:gQ}{T T':AP'}{σ:L2.St}{δ δ':Dn}{H H':Hp}{os:List Opd}{vs:List V}{ds:List D}(B:Ops K T σ δ H os vs δ' H' T')(h:tH δ' os=some ds){is:ie}(hd:ds=is.map .int):vs=is.map .int:=by
 obtain⟨h1,h2⟩:=mU h;apply rO;intro j;by_cases hj:j<is.length
 ·rw[zc B h (j:=j) (i:=is[j]) (by rw[hd];simp[hj])];simp[hj]
 ·have l1:=B.len;subst hd;simp at h1;rw[Ah (by omega),Ah (by simp;omega)]
theorem N5{T:String}{z:Str}{mk:List D->D}{o:Bool}(hT:(T="list"/\mk= .lst/\o=true)\/(T="tuple"/\mk= .tup/\o=false))(hc:X.calm=true)(hg:Gl X z)(hm:X.mg z=none)(hv:bootBuiltins z=some (.type T))(hn:z≠"__name__")(m9:(z==("__debug__":Str))=false)
  (da:Gl X "range")(bI:X.mg "range"=none)(ha:PA X [a,b] (tA X.K [fa,fb]))
  (s1:starEach [.Call (.Name "range" p2) [a,b] [] bG] X.env=(false,eval (.Call (.Name "range" p2) [a,b] [] bG) X.env)::starEach [] X.env)(s2:starEach [a,b] X.env=(false,eval a X.env)::starEach [b] X.env)
  (j5:(backTo pos (starEach [] X.env)).any (·.1)=false)(bH:(backTo bG (starEach [b] X.env)).any (·.1)=false):
  PX X (.Call (.Name z p) [.Call (.Name "range" p2) [a,b] [] bG] [] pos) (ig (gRg mk o) [fa,fb]):=by
 have len2: ∀{δ δ1:Dn} {os:List Opd},ja [fa,fb] δ=some (os,δ1)->os.length=2:=fun {δ δ1 os} h1=>by
  unfold ja at h1;obtain⟨p,q1,h1⟩:=gk h1;obtain⟨q,q2,h1⟩:=gk h1;unfold ja at q2;obtain⟨p3,q3,q2⟩:=gk q2;obtain⟨q4,q5,q2⟩:=gk q2;unfold ja at q5;cases q5;obtain⟨rfl,rfl⟩:=gJ h1;cases q2;rfl
 rcases hT with⟨rfl,rfl,rfl⟩|⟨rfl,rfl,rfl⟩
 ·refine PX.imp (oE (yW hc) hg hm hv (kN (oE zJ da bI boot_range ha (by decide) (by decide) s2 bH) nW s1) hn m9 s1 j5) fun σ H Q hw=>?_;obtain⟨δ,T,rr,δ',E,e,k⟩:=hw;obtain⟨⟨os,δ1⟩,h1,e⟩:=gk e;obtain⟨ds,h2,e⟩:=gk e;obtain⟨zz,h3,e⟩:=gk e;obtain⟨rfl,rfl⟩:=gJ e;refine⟨δ,T,os,δ1,E,h1,fun vs H1 T1 B=>?_⟩;unfold gRg at h3;split at h3
  ·obtain⟨hl,_⟩:=mU h2;have:=len2 h1;simp at hl;omega
  ·rename_i i j;obtain⟨ok,rfl⟩:=gY h3;refine⟨i,j,zV B h2 (is:=[i,j]) rfl,fun r hr=>⟨r,i,j,rfl,gU,ok,fun l hl=>?_⟩⟩;have hx: ∀a u,H1 a=some u->upd (upd H1 r (.rng i j)) l (.lst (rgV i j)) a=some u:=fun a u e=>kM hl a u (kM hr a u e);exact(B.done k) l _ (Bu hl) hx ⟨rgV i j,gU,Fw i j⟩
  ·cases h3
 ·refine PX.imp (oE (yv hc) hg hm hv (kN (oE zJ da bI boot_range ha (by decide) (by decide) s2 bH) nW s1) hn m9 s1 j5) fun σ H Q hw=>?_;obtain⟨δ,T,rr,δ',E,e,k⟩:=hw;obtain⟨⟨os,δ1⟩,h1,e⟩:=gk e;obtain⟨ds,h2,e⟩:=gk e;obtain⟨zz,h3,e⟩:=gk e;obtain⟨rfl,rfl⟩:=gJ e;refine⟨δ,T,os,δ1,E,h1,fun vs H1 T1 B=>?_⟩;unfold gRg at h3;split at h3
  ·obtain⟨hl,_⟩:=mU h2;have:=len2 h1;simp at hl;omega
  ·rename_i i j;obtain⟨ok,rfl⟩:=gY h3;refine⟨i,j,zV B h2 (is:=[i,j]) rfl,fun r hr=>⟨r,i,j,rfl,gU,ok,fun l hl=>?_⟩⟩;have hx: ∀a u,H1 a=some u->upd (upd H1 r (.rng i j)) l (.tup (rgV i j)) a=some u:=fun a u e=>kM hl a u (kM hr a u e);exact(B.done k) _ _ hx (Rep.mkTup ⟨gU,B.np (nOw (Bu hl))⟩ (Fw i j))
  ·cases h3
end
section
variable {prog:gM}{w:gE}{A:gG}{E:hV}{s:gu}{it l:gm}{i:Nat}{xs:kg}
end
section
variable {prog:gM}{w:gE}{A:gG}{E:hV}{s:gu}{e it l:gm}{i:Nat}{c:Int}{xs:kg}
end
section
variable {X:Cx}{pins:gZ}{σ:L2.St}{H:Hp}{s:gu}{h':gL}
end
section
variable {X:Cx}{pins:gZ}{σ:L2.St}{H:Hp}{s:gu}
end
open AutoSeq1 (wpAny_loadPart')
section
variable {prog:gM}{w:gE}{A:gG}{E:hV}{s:gu}
end
section
variable {X:Cx}{pins:gZ}{σ:L2.St}{H:Hp}{s:gu}{elts:jf}{k1:Nat}{tpos:Pos}
end
section
variable {prog:gM}{w:gE}{A:gG}{E:hV}{s:gu}{z TI TO i1 i2 l1 l2:gm}{k:Nat}{xs ys:kg}{x y a b:gy}
end
section
variable {X:Cx}{elts:jf}{k1:Nat}{tpos:Pos}
end
end PX
namespace TS
open PySem PyProof.Rows
section
variable(M:Model)(A:gG)(E:hV)(G:Shared->Prop){σ:Type}
def wpI{α:Type}(m:StateT σ Sem α)(Q:α->σ->Prop)(st:σ):Prop:= ∀s,G s->wpAny M A (m.run st) (fun r s'=>G s'/\Q r.1 r.2) E s
variable {M A E G}
theorem gr{α:Type}{a:α}{Q:α->σ->Prop}{st:σ}(h:Q a st):wpI M A E G (pure a:StateT σ Sem α) Q st:=fun s g=>by rw[StateT.run_pure];exact gA ⟨g,h⟩
theorem gp{α β:Type}{m:StateT σ Sem α}{f:α->StateT σ Sem β}{Q:β->σ->Prop}{st:σ}(h:wpI M A E G m (fun a b7=>wpI M A E G (f a) Q b7) st):wpI M A E G (m>>=f) Q st:=fun s g=>by
 rw[StateT.run_bind];exact gw (nA (h s g) (fun r s' h'=>h'.2 s' h'.1) fun _ _ e=>e)
theorem ik{α:Type}{c:Prop}[Decidable c]{t e:StateT σ Sem α}{Q:α->σ->Prop}{st:σ}(h1:c->wpI M A E G t Q st)(h2: ¬c->wpI M A E G e Q st):wpI M A E G (if c then t else e) Q st:=by split<;>simp_all
theorem iE{α:Type}{m:StateT σ Sem α}{Q Q':α->σ->Prop}{st:σ}(h:wpI M A E G m Q st)(hq: ∀a b7,Q a b7->Q' a b7):wpI M A E G m Q' st:=fun s g=>nA (h s g) (fun r _ h'=>⟨h'.1,hq _ _ h'.2⟩) fun _ _ e=>e
theorem kL{Q:σ->σ->Prop}{st:σ}(h:Q st st):wpI M A E G (get:StateT σ Sem σ) Q st:=fun s g=>by rw[StateT.run_get];exact gA ⟨g,h⟩
theorem La{Q:PUnit->σ->Prop}{st b7:σ}(h:Q ⟨⟩ b7):wpI M A E G (set b7:StateT σ Sem PUnit) Q st:=fun s g=>by rw[StateT.run_set];exact gA ⟨g,h⟩
theorem jD{f:σ->σ}{Q:PUnit->σ->Prop}{st:σ}(h:Q ⟨⟩ (f st)):wpI M A E G (modify f:StateT σ Sem PUnit) Q st:=fun s g=>by rw[StateT.run_modify];exact gA ⟨g,h⟩
theorem Bm{α:Type}{m:Sem α}{Q:α->σ->Prop}{st:σ}(h: ∀s,G s->wpAny M A m (fun a s'=>G s'/\Q a st) E s):wpI M A E G (liftM m:StateT σ Sem α) Q st:=fun s g=>by
 show wpAny M A ((StateT.lift m:StateT σ Sem α).run st) _ E s;rw[StateT.run_lift];exact gw (nA (h s g) (fun a s' h'=>gA h') fun _ _ e=>e)
theorem oo{x:String}{Q:Unit->σ->Prop}{st:σ}(h:Q () st):wpI M A E G (liftM (rule x):StateT σ Sem Unit) Q st:=Bm fun s g=>uO ⟨g,h⟩
theorem Bl{β:Type}(f:Nat->β->StateT σ Sem (ForInStep β))(I:List Nat->β->σ->Prop)(Q:β->σ->Prop)
  (aA: ∀x hG b st,I (x::hG) b st->wpI M A E G (f x b) (fun r b7=>match r with| .done b'=>Q b' b7| .yield b'=>I hG b' b7) st)(bJ: ∀b st,I [] b st->Q b st):
  ∀(l:hJ) (b:β) (st:σ),I l b st->wpI M A E G (forIn l b f) Q st
 |[],b,st,h=>by rw[List.forIn_nil];exact gr (bJ _ _ h)
 |x::hG,b,st,h=>by
  rw[Dp];refine gp (iE (aA x hG b st h) fun r b7 h'=>?_)
  cases r with
  |done b'=>exact gr h'
  |yield b'=>exact Bl f I Q aA bJ hG b' b7 h'
theorem iL{β:Type}{a b:Nat}{f:Nat->β->StateT σ Sem (ForInStep β)}(I:Nat->β->σ->Prop){Q:β->σ->Prop}
  (aA: ∀i c st,a<=i->i<b->I i c st->wpI M A E G (f i c) (fun r b7=>match r with| .done c'=>Q c' b7| .yield c'=>I (i+1) c' b7) st)
  (bJ: ∀c st,I (max a b) c st->Q c st){c:β}{st:σ}(h:I a c st):wpI M A E G (forIn [a:b] c f) Q st:=by
 rw[Std.Legacy.Range.forIn_eq_forIn_range'];have cU:([a:b]:Std.Legacy.Range).size=b-a:=by simp[Std.Legacy.Range.size]
 show wpI M A E G (forIn (List.range' a ([a:b]:Std.Legacy.Range).size 1) c f) Q st;rw[cU];refine Bl f (fun l c st=> ∃i,a<=i/\i<=max a b/\l=List.range' i (max a b-i) 1/\I i c st) Q ?_ ?_ _ c st ⟨a,ic _,by lia,by congr 1;lia,h⟩
 ·rintro x hG c st ⟨i,hai,hib,hl,hI⟩
  cases hn:max a b-i with
  |zero=>rw[hn] at hl;simp at hl
  |succ n=>
   rw[hn,List.range'_succ] at hl;obtain⟨rfl,rfl⟩:=List.cons.inj hl;refine iE (aA x c st hai (by lia) hI) fun r b7 h'=>?_
   cases r with
   |done c'=>exact h'
   |yield c'=>exact⟨x+1,by lia,by lia,by congr 1;lia,h'⟩
 ·rintro c st ⟨i,hai,hib,hl,hI⟩
  have:max a b-i=0:=by
   cases hn:max a b-i with
   |zero=>rfl
   |succ n=>rw[hn,List.range'_succ] at hl;cases hl
  have:i=max a b:=by lia
  subst this;exact bJ _ _ hI
end
structure Wk(lt:lg):Prop where
 irr: ∀i,lt i i=false
 tr: ∀i j k,lt i j=true->lt j k=true->lt i k=true
 nt: ∀i j k,lt i k=true->lt i j=true\/lt j k=true
def SL(lt:lg)(i j:Nat):Prop:=lt i j=true\/(lt j i=false/\i<j)
section
variable {lt:lg}(W:Wk lt)
include W
theorem Wk.asym(h:lt i j=true):lt j i=false:=by
 cases h2:lt j i with
 |false=>rfl
 |true=>have:=W.tr _ _ _ h h2;rw[W.irr] at this;cases this
theorem Wk.le_tr(h1:lt j i=false)(h2:lt k j=false):lt k i=false:=by
 cases h:lt k i with
 |false=>rfl
 |true=>
   rcases W.nt _ j _ h with q|q
   ·rw[h2] at q;cases q
   ·rw[h1] at q;cases q
theorem Wk.lt_le(h1:lt i j=true)(h2:lt k j=false):lt i k=true:=by
 rcases W.nt _ k _ h1 with q|q
 ·exact q
 ·rw[h2] at q;cases q
theorem Wk.le_lt(h1:lt j i=false)(h2:lt j k=true):lt i k=true:=by
 rcases W.nt _ i _ h2 with q|q
 ·rw[h1] at q;cases q
 ·exact q
theorem SL.trans(h1:SL lt i j)(h2:SL lt j k):SL lt i k:=by
 rcases h1 with h1|⟨h1,e1⟩<;>rcases h2 with h2|⟨h2,e2⟩
 ·exact .inl (W.tr _ _ _ h1 h2)
 ·exact .inl (W.lt_le h1 h2)
 ·exact .inl (W.le_lt h1 h2)
 ·exact .inr ⟨W.le_tr h1 h2,by lia⟩
theorem SL.le(h:SL lt i j):lt j i=false:=h.elim W.asym fun h=>h.1
theorem SL.asym(h1:SL lt i j)(h2:SL lt j i):False:=by
 have a:=SL.le W h1;have b:=SL.le W h2;rcases h1 with h1|⟨_,e1⟩
 ·rw[b] at h1;cases h1
 ·rcases h2 with h2|⟨_,e2⟩
  ·rw[a] at h2;cases h2
  ·lia
end
noncomputable def P(p:jB)(k:Nat):Nat:=p.getD k 0
theorem KR{p q:jB}{i j:Nat}(h:p[i]?=q[j]?):P p i=P q j:=by
 simp only[P,vo,h]
theorem vH{p:jB}{i:Nat}(h:i<p.size):p[i]?=some (P p i):=by simp[P,h]
def Up(lt:lg)(p:jB)(a b:Nat):Prop:= ∀i j,a<=i->i<j->j<b->SL lt (P p i) (P p j)
def Dn(lt:lg)(p:jB)(a b:Nat):Prop:= ∀i j,a<=i->i<j->j<b->SL lt (P p j) (P p i)
def Reg(p:jB)(a b:Nat):Prop:= ∀k,a<=k->k<b->a<=P p k/\P p k<b
section
variable {prog:gM}{w:gE}{A:gG}{E:hV}{G:Shared->Prop}{it:mL}{lt:lg}{κ:SortKind}{N:Nat}
structure Rp(it:mL)(κ:SortKind)(N:Nat)(st:iI)(p:jB):Prop where
 arr:arrOf st=p.map it
 kind:kindOf st=κ
 ok:failedOf st=none
 size:p.size=N
 perm:p.Perm (Array.range N)
def Ask(prog:gM)(w:gE)(A:gG)(E:hV)(G:Shared->Prop)(it:mL)(κ:SortKind)(N:Nat)(lt:lg):Prop:=
 ∀i j,i<N->j<N-> ∀s,G s-> ∀E',wpAny (model prog w) A (keyLt' κ (it i).1 (it j).1) (fun b s'=>G s'/\b=lt i j) E' s
theorem Rp.bound{st:iI}{p:jB}(R:Rp it κ N st p){i:Nat}(h:i<N):P p i<N:=by
 have hm:P p i∈p.toList:=by
  have:=vH (p:=p) (i:=i) (by rw[R.size];exact h);exact P5.mpr (Array.mem_of_getElem? this)
 have:=(MW.mp R.perm).mem_iff.mp hm;simpa using this
theorem wM(H:Ask prog w A E G it κ N lt){st:iI}(hk:kindOf st=κ){i j:Nat}(hi:i<N)(hj:j<N){Q:Option Bool->SortSt->Prop}(h:Q (some (lt i j)) st):wpI (model prog w) A E G (lt' (it i) (it j)) Q st:=by
 rw[lt'_eq];refine gp (kL ?_);rw[hk];refine gp (Bm fun s g=>wt (nA (H i j hi hj s g fun _ _=>False) (fun b s' hb=>?_) fun e s' he=>he.elim));obtain⟨g',rfl⟩:=hb;exact⟨g',gr h⟩
theorem wN{xs:mM}{q:jB}(hx:xs=q.map it){i:Nat}(hi:i<q.size){st:iI}{Q:Keyed->SortSt->Prop}(h:Q (it (P q i)) st):wpI (model prog w) A E G (elem' xs i) Q st:=by
 rw[elem'_eq,hx];have:(q.map it)[i]?=some (it (P q i)):=by rw[Array.getElem?_map,vH hi];rfl
 rw[this];exact gr h
theorem pU(H:Ask prog w A E G it κ N lt){st:iI}{p:jB}(R:Rp it κ N st p){i j:Nat}(hi:i<N)(hj:j<N){Q:Option Bool->SortSt->Prop}(h:Q (some (lt (P p i) (P p j))) st):wpI (model prog w) A E G (ltAt' i j) Q st:=by
 rw[ltAt'_eq];refine gp (kL ?_);refine gp (wN R.arr (by rw[R.size];exact hi) (gp (wN R.arr (by rw[R.size];exact hj) ?_)));exact wM H R.kind (R.bound hi) (R.bound hj) h
theorem Em(p:jB)(i j d:Nat):mirror (p.map it) i j d=(mirror p i j d).map it:=HX it _ _ _ _
theorem ET(p:jB)(i d:Nat):bubble (p.map it) i d=(bubble p i d).map it:=HX it _ _ _ _
theorem Rp.mirror{st:iI}{p:jB}(R:Rp it κ N st p)(i j d:Nat):Rp it κ N (setArr st (PyProof.Rows.mirror (arrOf st) i j d)) (PyProof.Rows.mirror p i j d):=
 ⟨by show PyProof.Rows.mirror (arrOf st) i j d=_;rw[R.arr,Em],R.kind,R.ok,by rw[mirror_size,R.size],(mirror_perm _ _ _ _).trans R.perm⟩
theorem Rp.bubble{st:iI}{p:jB}(R:Rp it κ N st p)(i d:Nat):Rp it κ N (setArr st (PyProof.Rows.bubble (arrOf st) i d)) (PyProof.Rows.bubble p i d):=
 ⟨by show PyProof.Rows.bubble (arrOf st) i d=_;rw[R.arr,ET],R.kind,R.ok,by rw[bubble_size,R.size],(bubble_perm _ _ _).trans R.perm⟩
theorem vQ{st:iI}{i j:Nat}{Q:Unit->SortSt->Prop}(h:Q () (setArr st (mirror (arrOf st) i j ((j-i) / 2)))):wpI (model prog w) A E G (reverseSlice' i j) Q st:=by
 rw[reverseSlice'_eq];exact jD h
theorem Iz{st:iI}{i j:Nat}{Q:Unit->SortSt->Prop}(h:Q () (setArr st (bubble (arrOf st) i (i-j)))):wpI (model prog w) A E G (moveDown' i j) Q st:=by
 rw[moveDown'_eq];exact jD h
theorem jt(hj:j<=p.size)(k:Nat):P (mirror p i j ((j-i) / 2)) k=if i<=k/\k<j then P p (i+j-1-k) else P p k:=by
 have e:=getElem?_mirror_all (i:=i) hj k;split at e
 ·rename_i h;rw[gz h];exact KR e
 ·rename_i h;rw[gC h];exact KR e
theorem KS(hs:src<p.size)(hd:d<=src)(k:Nat):P (bubble p src d) k=if k=src-d then P p src else if src-d<k/\k<=src then P p (k-1) else P p k:=by
 have e:=getElem?_bubble hs d hd k;split at e
 ·rename_i h;rw[gz h];exact KR e
 ·rename_i h;rw[gC h];split at e
  ·rename_i h2;rw[gz h2];exact KR e
  ·rename_i h2;rw[gC h2];exact KR e
theorem Up.mirror(h:Up lt p a b)(hb:b<=p.size):Dn lt (PyProof.Rows.mirror p a b ((b-a) / 2)) a b:=fun i j h1 h2 h3=>by
 rw[jt hb,jt hb,gz ⟨by lia,h3⟩,gz ⟨h1,by lia⟩];exact h _ _ (by lia) (by lia) (by lia)
theorem Dn.mirror(h:Dn lt p a b)(hb:b<=p.size):Up lt (PyProof.Rows.mirror p a b ((b-a) / 2)) a b:=fun i j h1 h2 h3=>by
 rw[jt hb,jt hb,gz ⟨h1,by lia⟩,gz ⟨by lia,h3⟩];exact h _ _ (by lia) (by lia) (by lia)
theorem Reg.mirror(h:Reg p a b)(hj:j<=p.size)(h1:a<=i)(h2:j<=b):Reg (PyProof.Rows.mirror p i j ((j-i) / 2)) a b:=fun k h3 h4=>by
 rw[jt hj];split
 ·exact h _ (by lia) (by lia)
 ·exact h _ h3 h4
theorem Fe(W:Wk lt)(H:Ask prog w A E G it κ N lt){lo h9 a:Nat}(hN:lo+h9=N)(h1:1<=a)(ha:a<=h9){st:iI}{p:jB}(R:Rp it κ N st p)(rg:Reg p lo (lo+a))(fx: ∀k,lo+a<=k->k<N->P p k=k)(up:Up lt p lo (lo+a)){Q:Option (Option Nat)×Nat->SortSt->Prop}
  (h: ∀m,a<=m->m<=h9->Reg p lo (lo+m)->Up lt p lo (lo+m)->(m=h9\/lt (P p (lo+m)) (P p (lo+m-1))=true)->Q (none,m) st):
  wpI (model prog w) A E G (forIn [a:h9] ((none,a):Option (Option Nat)×Nat) fun _ r=>do
   let x <-ltAt' (lo+r.2) (lo+r.2-1)
   match x with
   |some l8=>if l8=true then pure (ForInStep.done (none,r.2)) else pure (ForInStep.yield (none,r.2+1))
   |_=>pure (ForInStep.done (some none,r.2))) Q st:=by
 refine iL (I:=fun x c b7=>b7=st/\c=(none,x)/\Reg p lo (lo+x)/\Up lt p lo (lo+x)) ?step ?fin ⟨rfl,rfl,rg,up⟩
 case fin=>
  rintro c b7 ⟨rfl,rfl,r1,u1⟩;rw[show max a h9=h9 by lia] at r1 u1 ⊢;exact h h9 ha (ic _) r1 u1 (.inl rfl)
 case step=>
  rintro x c b7 fU hxn ⟨rfl,rfl,r1,u1⟩;refine gp (pU H R (by lia) (by lia) ?_);dsimp only
  cases hl:lt (P p (lo+x)) (P p (lo+x-1)) with
  |true=>simp only[iA];exact gr (h x fU (by lia) r1 u1 (.inr hl))
  |false=>
   simp only[iJ,iX];have hx:P p (lo+x)=lo+x:=fx _ (by lia) (by lia);have ao:=r1 (lo+x-1) (by lia) (by lia);have sl:SL lt (P p (lo+x-1)) (P p (lo+x)):= .inr ⟨hl,by lia⟩;refine gr ⟨rfl,rfl,fun k k1 k2=>?_,fun i j i1 ij j2=>?_⟩
   ·rcases Ag k (lo+x) with q|q
    ·have:=r1 k k1 q;lia
    ·have:k=lo+x:=by lia
     subst this;lia
   ·rcases Ag j (lo+x) with q|q
    ·exact u1 i j i1 ij q
    ·have:j=lo+x:=by lia
     subst this;rcases Ag i (lo+x-1) with q2|q2
     ·exact SL.trans W (u1 i _ i1 q2 (by lia)) sl
     ·have:i=lo+x-1:=by lia
      subst this;exact sl
structure Fall(lt:lg)(p:jB)(lo x q N:Nat):Prop where
 le:q+1<=x
 fx: ∀k,lo+x<=k->k<N->P p k=k
 rg:Reg p lo (lo+x)
 dn:Dn lt p lo (lo+x-(q+1))
 st: ∀i j,lo<=i->i<lo+x-(q+1)->lo+x-(q+1)<=j->j<lo+x->lt (P p j) (P p i)=true
 eq: ∀i j,lo+x-(q+1)<=i->i<j->j<lo+x->lt (P p i) (P p j)=false/\lt (P p j) (P p i)=false/\P p i<P p j
theorem Fall.turn{p:jB}{lo x q:Nat}(F:Fall lt p lo x q N)(hz:lo+x<=p.size):Dn lt (PyProof.Rows.mirror p (lo+x-(q+1)) (lo+x) ((lo+x-(lo+x-(q+1))) / 2)) lo (lo+x):=fun i j i1 ij j2=>by
 have hle:=F.le;rw[jt hz,jt hz];by_cases hj:lo+x-(q+1)<=j
 ·rw[gz ⟨hj,j2⟩];by_cases hi:lo+x-(q+1)<=i
  ·rw[gz ⟨hi,by lia⟩];obtain⟨e1,e2,e3⟩:=F.eq (lo+x-(q+1)+(lo+x)-1-j) (lo+x-(q+1)+(lo+x)-1-i) (by lia) (by lia) (by lia);exact .inr ⟨e2,e3⟩
  ·rw[gC (fun z=>hi z.1)];exact .inl (F.st _ _ i1 (by lia) (by lia) (by lia))
 ·rw[gC (fun z=>hj z.1),gC (fun z=>by lia)];exact F.dn i j i1 ij (by lia)
theorem Fall.flat{p:jB}{lo x:Nat}(F:Fall lt p lo x 0 N):Dn lt p lo (lo+x):=fun i j i1 ij j2=>by
 have hle:=F.le;by_cases hj:lo+x-1<=j
 ·exact .inl (F.st i j i1 (by lia) (by lia) (by lia))
 ·exact F.dn i j i1 ij (by lia)
def Ran(it:mL)(lt:lg)(κ:SortKind)(N lo h9:Nat)(p0:jB)(bu:iI)(Q:yY):Prop:=
 ∀n st p,Rp it κ N st p->pendingOf st=pendingOf bu->1<=n->n<=h9->(∀k,k<lo->P p k=P p0 k)->(∀k,lo+n<=k->k<N->P p k=k)->Reg p lo (lo+n)->Up lt p lo (lo+n)->Q (some n) st
theorem IB(W:Wk lt)(H:Ask prog w A E G it κ N lt){lo h9 n:Nat}(hN:lo+h9=N)(hn:n<=h9){st:iI}{p:jB}(R:Rp it κ N st p)(F:Fall lt p lo n 0 N){Q:Option (Option Nat)×Nat×Nat->SortSt->Prop}
  (h: ∀x q b7 p',Rp it κ N b7 p'->pendingOf b7=pendingOf st->n<=x->x<=h9->(∀k,k<lo->P p' k=P p k)->Fall lt p' lo x q N->Q (none,x,q) b7):
  wpI (model prog w) A E G (forIn [n:h9] ((none,n,0):Option (Option Nat)×Nat×Nat) fun _ r=>do
   let x <-ltAt' (lo+r.2.1) (lo+r.2.1-1)
   match x with
   |some l8=>
    if l8=true then
     if r.2.2>0 then do
      reverseSlice' (lo+r.2.1-(r.2.2+1)) (lo+r.2.1)
      pure (ForInStep.yield (none,r.2.1+1,0))
     else pure (ForInStep.yield (none,r.2.1+1,0))
    else do
     let x <-ltAt' (lo+r.2.1-1) (lo+r.2.1)
     match x with
     |some aw=>if aw=true then pure (ForInStep.done (none,r.2.1,r.2.2)) else pure (ForInStep.yield (none,r.2.1+1,r.2.2+1))
     |_=>pure (ForInStep.done (some none,r.2.1,r.2.2))
   |_=>pure (ForInStep.done (some none,r.2.1,r.2.2))) Q st:=by
 refine iL (I:=fun x c b7=> ∃q p',c=(none,x,q)/\Rp it κ N b7 p'/\pendingOf b7=pendingOf st/\(∀k,k<lo->P p' k=P p k)/\Fall lt p' lo x q N) ?step ?fin ⟨0,p,rfl,R,rfl,fun _ _=>rfl,F⟩
 case fin=>
  rintro c b7 ⟨q,p',rfl,R',e',f',F'⟩;rw[show max n h9=h9 by lia] at F' ⊢;exact h h9 q b7 p' R' e' hn (ic _) f' F'
 case step=>
  rintro x c b7 fU hxn ⟨q,p',rfl,R',e',f',F'⟩;have hle:=F'.le;have hx:P p' (lo+x)=lo+x:=F'.fx _ (by lia) (by lia);dsimp only;refine gp (pU H R' (by lia) (by lia) ?_);dsimp only
  have next:lt (P p' (lo+x)) (P p' (lo+x-1))=true-> ∀i,lo<=i->i<lo+x->lt (P p' (lo+x)) (P p' i)=true:=fun hl i i1 i2=>by
   by_cases hi:lo+x-(q+1)<=i
   ·by_cases aM:i=lo+x-1
    ·subst aM;exact hl
    ·exact W.lt_le hl (F'.eq i (lo+x-1) hi (by lia) (by lia)).1
   ·exact W.tr _ _ _ hl (F'.st i (lo+x-1) i1 (by lia) (by lia) (by lia))
  have grow: ∀p2:Array Nat,(∀k,¬(lo<=k/\k<lo+x)->P p2 k=P p' k)->(∀i,lo<=i->i<lo+x-> ∃j,lo<=j/\j<lo+x/\P p2 i=P p' j)->Dn lt p2 lo (lo+x)->lt (P p' (lo+x)) (P p' (lo+x-1))=true->Fall lt p2 lo (x+1) 0 N:=fun p2 h1 h2 h3 hl=>by
   refine⟨by lia,fun k k1 k2=>by rw[h1 k (by lia)];exact F'.fx k (by lia) k2,fun k k1 k2=>?_,?_,fun i j i1 i2 j1 j2=>?_,fun i j i1 i2 j2=>by lia⟩
   ·by_cases hk:k<lo+x
    ·obtain⟨j,j1,j2,e⟩:=h2 k k1 hk;have:=F'.rg j j1 j2
     lia
    ·have:k=lo+x:=by lia
     subst this;rw[h1 _ (by lia),hx];lia
   ·rw[show lo+(x+1)-(0+1)=lo+x by lia];exact h3
   ·have:j=lo+x:=by lia
    subst this;rw[h1 (lo+x) (by lia)];obtain⟨j,j1,j2,e⟩:=h2 i i1 (by lia);rw[e];exact next hl j j1 j2
  cases hl:lt (P p' (lo+x)) (P p' (lo+x-1)) with
  |true=>
   simp only[iA];have hz:lo+x<=p'.size:=by rw[R'.size];lia
   by_cases hq:q>0
   ·rw[gz hq];refine gp (vQ (gr ⟨0,_,rfl,R'.mirror _ _ _,e',fun k hk=>?_,grow _ (fun k hk=>?_) (fun i i1 i2=>?_) (F'.turn hz) hl⟩))
    ·rw[jt hz,gC (by lia)];exact f' k hk
    ·rw[jt hz,gC (by lia)]
    ·rw[jt hz];split
     ·exact⟨_,by lia,by lia,rfl⟩
     ·exact⟨i,i1,i2,rfl⟩
   ·rw[gC hq];have:q=0:=by lia
    subst this;exact gr ⟨0,p',rfl,R',e',f',grow p' (fun _ _=>rfl) (fun i i1 i2=>⟨i,i1,i2,rfl⟩) F'.flat hl⟩
  |false=>
   simp only[iJ,iX];refine gp (pU H R' (by lia) (by lia) ?_);dsimp only
   cases aL:lt (P p' (lo+x-1)) (P p' (lo+x)) with
   |true=>simp only[iA];exact gr (h x q b7 p' R' e' fU (by lia) f' F')
   |false=>
    simp only[iJ,iX];have ao:=F'.rg (lo+x-1) (by lia) (by lia)
    have same: ∀i,lo+x-(q+1)<=i->i<lo+x->lt (P p' i) (P p' (lo+x))=false/\lt (P p' (lo+x)) (P p' i)=false:=fun i i1 i2=>by
     by_cases hi:i=lo+x-1
     ·subst hi;exact⟨aL,hl⟩
     ·obtain⟨e1,e2,_⟩:=F'.eq i (lo+x-1) i1 (by lia) (by lia);exact⟨W.le_tr aL e1,W.le_tr e2 hl⟩
    refine gr ⟨q+1,p',rfl,R',e',f',by lia,fun k k1 k2=>F'.fx k (by lia) k2,fun k k1 k2=>?_,?_,fun i j i1 i2 j1 j2=>?_,fun i j i1 ij j2=>?_⟩
    ·by_cases hk:k<lo+x
     ·have:=F'.rg k k1 hk;lia
     ·have:k=lo+x:=by lia
      subst this;lia
    ·rw[show lo+(x+1)-(q+1+1)=lo+x-(q+1) by lia];exact F'.dn
    ·by_cases hj:j<lo+x
     ·exact F'.st i j i1 (by lia) (by lia) hj
     ·have:j=lo+x:=by lia
      subst this;have:=F'.st i (lo+x-1) i1 (by lia) (by lia) (by lia);exact W.le_lt aL this
    ·by_cases hj:j<lo+x
     ·exact F'.eq i j (by lia) ij hj
     ·have:j=lo+x:=by lia
      subst this;obtain⟨e1,e2⟩:=same i (by lia) (by lia);have:=F'.rg i (by lia) (by lia);exact⟨e1,e2,by lia⟩
noncomputable def EZ(lo a h9:Nat):StateT SortSt Sem (Option (Option Nat)×Nat):=forIn [a:h9] ((none,a):Option (Option Nat)×Nat) fun _ r=>do
   let x <-ltAt' (lo+r.2) (lo+r.2-1)
   match x with
   |some l8=>if l8=true then pure (ForInStep.done (none,r.2)) else pure (ForInStep.yield (none,r.2+1))
   |_=>pure (ForInStep.done (some none,r.2))
noncomputable def Kv(lo n h9:Nat):StateT SortSt Sem (Option (Option Nat)×Nat×Nat):=forIn [n:h9] ((none,n,0):Option (Option Nat)×Nat×Nat) fun _ r=>do
   let x <-ltAt' (lo+r.2.1) (lo+r.2.1-1)
   match x with
   |some l8=>
    if l8=true then
     if r.2.2>0 then do
      reverseSlice' (lo+r.2.1-(r.2.2+1)) (lo+r.2.1)
      pure (ForInStep.yield (none,r.2.1+1,0))
     else pure (ForInStep.yield (none,r.2.1+1,0))
    else do
     let x <-ltAt' (lo+r.2.1-1) (lo+r.2.1)
     match x with
     |some aw=>if aw=true then pure (ForInStep.done (none,r.2.1,r.2.2)) else pure (ForInStep.yield (none,r.2.1+1,r.2.2+1))
     |_=>pure (ForInStep.done (some none,r.2.1,r.2.2))
   |_=>pure (ForInStep.done (some none,r.2.1,r.2.2))
noncomputable def Cu(lo n h9:Nat):StateT SortSt Sem (Option Nat):=do
 reverseSlice' lo (lo+n)
 let r <-EZ lo n h9
 match r.1 with
 |some r=>pure r
 |none=>pure (some r.2)
noncomputable def zD(lo n h9:Nat):StateT SortSt Sem (Option Nat):=do
 liftM (rule "list.sort.descending-run")
 let r <-Kv lo (n+1) h9
 match r.1 with
 |some r=>pure r
 |none=>
  if r.2.2>0 then do
   reverseSlice' (lo+r.2.1-(r.2.2+1)) (lo+r.2.1)
   Cu lo r.2.1 h9
  else Cu lo r.2.1 h9
theorem Cy(lo h9:Nat):countRun' lo h9=(do
  let r <-EZ lo 1 h9
  match r.1 with
  |some r=>pure r
  |none=>
   if(r.2==h9)=true then pure (some r.2)
   else if r.2>1 then do
    let x <-ltAt' lo (lo+r.2-1)
    match x with
    |some cf=>if cf=true then pure (some r.2) else do
      reverseSlice' lo (lo+r.2)
      zD lo r.2 h9
    |_=>pure none
   else zD lo r.2 h9):=by
 rw[countRun'_eq];dsimp only;unfold EZ
 congr 1
 funext r;obtain⟨r,n⟩:=r
 cases r with
 |some r=>rfl
 |none=>
  dsimp only;by_cases h1:(n==h9)=true
  ·rw[gz h1,gz h1]
  ·rw[gC h1,gC h1];by_cases h2:n>1
   ·rw[gz h2,gz h2]
    congr 1
    funext x
    cases x with
    |none=>rfl
    |some cf=>
     dsimp only
     cases cf with
     |true=>rfl
     |false=>
      simp only[iJ,iX]
      congr 1
      funext _;unfold zD Kv
      congr 1
      funext _
      congr 1
      funext r2;obtain⟨r2,n2,q2⟩:=r2
      cases r2 with
      |some r=>rfl
      |none=>
       dsimp only;by_cases h3:q2>0
       ·rw[gz h3,gz h3]
        congr 1
        funext _;unfold Cu EZ
        congr 1
        funext _
        congr 1
        funext r3;obtain⟨r3,n3⟩:=r3;cases r3<;>rfl
       ·rw[gC h3,gC h3];unfold Cu EZ
        congr 1
        funext _
        congr 1
        funext r3;obtain⟨r3,n3⟩:=r3;cases r3<;>rfl
   ·rw[gC h2,gC h2];unfold zD Kv
    congr 1
    funext _
    congr 1
    funext r2;obtain⟨r2,n2,q2⟩:=r2
    cases r2 with
    |some r=>rfl
    |none=>
     dsimp only;by_cases h3:q2>0
     ·rw[gz h3,gz h3]
      congr 1
      funext _;unfold Cu EZ
      congr 1
      funext _
      congr 1
      funext r3;obtain⟨r3,n3⟩:=r3;cases r3<;>rfl
     ·rw[gC h3,gC h3];unfold Cu EZ
      congr 1
      funext _
      congr 1
      funext r3;obtain⟨r3,n3⟩:=r3;cases r3<;>rfl
theorem Fd(W:Wk lt)(H:Ask prog w A E G it κ N lt){lo h9 n:Nat}(hN:lo+h9=N)(h1:1<=n)(hn:n<=h9){st bu:iI}{p p0:jB}(R:Rp it κ N st p)(e0:pendingOf st=pendingOf bu)(f0: ∀k,k<lo->P p k=P p0 k)(fx: ∀k,lo+n<=k->k<N->P p k=k)(rg:Reg p lo (lo+n))(dn:Dn lt p lo (lo+n))
  {Q:yY}(h:Ran it lt κ N lo h9 p0 bu Q):wpI (model prog w) A E G (Cu lo n h9) Q st:=by
 unfold Cu;have hz:lo+n<=p.size:=by rw[R.size];lia
 have out: ∀k,¬(lo<=k/\k<lo+n)->P (PyProof.Rows.mirror p lo (lo+n) ((lo+n-lo) / 2)) k=P p k:=fun k hk=>by rw[jt hz,gC hk]
 refine gp (vQ ?_);have R1:=R.mirror lo (lo+n) ((lo+n-lo) / 2);refine gp (Fe W H hN h1 hn R1 (rg.mirror hz (ic _) (ic _)) (fun k k1 k2=>by rw[out k (by lia)];exact fx k k1 k2) (dn.mirror hz) fun m m1 m2 dw cc _=>?_);exact gr (h m _ _ R1 e0 (by lia) m2 (fun k hk=>by rw[out k (by lia)];exact f0 k hk) (fun k k1 k2=>by rw[out k (by lia)];exact fx k (by lia) k2) dw cc)
theorem Bo(W:Wk lt)(H:Ask prog w A E G it κ N lt){lo h9 n:Nat}(hN:lo+h9=N)(hn:n+1<=h9){st bu:iI}{p p0:jB}(R:Rp it κ N st p)(e0:pendingOf st=pendingOf bu)(f0: ∀k,k<lo->P p k=P p0 k)(F:Fall lt p lo (n+1) 0 N)
  {Q:yY}(h:Ran it lt κ N lo h9 p0 bu Q):wpI (model prog w) A E G (zD lo n h9) Q st:=by
 unfold zD;refine gp (oo (gp (IB W H hN hn R F fun x q b7 p' R' e' x1 x2 f' F'=>?_)));dsimp only;have hle:=F'.le;have hz:lo+x<=p'.size:=by rw[R'.size];lia
 by_cases hq:q>0
 ·rw[gz hq];refine gp (vQ (Fd W H hN (by lia) x2 (R'.mirror _ _ _) (e'.trans e0) (fun k hk=>?_) (fun k k1 k2=>?_) (F'.rg.mirror hz (by lia) (ic _)) (F'.turn hz) h))
  ·rw[jt hz,gC (by lia)];exact(f' k hk).trans (f0 k hk)
  ·rw[jt hz,gC (by lia)];exact F'.fx k k1 k2
 ·rw[gC hq];have:q=0:=by lia
  subst this;exact Fd W H hN (by lia) x2 R' (e'.trans e0) (fun k hk=>(f' k hk).trans (f0 k hk)) F'.fx F'.rg F'.flat h
theorem Gx(W:Wk lt)(H:Ask prog w A E G it κ N lt){lo h9:Nat}(hN:lo+h9=N)(h1:1<=h9){st:iI}{p:jB}(R:Rp it κ N st p)(fx: ∀k,lo<=k->k<N->P p k=k){Q:yY}(h:Ran it lt κ N lo h9 p st Q):
  wpI (model prog w) A E G (countRun' lo h9) Q st:=by
 rw[Cy];refine gp (Fe W H hN (ic _) h1 R (fun k k1 k2=>by rw[fx k k1 (by lia)];lia) (fun k k1 k2=>fx k (by lia) k2) (fun i j i1 ij j2=>by lia) fun n n1 n2 rg up hl=>?_);dsimp only;by_cases he:(n==h9)=true
 ·rw[gz he];exact gr (h n st p R rfl n1 n2 (fun _ _=>rfl) (fun k k1 k2=>fx k (by lia) k2) rg up)
 ·rw[gC he];have w9:n≠h9:=fun z=>he (by simp[z]);have hl:lt (P p (lo+n)) (P p (lo+n-1))=true:=hl.resolve_left w9;have hx:P p (lo+n)=lo+n:=fx _ (by lia) (by lia);by_cases hg:n>1
  ·rw[gz hg];refine gp (pU H R (by lia) (by lia) ?_);dsimp only
   cases hr:lt (P p lo) (P p (lo+n-1)) with
   |true=>simp only[iA];exact gr (h n st p R rfl n1 n2 (fun _ _=>rfl) (fun k k1 k2=>fx k (by lia) k2) rg up)
   |false=>
    simp only[iJ,iX];have hz:lo+n<=p.size:=by rw[R.size];lia
    have out: ∀k,¬(lo<=k/\k<lo+n)->P (PyProof.Rows.mirror p lo (lo+n) ((lo+n-lo) / 2)) k=P p k:=fun k hk=>by rw[jt hz,gC hk]
    have small: ∀i,lo<=i->i<lo+n->lt (P p (lo+n)) (P p i)=true:=fun i i1 i2=>by
     have hi:lt (P p i) (P p (lo+n-1))=false:=by
      by_cases hi:i=lo
      ·subst hi;exact hr
      ·exact W.le_tr hr (SL.le W (up lo i (ic _) (by lia) i2)) |> fun z=>by
        cases hc:lt (P p i) (P p (lo+n-1)) with
        |false=>rfl
        |true=>
         have:=W.le_lt (SL.le W (up lo i (ic _) (by lia) i2)) hc;rw[hr] at this;cases this
     exact W.lt_le hl hi
    refine gp (vQ (Bo W H hN (by lia) (R.mirror _ _ _) rfl (fun k hk=>out k (by lia)) ⟨by lia,fun k k1 k2=>by rw[out k (by lia)];exact fx k (by lia) k2,fun k k1 k2=>?_,?_,fun i j i1 i2 j1 j2=>?_,fun i j i1 ij j2=>by lia⟩ h))
    ·by_cases hk:k<lo+n
     ·have:=rg.mirror (i:=lo) (j:=lo+n) hz (ic _) (ic _) k k1 hk;lia
     ·have:k=lo+n:=by lia
      subst this;rw[out _ (by lia),hx];lia
    ·rw[show lo+(n+1)-(0+1)=lo+n by lia];exact up.mirror hz
    ·have:j=lo+n:=by lia
     subst this;rw[out (lo+n) (by lia),jt hz,gz ⟨i1,by lia⟩];exact small _ (by lia) (by lia)
  ·rw[gC hg];have:n=1:=by lia
   subst this;refine Bo W H hN (by lia) R rfl (fun _ _=>rfl) ⟨by lia,fun k k1 k2=>fx k (by lia) k2,fun k k1 k2=>by rw[fx k k1 (by lia)];lia,fun i j i1 ij j2=>by lia,fun i j i1 i2 j1 j2=>?_,fun i j i1 ij j2=>by lia⟩ h;have e1:j=lo+1:=by lia
   have e2:i=lo:=by lia
   subst e1;subst e2;exact hl
theorem Lb(W:Wk lt)(H:Ask prog w A E G it κ N lt){lo n ok:Nat}(h1:1<=ok)(hok:ok<=n)(hn:lo+n<=N){st:iI}{p:jB}(R:Rp it κ N st p)(fx: ∀k,lo+ok<=k->k<N->P p k=k)(rg:Reg p lo (lo+ok))(up:Up lt p lo (lo+ok)){Q:Bool->SortSt->Prop}
  (h: ∀b7 p',Rp it κ N b7 p'->pendingOf b7=pendingOf st->(∀k,k<lo->P p' k=P p k)->(∀k,lo+n<=k->k<N->P p' k=k)->Reg p' lo (lo+n)->Up lt p' lo (lo+n)->Q true b7):wpI (model prog w) A E G (binarySort' lo n ok) Q st:=by
 rw[binarySort'_eq];dsimp only;rw[show max ok 1=ok by lia]
 refine gp (iE (iL (I:=fun k c b7=>c=(none,())/\ ∃p',Rp it κ N b7 p'/\pendingOf b7=pendingOf st/\(∀i,i<lo->P p' i=P p i)/\(∀i,lo+k<=i->i<N->P p' i=i)/\Reg p' lo (lo+k)/\Up lt p' lo (lo+k))
  (Q:=fun c b7=>c=(none,())/\ ∃p',Rp it κ N b7 p'/\pendingOf b7=pendingOf st/\(∀i,i<lo->P p' i=P p i)/\(∀i,lo+n<=i->i<N->P p' i=i)/\Reg p' lo (lo+n)/\Up lt p' lo (lo+n)) ?step ?fin ⟨rfl,p,R,rfl,fun _ _=>rfl,fx,rg,up⟩) ?post)
 case post=>
  rintro c b7 ⟨rfl,p',a1,a2,a3,a4,a5,a6⟩;exact gr (h b7 p' a1 a2 a3 a4 a5 a6)
 case fin=>
  rintro c b7 hc;rw[show max ok n=n by lia] at hc;exact hc
 case step=>
  rintro k c b7 cA eJ ⟨rfl,p',R',e',f',fx',dw,cc⟩;have hkey:P p' (lo+k)=lo+k:=fx' _ (by lia) (by lia)
  refine gp (iE (iL (I:=fun i c i8=>i8=b7/\ ∃l r,c=(none,l,r)/\l<=r/\r<=k/\r-l<=k-i/\(∀i,i<l->lt (P p' (lo+k)) (P p' (lo+i))=false)/\(∀i,r<=i->i<k->lt (P p' (lo+k)) (P p' (lo+i))=true))
   (Q:=fun c i8=>i8=b7/\ ∃l r,c=(none,l,r)/\l<=k/\(∀i,i<l->lt (P p' (lo+k)) (P p' (lo+i))=false)/\(∀i,l<=i->i<k->lt (P p' (lo+k)) (P p' (lo+i))=true)) ?s2 ?f2 ⟨rfl,0,k,rfl,by lia,by lia,by lia,fun i hi=>by lia,fun i i1 i2=>by lia⟩) ?p2)
  case f2=>
   rintro c i8 ⟨rfl,l,r,rfl,a1,a2,a3,a4,a5⟩;have:l=r:=by lia
   subst this;exact⟨rfl,l,l,rfl,a2,a4,a5⟩
  case s2=>
   rintro i c i8 _ hi ⟨rfl,l,r,rfl,a1,a2,a3,a4,a5⟩;dsimp only;by_cases hlr:l>=r
   ·rw[gz hlr];have:l=r:=by lia
    subst this;exact gr ⟨rfl,l,l,rfl,a2,a4,a5⟩
   ·rw[gC hlr];refine gp (pU H R' (by lia) (by lia) ?_);dsimp only
    cases hl:lt (P p' (lo+k)) (P p' (lo+(l+r) / 2)) with
    |true=>
     simp only[iA];refine gr ⟨rfl,l,(l+r) / 2,rfl,by lia,by lia,by lia,a4,fun i i1 i2=>?_⟩;by_cases hi:i=(l+r) / 2
     ·subst hi;exact hl
     ·exact W.lt_le hl (SL.le W (cc (lo+(l+r) / 2) (lo+i) (by lia) (by lia) (by lia)))
    |false=>
     simp only[iJ,iX];refine gr ⟨rfl,(l+r) / 2+1,r,rfl,by lia,a2,by lia,fun i i1=>?_,a5⟩;by_cases hi:i=(l+r) / 2
     ·subst hi;exact hl
     ·exact W.le_tr (SL.le W (cc (lo+i) (lo+(l+r) / 2) (by lia) (by lia) (by lia))) hl
  case p2=>
   rintro c i8 ⟨rfl,l,r,rfl,hl,a4,a5⟩;dsimp only;have hz:lo+k<p'.size:=by rw[R'.size];lia
   have hd:lo+k-(lo+l)<=lo+k:=by lia
   have ib: ∀i,P (PyProof.Rows.bubble p' (lo+k) (lo+k-(lo+l))) i=if i=lo+l then P p' (lo+k) else if lo+l<i/\i<=lo+k then P p' (i-1) else P p' i:=fun i=>by
    rw[KS hz hd,show lo+k-(lo+k-(lo+l))=lo+l by lia]
   refine gp (Iz (gr ⟨rfl,_,R'.bubble _ _,e',fun i hi=>?_,fun i i1 i2=>?_,fun i i1 i2=>?_,fun i j i1 ij j2=>?_⟩))
   ·rw[ib,gC (by lia),gC (by lia)];exact f' i hi
   ·rw[ib,gC (by lia),gC (by lia)];exact fx' i (by lia) i2
   ·rw[ib];split
    ·rw[hkey];lia
    ·split
     ·have:=dw (i-1) (by lia) (by lia);lia
     ·have:=dw i i1 (by lia);lia
   ·
    have above: ∀m,l<=m->m<k->SL lt (P p' (lo+k)) (P p' (lo+m)):=fun m m1 m2=> .inl (a5 m m1 m2);have below: ∀m,m<l->SL lt (P p' (lo+m)) (P p' (lo+k)):=fun m m1=> .inr ⟨a4 m m1,by have:=dw (lo+m) (by lia) (by lia);lia⟩;rw[ib,ib];by_cases hi:i=lo+l
    ·subst hi;rw[gz rfl,gC (by lia),gz (by lia)];have:=above (j-1-lo) (by lia) (by lia)
     rwa [show lo+(j-1-lo)=j-1 by lia] at this
    ·rw[gC hi];by_cases hj:j=lo+l
     ·subst hj;rw[gz rfl,gC (by lia)];have:=below (i-lo) (by lia)
      rwa [show lo+(i-lo)=i by lia] at this
     ·rw[gC hj];by_cases ci:lo+l<i/\i<=lo+k
      ·rw[gz ci,gz (by lia)];exact cc _ _ (by lia) (by lia) (by lia)
      ·rw[gC ci];by_cases cj:lo+l<j/\j<=lo+k
       ·rw[gz cj];exact cc _ _ i1 (by lia) (by lia)
       ·rw[gC cj];exact cc _ _ i1 ij (by lia)
end
noncomputable def ky:Bool->Keyed->Array Keyed->Nat->Nat->Nat->StateT SortSt Sem (Option Nat):=sortPriv%PySem.Builtin.gallop
noncomputable def xJ:Array Keyed->Array Keyed->StateT SortSt Sem (Array Keyed):=sortPriv%PySem.Builtin.mergeLo
noncomputable def xM:Array Keyed->Array Keyed->StateT SortSt Sem (Array Keyed):=sortPriv%PySem.Builtin.mergeHi
noncomputable def tw:Nat->StateT SortSt Sem Unit:=sortPriv%PySem.Builtin.setMinGallop
noncomputable def bey(left:Bool)(key:Keyed)(arr:mM)(base i:Nat):StateT SortSt Sem (Option Bool):=do
 let y <-elem' arr (base+i)
 if left=true then lt' y key else do
  let r <-lt' key y
  pure (Option.map (fun x=>!x) r)
theorem Hj(left:Bool)(key:Keyed)(arr:mM)(base n hint:Nat):ky left key arr base n hint=(do
 let mut lastofs:=0
 let mut ofs:=1
 let mut lo:=0
 let mut hi:=0
 let some right <-bey left key arr base hint|return none
 if right then
  let t7:=n-hint
  for _ in [0:n] do
   if ofs>=t7 then break
   let some more <-bey left key arr base (hint+ofs)|return none
   if !more then break
   lastofs:=ofs
   ofs:=2*ofs+1
  lo:=hint+lastofs+1
  hi:=hint+min ofs t7
 else
  let t7:=hint+1
  for _ in [0:n] do
   if ofs>=t7 then break
   let some found <-bey left key arr base (hint-ofs)|return none
   if found then break
   lastofs:=ofs
   ofs:=2*ofs+1
  lo:=hint+1-min ofs t7
  hi:=hint-lastofs
 for _ in [0:n] do
  if lo>=hi then break
  let m:=lo+(hi-lo) / 2
  let some more <-bey left key arr base m|return none
  if more then lo:=m+1 else hi:=m
 return some hi):=rfl
section
variable {prog:gM}{w:gE}{A:gG}{E:hV}{G:Shared->Prop}{it:mL}{lt:lg}{κ:SortKind}{N:Nat}
noncomputable def Bq(lt:lg)(left:Bool)(x:Nat)(q:jB)(base i:Nat):Bool:=if left=true then lt (P q (base+i)) x else !lt x (P q (base+i))
theorem vR(H:Ask prog w A E G it κ N lt){left:Bool}{x:Nat}{q:jB}{base i:Nat}(hx:x<N)(hq: ∀k,k<q.size->P q k<N)(hi:base+i<q.size){st:iI}(hk:kindOf st=κ){Q:Option Bool->SortSt->Prop}(h:Q (some (Bq lt left x q base i)) st):
  wpI (model prog w) A E G (bey left (it x) (q.map it) base i) Q st:=by
 unfold bey;refine gp (wN rfl hi ?_);unfold Bq at h
 cases left with
 |true=>simp only[iA] at h ⊢;exact wM H hk (hq _ hi) hx h
 |false=>simp only[iJ,iX] at h ⊢;exact gp (wM H hk hx (hq _ hi) (gr h))
theorem Bn(H:Ask prog w A E G it κ N lt){left:Bool}{x:Nat}{q:jB}{base n:Nat}(hx:x<N)(hq: ∀k,k<q.size->P q k<N)(hn:base+n<=q.size){st:iI}(hk:kindOf st=κ)(mono: ∀i j,i<=j->j<n->Bq lt left x q base j=true->Bq lt left x q base i=true)
  {lo hi:Nat}(h1:lo<=hi)(h2:hi<=n)(h3: ∀i,i<lo->Bq lt left x q base i=true)(h4: ∀i,hi<=i->i<n->Bq lt left x q base i=false){Q:Option (Option Nat)×Nat×Nat->SortSt->Prop}
  (h: ∀r,r<=n->(∀i,i<r->Bq lt left x q base i=true)->(∀i,r<=i->i<n->Bq lt left x q base i=false)->Q (none,r,r) st):
  wpI (model prog w) A E G (forIn [:n] ((none,lo,hi):Option (Option Nat)×Nat×Nat) fun _ r=>
    if r.2.1>=r.2.2 then pure (ForInStep.done (none,r.2.1,r.2.2))
    else do
     let y <-bey left (it x) (q.map it) base (r.2.1+(r.2.2-r.2.1) / 2)
     match y with
     |some more=>if more=true then pure (ForInStep.yield (none,r.2.1+(r.2.2-r.2.1) / 2+1,r.2.2)) else pure (ForInStep.yield (none,r.2.1,r.2.1+(r.2.2-r.2.1) / 2))
     |_=>pure (ForInStep.done (some none,r.2.1,r.2.2))) Q st:=by
 refine(iE (iL (I:=fun i c i8=>i8=st/\ ∃lo hi,c=(none,lo,hi)/\lo<=hi/\hi<=n/\hi-lo<=n-i/\(∀i,i<lo->Bq lt left x q base i=true)/\(∀i,hi<=i->i<n->Bq lt left x q base i=false))
  (Q:=fun c i8=>i8=st/\ ∃r,c=(none,r,r)/\r<=n/\(∀i,i<r->Bq lt left x q base i=true)/\(∀i,r<=i->i<n->Bq lt left x q base i=false)) ?step ?fin ⟨rfl,lo,hi,rfl,h1,h2,by lia,h3,h4⟩) ?post)
 case post=>
  rintro c i8 ⟨rfl,r,rfl,a1,a2,a3⟩;exact h r a1 a2 a3
 case fin=>
  rintro c i8 ⟨rfl,lo,hi,rfl,a1,a2,a3,a4,a5⟩;have:lo=hi:=by lia
  subst this;exact⟨rfl,lo,rfl,a2,a4,a5⟩
 case step=>
  rintro i c i8 _ cZ ⟨rfl,lo,hi,rfl,a1,a2,a3,a4,a5⟩;dsimp only;by_cases hlh:lo>=hi
  ·rw[gz hlh];have:lo=hi:=by lia
   subst this;exact gr ⟨rfl,lo,rfl,a2,a4,a5⟩
  ·rw[gC hlh];refine gp (vR (i:=lo+(hi-lo) / 2) H hx hq (by lia) hk ?_);dsimp only
   cases hb:Bq lt left x q base (lo+(hi-lo) / 2) with
   |true=>
    simp only[iA];exact gr ⟨rfl,_,hi,rfl,by lia,a2,by lia,fun i aM=>mono i (lo+(hi-lo) / 2) (by lia) (by lia) hb,a5⟩
   |false=>
    simp only[iJ,iX];refine gr ⟨rfl,lo,_,rfl,by lia,by lia,by lia,a4,fun i i1 i2=>?_⟩
    cases hc:Bq lt left x q base i with
    |false=>rfl
    |true=>have:=mono _ _ i1 i2 hc;rw[hb] at this;cases this
theorem DL(H:Ask prog w A E G it κ N lt){left:Bool}{x:Nat}{q:jB}{base n hint:Nat}(hx:x<N)(hq: ∀k,k<q.size->P q k<N)(hn:base+n<=q.size)(hh:hint<n){st:iI}(hk:kindOf st=κ)(mono: ∀i j,i<=j->j<n->Bq lt left x q base j=true->Bq lt left x q base i=true)
  {Q:yY}(h: ∀r,r<=n->(∀i,i<r->Bq lt left x q base i=true)->(∀i,r<=i->i<n->Bq lt left x q base i=false)->Q (some r) st):
  wpI (model prog w) A E G (ky left (it x) (q.map it) base n hint) Q st:=by
 have anti: ∀i j,i<=j->j<n->Bq lt left x q base i=false->Bq lt left x q base j=false:=fun i j ij jn hi=>by
  cases hc:Bq lt left x q base j with
  |false=>rfl
  |true=>have:=mono _ _ ij jn hc;rw[hi] at this;cases this
 rw[Hj];dsimp only;refine gp (vR (i:=hint) H hx hq (by lia) hk ?_);dsimp only
 cases hb:Bq lt left x q base hint with
 |true=>
  simp only[iA]
  refine gp (iE (iL (I:=fun i c i8=>i8=st/\ ∃last ofs,c=(none,last,ofs)/\last<ofs/\i+1<=ofs/\hint+last<n/\Bq lt left x q base (hint+last)=true)
   (Q:=fun c i8=>i8=st/\ ∃last ofs,c=(none,last,ofs)/\last<ofs/\hint+last<n/\Bq lt left x q base (hint+last)=true/\(ofs>=n-hint\/Bq lt left x q base (hint+ofs)=false)) ?step ?fin ⟨rfl,0,1,rfl,by lia,by lia,by lia,hb⟩) ?post)
  case post=>
   rintro c i8 ⟨rfl,last,ofs,rfl,a1,a2,a3,a4⟩;dsimp only;refine gp (Bn H hx hq hn hk mono (lo:=hint+last+1) (hi:=hint+min ofs (n-hint)) (by lia) (by lia) (fun i hi=>mono i _ (by lia) a2 a3) (fun i i1 i2=>?_) fun r b1 b2 b3=>gr (h r b1 b2 b3));rcases a4 with a4|a4
   ·lia
   ·exact anti (hint+ofs) i (by lia) i2 a4
  case fin=>
   rintro c i8 ⟨rfl,last,ofs,rfl,a1,a2,a3,a4⟩;exact⟨rfl,last,ofs,rfl,a1,a3,a4,.inl (by lia)⟩
  case step=>
   rintro i c i8 _ hi ⟨rfl,last,ofs,rfl,a1,a2,a3,a4⟩;dsimp only;by_cases ho:ofs>=n-hint
   ·rw[gz ho];exact gr ⟨rfl,last,ofs,rfl,a1,a3,a4,.inl ho⟩
   ·rw[gC ho];refine gp (vR (i:=hint+ofs) H hx hq (by lia) hk ?_);dsimp only
    cases hc:Bq lt left x q base (hint+ofs) with
    |false=>simp only[Bool.not_false,iA];exact gr ⟨rfl,last,ofs,rfl,a1,a3,a4,.inr hc⟩
    |true=>simp only[lH,iJ,iX];exact gr ⟨rfl,ofs,2*ofs+1,rfl,by lia,by lia,by lia,hc⟩
 |false=>
  simp only[iJ,iX]
  refine gp (iE (iL (I:=fun i c i8=>i8=st/\ ∃last ofs,c=(none,last,ofs)/\last<ofs/\i+1<=ofs/\last<=hint/\Bq lt left x q base (hint-last)=false)
   (Q:=fun c i8=>i8=st/\ ∃last ofs,c=(none,last,ofs)/\last<ofs/\last<=hint/\Bq lt left x q base (hint-last)=false/\(ofs>=hint+1\/Bq lt left x q base (hint-ofs)=true)) ?step ?fin ⟨rfl,0,1,rfl,by lia,by lia,by lia,hb⟩) ?post)
  case post=>
   rintro c i8 ⟨rfl,last,ofs,rfl,a1,a2,a3,a4⟩;dsimp only;refine gp (Bn H hx hq hn hk mono (lo:=hint+1-min ofs (hint+1)) (hi:=hint-last) (by lia) (by lia) (fun i hi=>?_) (fun i i1 i2=>anti _ i i1 i2 a3) fun r b1 b2 b3=>gr (h r b1 b2 b3));rcases a4 with a4|a4
   ·lia
   ·by_cases ho:ofs>=hint+1
    ·lia
    ·exact mono i _ (by lia) (by lia) a4
  case fin=>
   rintro c i8 ⟨rfl,last,ofs,rfl,a1,a2,a3,a4⟩;exact⟨rfl,last,ofs,rfl,a1,a3,a4,.inl (by lia)⟩
  case step=>
   rintro i c i8 _ hi ⟨rfl,last,ofs,rfl,a1,a2,a3,a4⟩;dsimp only;by_cases ho:ofs>=hint+1
   ·rw[gz ho];exact gr ⟨rfl,last,ofs,rfl,a1,a3,a4,.inl ho⟩
   ·rw[gC ho];refine gp (vR (i:=hint-ofs) H hx hq (by lia) hk ?_);dsimp only
    cases hc:Bq lt left x q base (hint-ofs) with
    |true=>simp only[iA];exact gr ⟨rfl,last,ofs,rfl,a1,a3,a4,.inr hc⟩
    |false=>simp only[iJ,iX];exact gr ⟨rfl,ofs,2*ofs+1,rfl,by lia,by lia,by lia,hc⟩
end
theorem En(a b:mM):xJ a b=(do
 rule "list.sort.merge-lo"
 let total:=a.size+b.size
 let done (out:mM) (ia ib:Nat):=out++a.extract ia a.size++b.extract ib b.size
 let t4 (out:mM) (ia ib:Nat):=out++b.extract ib b.size++a.extract ia a.size
 let mut out:Array Keyed:= #[<-elem' b 0]
 let mut ia:=0
 let mut ib:=1
 if ib==b.size then return done out ia ib
 if ia+1==a.size then return t4 out ia ib
 let mut minGallop:=gallopOf (<-get)
 for _ in [0:total] do
  let mut acount:=0
  let mut bcount:=0
  for _ in [0:total] do
   let some bWins <-lt' (<-elem' b ib) (<-elem' a ia)|return done out ia ib
   if bWins then
    out:=out.push (<-elem' b ib);ib:=ib+1;bcount:=bcount+1;acount:=0
    if ib==b.size then return done out ia ib
    if bcount>=minGallop then break
   else
    out:=out.push (<-elem' a ia);ia:=ia+1;acount:=acount+1;bcount:=0
    if ia+1==a.size then return t4 out ia ib
    if acount>=minGallop then break
  rule "list.sort.gallop"
  minGallop:=minGallop+1
  for _ in [0:total] do
   if minGallop>1 then minGallop:=minGallop-1
   tw minGallop
   let some k <-ky false (<-elem' b ib) a ia (a.size-ia) 0|return done out ia ib
   acount:=k
   if k>0 then
    out:=out++a.extract ia (ia+k);ia:=ia+k
    if ia+1==a.size then return t4 out ia ib
    if ia==a.size then return done out ia ib
   out:=out.push (<-elem' b ib);ib:=ib+1
   if ib==b.size then return done out ia ib
   let some k <-ky true (<-elem' a ia) b ib (b.size-ib) 0|return done out ia ib
   bcount:=k
   if k>0 then
    out:=out++b.extract ib (ib+k);ib:=ib+k
    if ib==b.size then return done out ia ib
   out:=out.push (<-elem' a ia);ia:=ia+1
   if ia+1==a.size then return t4 out ia ib
   if acount<7&&bcount<7 then break
  minGallop:=minGallop+1
  tw minGallop
 unsupported "internal:list.sort.merge-bound"):=rfl
section
variable {prog:gM}{w:gE}{A:gG}{E:hV}{G:Shared->Prop}{it:mL}{lt:lg}{κ:SortKind}{N:Nat}
structure Pre(lt:lg)(N:Nat)(q r:hJ):Prop where
 sq:q.Pairwise (SL lt)
 sr:r.Pairwise (SL lt)
 ix: ∀x∈q,∀y∈r,x<y
 nq: ∀x∈q,x<N
 nr: ∀x∈r,x<N
structure MG(lt:lg)(q r o:hJ)(ia ib:Nat):Prop where
 srt:o.Pairwise (SL lt)
 low: ∀x∈o,∀y,(y∈q.drop ia\/y∈r.drop ib)->SL lt x y
 pm:(o++(q.drop ia++r.drop ib)).Perm (q++r)
def Res(lt:lg)(it:mL)(q r:hJ)(out:mM):Prop:= ∃o:List Nat,out=(o.map it).toArray/\o.Pairwise (SL lt)/\o.Perm (q++r)
theorem jS{l:hJ}{i:Nat}(h:i<l.length):l.drop i=l[i]::l.drop (i+1):=qW h
theorem nM{l:hJ}{i j:Nat}{x:Nat}(h:x∈l.drop j)(o4:i<=j):x∈l.drop i:=by
 rw[show j=i+(j-i) by lia,<-oh] at h;exact kT h
section
variable {q r o:hJ}{ia ib:Nat}(W:Wk lt)(B:Pre lt N q r)
include W B
theorem Ez(h:ia<q.length): ∀y∈q.drop (ia+1),SL lt q[ia] y:=fun y hy=>by
 have:=B.sq.sublist (og ia q);rw[jS h,pE] at this;exact this.1 y hy
theorem AU(h:ib<r.length): ∀y∈r.drop (ib+1),SL lt r[ib] y:=fun y hy=>by
 have:=B.sr.sublist (og ib r);rw[jS h,pE] at this;exact this.1 y hy
theorem MG.putB(m:MG lt q r o ia ib)(hb:ib<r.length)(h: ∀y∈q.drop ia,SL lt r[ib] y):MG lt q r (o++[r[ib]]) ia (ib+1):=by
 have hm:r[ib]∈r.drop ib:=by rw[jS hb];exact iN
 refine⟨nv.mpr ⟨m.srt,Af _ _,fun x hx y hy=>?_⟩,fun x hx y hy=>?_,?_⟩
 ·rw[nV] at hy;subst hy;exact m.low x hx _ (.inr hm)
 ·rcases nu.mp hx with hx|hx
  ·exact m.low x hx y (hy.imp id fun z=>nM z (wA _))
  ·rw[nV] at hx;subst hx;exact hy.elim (h y) (AU W B hb y)
 ·refine List.Perm.trans ?_ m.pm;rw[jS hb,jF];refine qV o ?_;exact(Bj (l₁:=q.drop ia) (l₂:=r.drop (ib+1)) (a:=r[ib])).symm
theorem MG.putA(m:MG lt q r o ia ib)(ha:ia<q.length)(h: ∀y∈r.drop ib,SL lt q[ia] y):MG lt q r (o++[q[ia]]) (ia+1) ib:=by
 have hm:q[ia]∈q.drop ia:=by rw[jS ha];exact iN
 refine⟨nv.mpr ⟨m.srt,Af _ _,fun x hx y hy=>?_⟩,fun x hx y hy=>?_,?_⟩
 ·rw[nV] at hy;subst hy;exact m.low x hx _ (.inl hm)
 ·rcases nu.mp hx with hx|hx
  ·exact m.low x hx y (hy.imp (fun z=>nM z (wA _)) id)
  ·rw[nV] at hx;subst hx;exact hy.elim (Ez W B ha y) (h y)
 ·refine List.Perm.trans ?_ m.pm;rw[jS ha,jF];exact vn _
theorem MG.putBs(m:MG lt q r o ia ib)(h: ∀x∈(r.drop ib).take k,∀y∈q.drop ia,SL lt x y):MG lt q r (o++(r.drop ib).take k) ia (ib+k):=by
 have hs:=B.sr.sublist (og ib r);rw[<-lh k (r.drop ib),nv] at hs;obtain⟨s1,s2,s3⟩:=hs;have e:r.drop (ib+k)=(r.drop ib).drop k:=by rw[oh]
 refine⟨nv.mpr ⟨m.srt,s1,fun x hx y hy=>m.low x hx y (.inr (mx hy))⟩,fun x hx y hy=>?_,?_⟩
 ·rcases nu.mp hx with hx|hx
  ·exact m.low x hx y (hy.imp id fun z=>nM z (Nat.le_add_right _ _))
  ·exact hy.elim (h x hx y) fun z=>s3 x hx y (by rw[<-e];exact z)
 ·refine List.Perm.trans ?_ m.pm;rw[e,jF];refine qV o ?_
  have:(List.take k (r.drop ib)++(q.drop ia++List.drop k (r.drop ib))).Perm (q.drop ia++(List.take k (r.drop ib)++List.drop k (r.drop ib))):=by
   rw[<-jF,<-jF];exact uE _ Ae
  rw[lh] at this;exact this
theorem MG.putAs(m:MG lt q r o ia ib)(h: ∀x∈(q.drop ia).take k,∀y∈r.drop ib,SL lt x y):MG lt q r (o++(q.drop ia).take k) (ia+k) ib:=by
 have hs:=B.sq.sublist (og ia q);rw[<-lh k (q.drop ia),nv] at hs;obtain⟨s1,s2,s3⟩:=hs;have e:q.drop (ia+k)=(q.drop ia).drop k:=by rw[oh]
 refine⟨nv.mpr ⟨m.srt,s1,fun x hx y hy=>m.low x hx y (.inl (mx hy))⟩,fun x hx y hy=>?_,?_⟩
 ·rcases nu.mp hx with hx|hx
  ·exact m.low x hx y (hy.imp (fun z=>nM z (Nat.le_add_right _ _)) id)
  ·exact hy.elim (fun z=>s3 x hx y (by rw[<-e];exact z)) (h x hx y)
 ·refine List.Perm.trans ?_ m.pm;rw[e,jF];refine qV o ?_;rw[<-jF,lh]
theorem MG.endA(m:MG lt q r o ia ib)(h:r.drop ib=[]):(o++q.drop ia).Pairwise (SL lt)/\(o++q.drop ia).Perm (q++r):=by
 have pm:=m.pm;rw[h,sN] at pm;exact⟨nv.mpr ⟨m.srt,B.sq.sublist (og ia q),fun x hx y hy=>m.low x hx y (.inl hy)⟩,pm⟩
theorem MG.endB(m:MG lt q r o ia ib)(h:q.drop ia=[]):(o++r.drop ib).Pairwise (SL lt)/\(o++r.drop ib).Perm (q++r):=by
 have pm:=m.pm;rw[h,qU] at pm;exact⟨nv.mpr ⟨m.srt,B.sr.sublist (og ib r),fun x hx y hy=>m.low x hx y (.inr hy)⟩,pm⟩
theorem MG.endL(m:MG lt q r o ia ib)(h: ∀x∈r.drop ib,∀y∈q.drop ia,SL lt x y):(o++(r.drop ib++q.drop ia)).Pairwise (SL lt)/\(o++(r.drop ib++q.drop ia)).Perm (q++r):=by
 refine⟨nv.mpr ⟨m.srt,nv.mpr ⟨B.sr.sublist (og ib r),B.sq.sublist (og ia q),h⟩,fun x hx y hy=>m.low x hx y ((nu.mp hy).symm)⟩,?_⟩;exact List.Perm.trans (qV o Ae) m.pm
end
theorem jM{q:hJ}{i:Nat}(hi:i<q.length){st:iI}{Q:Keyed->SortSt->Prop}(h:Q (it q[i]) st):wpI (model prog w) A E G (elem' (q.map it).toArray i) Q st:=by
 rw[elem'_eq];have:(q.map it).toArray[i]?=some (it q[i]):=by simp[hi]
 rw[this];exact gr h
theorem KQ{q:hJ}{i:Nat}(hi:i<q.length):P q.toArray i=q[i]:=by simp[P,hi]
theorem qm(W:Wk lt)(H:Ask prog w A E G it κ N lt){left:Bool}{x:Nat}{q:hJ}{base n hint:Nat}(hx:x<N)(hq: ∀y∈q,y<N)(hn:base+n<=q.length)(hh:hint<n){st:iI}(hk:kindOf st=κ)(srt:((q.drop base).take n).Pairwise (SL lt)){Q:yY}
  (h: ∀r,r<=n->(∀y∈((q.drop base).take n).take r,(if left=true then lt y x else !lt x y)=true)->(∀y∈((q.drop base).take n).drop r,(if left=true then lt y x else !lt x y)=false)->Q (some r) st):
  wpI (model prog w) A E G (ky left (it x) (q.map it).toArray base n hint) Q st:=by
 have ea:(q.map it).toArray=q.toArray.map it:=by simp
 rw[ea];have hl:((q.drop base).take n).length=n:=by simp;lia
 have get: ∀i (hi:i<n),P q.toArray (base+i)=((q.drop base).take n)[i]:=fun i hi=>by
  rw[KQ (by lia)];simp
 have bq: ∀i (hi:i<n),Bq lt left x q.toArray base i=(if left=true then lt (((q.drop base).take n)[i]) x else !lt x (((q.drop base).take n)[i])):=fun i hi=>by unfold Bq;rw[get i hi]
 refine DL H hx (fun k hk=>?_) (by simpa using hn) hh hk (fun i j ij jn hb=>?_) fun r r1 r2 r3=>h r r1 (fun y hy=>?_) (fun y hy=>?_)
 ·have cX:k<q.length:=by simpa using hk
  rw[KQ cX];exact hq _ (kl cX)
 ·rcases Ag i j with k6|fL
  ·rw[bq j jn] at hb;rw[bq i (by lia)];have sl:=Fc.mp srt i j (by lia) (by lia) k6
   cases left with
   |true=>
    simp only[iA] at hb ⊢;exact W.le_lt (SL.le W sl) hb
   |false=>
    simp only[iJ,iX,wq] at hb ⊢;exact W.le_tr (SL.le W sl) hb
  ·have:i=j:=by lia
   subst this;exact hb
 ·obtain⟨i,hi,e⟩:=uD hy;have aM:i<r:=by simp at hi;lia
  have:=r2 i aM;rw[bq i (by lia)] at this;rw[<-e,List.getElem_take];exact this
 ·obtain⟨i,hi,e⟩:=uD hy;have aM:r+i<n:=by simp at hi;lia
  have:=r3 (r+i) (by lia) aM;rw[bq (r+i) aM] at this;rw[<-e,List.getElem_drop];exact this
theorem ui{o:hJ}{x:Nat}:((o.map it).toArray.push (it x))=((o++[x]).map it).toArray:=by simp
theorem Gu{o q r:hJ}{i j:Nat}:((o.map it).toArray++(q.map it).toArray.extract i (q.map it).toArray.size++(r.map it).toArray.extract j (r.map it).toArray.size)=((o++(q.drop i++r.drop j)).map it).toArray:=by
 simp[uC,uB];rw[rN (by simp),rN (by simp)]
theorem Gs{o q:hJ}{i k:Nat}:((o.map it).toArray++(q.map it).toArray.extract i (i+k))=((o++(q.drop i).take k).map it).toArray:=by
 simp[uC,uB]
def Same(st b7:iI):Prop:=kindOf b7=kindOf st/\arrOf b7=arrOf st/\pendingOf b7=pendingOf st/\failedOf b7=failedOf st
theorem Same.refl{st:iI}:Same st st:=⟨rfl,rfl,rfl,rfl⟩
theorem Same.trans{a b c:iI}(x:Same a b)(y:Same b c):Same a c:=⟨y.1.trans x.1,y.2.1.trans x.2.1,y.2.2.1.trans x.2.2.1,y.2.2.2.trans x.2.2.2⟩
theorem qk{n:Nat}{st:iI}{Q:Unit->SortSt->Prop}(h: ∀b7,Same st b7->Q () b7):wpI (model prog w) A E G (tw n) Q st:=
 jD (f:=fun s=>SortSt.mk' (kindOf s) (arrOf s) (pendingOf s) n (failedOf s)) (h _ ⟨rfl,rfl,rfl,rfl⟩)
theorem pY(W:Wk lt){q r o:hJ}{ia ib:Nat}(B:Pre lt N q r)(m:MG lt q r o ia ib)(h:q.length<=ia\/r.length<=ib):Res lt it q r ((o.map it).toArray++(q.map it).toArray.extract ia (q.map it).toArray.size++(r.map it).toArray.extract ib (r.map it).toArray.size):=by
 refine⟨_,Gu,?_⟩;rcases h with h|h
 ·have e:q.drop ia=[]:=rP h;have:=m.endB W B e;rw[e,qU];exact this
 ·have e:r.drop ib=[]:=rP h;have:=m.endA W B e;rw[e,sN];exact this
theorem BO(W:Wk lt){q r o:hJ}{ia ib:Nat}(B:Pre lt N q r)(m:MG lt q r o ia ib)(h: ∀x∈r.drop ib,∀y∈q.drop ia,SL lt x y):Res lt it q r ((o.map it).toArray++(r.map it).toArray.extract ib (r.map it).toArray.size++(q.map it).toArray.extract ia (q.map it).toArray.size):=
 ⟨_,Gu,m.endL W B h⟩
abbrev sz(q:hJ)(it:mL):(q.map it).toArray.size=q.length:=by simp
abbrev LoS:=Option (Array Keyed)×Array Keyed×Nat×Nat×Nat×Nat×Nat
noncomputable def Fl(a b out:mM)(ia ib mg k k2:Nat):StateT SortSt Sem (ForInStep LoS):=do
 let y <-elem' a ia
 if(ia+1+1==a.size)=true then pure (ForInStep.done (some (out.push y++b.extract ib b.size++a.extract (ia+1) a.size),out.push y,ia+1,ib,mg,k,k2))
 else if(decide (k<7)&&decide (k2<7))=true then pure (ForInStep.done (none,out.push y,ia+1,ib,mg,k,k2)) else pure (ForInStep.yield (none,out.push y,ia+1,ib,mg,k,k2))
noncomputable def JY(a b out:mM)(ia ib mg k bc:Nat):StateT SortSt Sem (ForInStep LoS):=do
 let y <-elem' b ib
 if(ib+1==b.size)=true then pure (ForInStep.done (some (out.push y++a.extract ia a.size++b.extract (ib+1) b.size),out.push y,ia,ib+1,mg,k,bc))
 else do
  let z <-elem' a ia
  let x <-ky true z b (ib+1) (b.size-(ib+1)) 0
  match x with
  |some k2=>
   if k2>0 then
    if(ib+1+k2==b.size)=true then pure (ForInStep.done (some (out.push y++b.extract (ib+1) (ib+1+k2)++a.extract ia a.size++b.extract (ib+1+k2) b.size),out.push y++b.extract (ib+1) (ib+1+k2),ia,ib+1+k2,mg,k,k2))
    else Fl a b (out.push y++b.extract (ib+1) (ib+1+k2)) ia (ib+1+k2) mg k k2
   else Fl a b (out.push y) ia (ib+1) mg k k2
  |_=>pure (ForInStep.done (some (out.push y++a.extract ia a.size++b.extract (ib+1) b.size),out.push y,ia,ib+1,mg,k,bc))
def Gw(lt:lg)(it:mL)(q r:hJ)(c st:Nat)(S:SortSt->Prop)(x:ForInStep LoS)(b7:iI):Prop:=
 match x with
 | .done c'=>S b7/\((∃res x,c'=(some res,x)/\Res lt it q r res)\/ ∃o2 i9 m6 u7 ac bc,c'=(none,(o2.map it).toArray,i9,m6,u7,ac,bc)/\MG lt q r o2 i9 m6/\i9+1<q.length/\m6<r.length/\c<=i9+m6)
 | .yield c'=> ∃o2 i9 m6 u7 ac bc,c'=(none,(o2.map it).toArray,i9,m6,u7,ac,bc)/\MG lt q r o2 i9 m6/\i9+1<q.length/\m6<r.length/\st<=i9+m6/\S b7
section
variable(W:Wk lt)(H:Ask prog w A E G it κ N lt){q r:hJ}(B:Pre lt N q r)(top: ∀x∈r,∀y∈q.drop (q.length-1),SL lt x y){S:SortSt->Prop}{o:hJ}{ia ib mg k k2 bc c cy:Nat}{st:iI}
include W H B top
theorem za(m:MG lt q r o ia ib)(ha:ia+1<q.length)(hb:ib<r.length)(fb: ∀y∈r.drop ib,SL lt q[ia] y)(hs:S st)(hc:c<=ia+1+ib)(hy:cy<=ia+1+ib):
  wpI (model prog w) A E G (Fl (q.map it).toArray (r.map it).toArray (o.map it).toArray ia ib mg k k2) (Gw lt it q r c cy S) st:=by
 unfold Fl;refine gp (jM (i:=ia) (by lia) ?_);have m2:=m.putA W B (by lia) fb;rw[ui];refine ik (fun he=>?_) fun he=>?_
 ·have:ia+1+1=q.length:=by simpa using he
  exact gr ⟨hs,.inl ⟨_,_,rfl,BO W B m2 fun x hx y hy=>top x (kT hx) y (by rw[show q.length-1=ia+1 by lia];exact hy)⟩⟩
 ·have:ia+1+1≠q.length:=by simpa using he
  refine ik (fun h7=>?_) fun h7=>?_
  ·exact gr ⟨hs,.inr ⟨_,_,_,_,_,_,rfl,m2,by lia,hb,hc⟩⟩
  ·exact gr ⟨_,_,_,_,_,_,rfl,m2,by lia,hb,hy,hs⟩
theorem IA(hk:kindOf st=κ)(m:MG lt q r o ia ib)(ha:ia+1<q.length)(hb:ib<r.length)(fa: ∀y∈q.drop ia,SL lt r[ib] y)(hs:S st)(hc:c<=ia+ib)(hy:cy<=ia+1+ib):
  wpI (model prog w) A E G (JY (q.map it).toArray (r.map it).toArray (o.map it).toArray ia ib mg k bc) (Gw lt it q r c cy S) st:=by
 unfold JY;refine gp (jM hb ?_);have m2:=m.putB W B hb fa;rw[ui];refine ik (fun he=>?_) fun he=>?_
 ·have:ib+1=r.length:=by simpa using he
  exact gr ⟨hs,.inl ⟨_,_,rfl,pY W B m2 (.inr (by lia))⟩⟩
 ·have he:ib+1≠r.length:=by simpa using he
  have en:(r.drop (ib+1)).take ((r.map it).toArray.size-(ib+1))=r.drop (ib+1):=rN (by simp);refine gp (jM (i:=ia) (by lia) (gp (qm W H (B.nq _ (kl _)) B.nr (by rw[sz];lia) (by rw[sz];lia) hk (by rw[en];exact B.sr.sublist (og _ _)) fun k' k1 k2 k3=>?_)));rw[en] at k2 k3;rw[sz] at k1;simp only[iA] at k2 k3
  have m3:=m2.putBs W B (k:=k') fun x hx y hy=>by
   rw[jS (show ia<q.length by lia)] at hy;rcases lq.mp hy with rfl|hy
   ·exact .inl (k2 x hx)
   ·exact SL.trans W (.inl (k2 x hx)) (Ez W B (by lia) y hy)
  have fb: ∀y∈r.drop (ib+1+k'),SL lt q[ia] y:=fun y hy=>by
   rw[<-oh] at hy;exact .inr ⟨k3 y hy,B.ix _ (kl _) _ (kT (kT hy))⟩
  dsimp only;refine ik (fun hp=>?_) fun hp=>?_
  ·rw[Gs];refine ik (fun hf=>?_) fun hf=>?_
   ·have:ib+1+k'=r.length:=by simpa using hf
    exact gr ⟨hs,.inl ⟨_,_,rfl,pY W B m3 (.inr (by lia))⟩⟩
   ·have:ib+1+k'≠r.length:=by simpa using hf
    exact za W H B top m3 ha (by lia) fb hs (by lia) (by lia)
  ·have hz:k'=0:=by lia
   subst hz;exact za W H B top m2 ha (by lia) fb hs (by lia) (by lia)
end
theorem Ny(W:Wk lt)(H:Ask prog w A E G it κ N lt){q r:hJ}(B:Pre lt N q r)(h1:1<=q.length)(h2:1<=r.length)(hd: ∀y∈q,SL lt r[0] y)(top: ∀x∈r,∀y∈q.drop (q.length-1),SL lt x y){st:iI}(hk:kindOf st=κ){Q:Array Keyed->SortSt->Prop}
  (h: ∀out b7,Res lt it q r out->Same st b7->Q out b7):wpI (model prog w) A E G (xJ (q.map it).toArray (r.map it).toArray) Q st:=by
 have aW: ∀{o ia ib},MG lt q r o ia ib->ia+1=q.length->Res lt it q r ((o.map it).toArray++(r.map it).toArray.extract ib (r.map it).toArray.size++(q.map it).toArray.extract ia (q.map it).toArray.size):=fun {o ia ib} m e=>BO W B m fun x hx y hy=>top x (kT hx) y (by rw[show q.length-1=ia by lia];exact hy);rw[En];dsimp only;refine gp (oo (gp (jM (by lia) ?_)))
 have m0:MG lt q r [r[0]] 0 1:=by
  have:=MG.putB (o:=[]) (ia:=0) (ib:=0) W B ⟨List.Pairwise.nil,fun x hx=>absurd hx mP,by simp⟩ (by lia) (by simpa using hd);simpa using this
 have e0: #[it r[0]]=(([r[0]]:List Nat).map it).toArray:=rfl;rw[e0];refine ik (fun bM=>?_) fun bM=>?_
 ·have:1=r.length:=by simpa using bM
  exact gr (h _ _ (pY W B m0 (.inr (by lia))) .refl)
 ·have bM:1≠r.length:=by simpa using bM
  refine ik (fun aQ=>?_) fun aQ=>?_
  ·have:0+1=q.length:=by simpa using aQ
   exact gr (h _ _ (aW m0 this) .refl)
  ·have aQ:1≠q.length:=by simpa using aQ
   refine gp (kL ?_)
   refine gp (iE (iL (I:=fun i c b7=> ∃o ia ib mg,c=(none,(o.map it).toArray,ia,ib,mg)/\MG lt q r o ia ib/\ia+1<q.length/\ib<r.length/\i+1<=ia+ib/\Same st b7)
    (Q:=fun c b7=> ∃res x,c=(some res,x)/\Res lt it q r res/\Same st b7) ?step ?fin ⟨_,0,1,_,rfl,m0,by lia,by lia,by lia,.refl⟩) ?post)
   case post=>
    rintro c b7 ⟨res,x,rfl,hr,hs⟩;exact gr (h res b7 hr hs)
   case fin=>
    rintro c b7 ⟨o,ia,ib,mg,rfl,m,b1,b2,b3,hs⟩;rw[sz,sz] at b3
    lia
   case step=>
    rintro i c aI _ _ ⟨o,ia,ib,mg,rfl,m,b1,b2,b3,hs⟩;dsimp only
    refine gp (iE (iL (I:=fun j c b7=>b7=aI/\ ∃o' w6 ai ac bc,c=(none,(o'.map it).toArray,w6,ai,ac,bc)/\MG lt q r o' w6 ai/\w6+1<q.length/\ai<r.length/\ia+ib+j<=w6+ai)
     (Q:=fun c b7=>b7=aI/\((∃res x,c=(some res,x)/\Res lt it q r res)\/ ∃o' w6 ai ac bc,c=(none,(o'.map it).toArray,w6,ai,ac,bc)/\MG lt q r o' w6 ai/\w6+1<q.length/\ai<r.length/\ia+ib+1<=w6+ai)) ?step1 ?fin1 ⟨rfl,o,ia,ib,0,0,rfl,m,b1,b2,by lia⟩) ?post1)
    case fin1=>
     rintro c b7 ⟨rfl,o',w6,ai,ac,bc,rfl,m',c1,c2,c3⟩;rw[sz,sz] at c3
     lia
    case step1=>
     rintro j c b7 _ _ ⟨rfl,o',w6,ai,ac,bc,rfl,m',c1,c2,c3⟩;dsimp only;refine gp (jM c2 (gp (jM (i:=w6) (by lia) (gp (wM H (hs.1.trans hk) (B.nr _ (kl _)) (B.nq _ (kl _)) ?_)))));dsimp only
     cases hl:lt r[ai] q[w6] with
     |true=>
      simp only[iA];refine gp (jM c2 ?_)
      have m2:=m'.putB W B c2 fun y hy=>by
       rw[jS (show w6<q.length by lia)] at hy;rcases lq.mp hy with rfl|hy
       ·exact .inl hl
       ·exact SL.trans W (.inl hl) (Ez W B (by lia) y hy)
      rw[ui];refine ik (fun he=>?_) fun he=>?_
      ·have:ai+1=r.length:=by simpa using he
       exact gr ⟨rfl,.inl ⟨_,_,rfl,pY W B m2 (.inr (by lia))⟩⟩
      ·have:ai+1≠r.length:=by simpa using he
       refine ik (fun hg=>?_) fun hg=>?_
       ·exact gr ⟨rfl,.inr ⟨_,_,_,_,_,rfl,m2,c1,by lia,by lia⟩⟩
       ·exact gr ⟨rfl,_,_,_,_,_,rfl,m2,c1,by lia,by lia⟩
     |false=>
      simp only[iJ,iX];refine gp (jM (i:=w6) (by lia) ?_)
      have m2:=m'.putA W B (by lia) fun y hy=>by
       rw[jS c2] at hy;have first:SL lt q[w6] r[ai]:= .inr ⟨hl,B.ix _ (kl _) _ (kl _)⟩;rcases lq.mp hy with rfl|hy
       ·exact first
       ·exact SL.trans W first (AU W B c2 y hy)
      rw[ui];refine ik (fun he=>?_) fun he=>?_
      ·have:w6+1+1=q.length:=by simpa using he
       exact gr ⟨rfl,.inl ⟨_,_,rfl,aW m2 this⟩⟩
      ·have:w6+1+1≠q.length:=by simpa using he
       refine ik (fun hg=>?_) fun hg=>?_
       ·exact gr ⟨rfl,.inr ⟨_,_,_,_,_,rfl,m2,by lia,c2,by lia⟩⟩
       ·exact gr ⟨rfl,_,_,_,_,_,rfl,m2,by lia,c2,by lia⟩
    case post1=>
     rintro c b7 ⟨rfl,⟨res,x,rfl,hr⟩|⟨o',w6,ai,ac,bc,rfl,m',c1,c2,c3⟩⟩
     ·exact gr ⟨res,_,rfl,hr,hs⟩
     ·dsimp only
      refine gp (oo (gp (iE (iL (I:=fun j c b7=> ∃o2 i9 m6 u7 ac bc,c=(none,(o2.map it).toArray,i9,m6,u7,ac,bc)/\MG lt q r o2 i9 m6/\i9+1<q.length/\m6<r.length/\ia+ib+1+j<=i9+m6/\Same st b7)
       (Q:=fun c b7=>Same st b7/\((∃res x,c=(some res,x)/\Res lt it q r res)\/ ∃o2 i9 m6 u7 ac bc,c=(none,(o2.map it).toArray,i9,m6,u7,ac,bc)/\MG lt q r o2 i9 m6/\i9+1<q.length/\m6<r.length/\ia+ib+1<=i9+m6)) ?step2 ?fin2 ⟨o',w6,ai,_,_,_,rfl,m',c1,c2,by lia,hs⟩) ?post2)))
      case fin2=>
       rintro c b7 ⟨o2,i9,m6,u7,ac,bc,rfl,m2,d1,d2,d3,aF⟩;rw[sz,sz] at d3
       lia
      case post2=>
       rintro c b7 ⟨aF,⟨res,x,rfl,hr⟩|⟨o2,i9,m6,u7,ac,bc,rfl,m2,d1,d2,d3⟩⟩
       ·exact gr ⟨res,_,rfl,hr,aF⟩
       ·dsimp only;exact gp (qk fun n5 q9=>gr ⟨o2,i9,m6,_,rfl,m2,d1,d2,by lia,aF.trans q9⟩)
      case step2=>
       rintro j c i8 _ _ ⟨o2,i9,m6,u7,ac,bc,rfl,m2,d1,d2,d3,aF⟩;dsimp only;have en:(q.drop i9).take ((q.map it).toArray.size-i9)=q.drop i9:=rN (by simp)
       have mid: ∀(ah k:Nat) (n5:iI),Same st n5->k<=(q.map it).toArray.size-i9->(∀y∈(q.drop i9).take k,lt r[m6] y=false)->(∀y∈(q.drop i9).drop k,lt r[m6] y=true)->i9+k+1≠q.length->i9+k≠q.length->
         wpI (model prog w) A E G (JY (q.map it).toArray (r.map it).toArray ((o2++(q.drop i9).take k).map it).toArray (i9+k) m6 ah k bc) (Gw lt it q r (ia+ib+1) (ia+ib+1+(j+1)) (Same st)) n5:=fun ah k n5 q9 k1 k2 k3 e1 e2=>by
        rw[sz] at k1;refine IA W H B top (q9.1.trans hk) (m2.putAs W B fun x hx y hy=>?_) (by lia) d2 (fun y hy=>?_) q9 (by lia) (by lia)
        ·have first:SL lt x r[m6]:= .inr ⟨k2 x hx,B.ix x (kT (mx hx)) _ (kl _)⟩;rw[jS d2] at hy;rcases lq.mp hy with rfl|hy
         ·exact first
         ·exact SL.trans W first (AU W B d2 y hy)
        ·rw[<-oh] at hy;exact .inl (k3 y hy)
       have body: ∀(ah:Nat) (n5:iI),Same st n5->wpI (model prog w) A E G (do
         let y <-elem' (r.map it).toArray m6
         let x <-ky false y (q.map it).toArray i9 ((q.map it).toArray.size-i9) 0
         match x with
         |some k=>
          if k>0 then
           if(i9+k+1==(q.map it).toArray.size)=true then pure (ForInStep.done (some ((o2.map it).toArray++(q.map it).toArray.extract i9 (i9+k)++(r.map it).toArray.extract m6 (r.map it).toArray.size++(q.map it).toArray.extract (i9+k) (q.map it).toArray.size),(o2.map it).toArray++(q.map it).toArray.extract i9 (i9+k),i9+k,m6,ah,k,bc))
           else if(i9+k==(q.map it).toArray.size)=true then pure (ForInStep.done (some ((o2.map it).toArray++(q.map it).toArray.extract i9 (i9+k)++(q.map it).toArray.extract (i9+k) (q.map it).toArray.size++(r.map it).toArray.extract m6 (r.map it).toArray.size),(o2.map it).toArray++(q.map it).toArray.extract i9 (i9+k),i9+k,m6,ah,k,bc))
           else JY (q.map it).toArray (r.map it).toArray ((o2.map it).toArray++(q.map it).toArray.extract i9 (i9+k)) (i9+k) m6 ah k bc
          else JY (q.map it).toArray (r.map it).toArray (o2.map it).toArray i9 m6 ah k bc
         |_=>pure (ForInStep.done (some ((o2.map it).toArray++(q.map it).toArray.extract i9 (q.map it).toArray.size++(r.map it).toArray.extract m6 (r.map it).toArray.size),(o2.map it).toArray,i9,m6,ah,ac,bc))) (Gw lt it q r (ia+ib+1) (ia+ib+1+(j+1)) (Same st)) n5:=fun ah n5 q9=>by
        refine gp (jM d2 (gp (qm W H (B.nr _ (kl _)) B.nq (by rw[sz];lia) (by rw[sz];lia) (q9.1.trans hk) (by rw[en];exact B.sq.sublist (og _ _)) fun k k1 k2 k3=>?_)));rw[en] at k2 k3;simp only[iJ,iX,wq,Bool.not_eq_false'] at k2 k3;have hkl:=k1;rw[sz] at hkl
        have mA:MG lt q r (o2++(q.drop i9).take k) (i9+k) m6:=m2.putAs W B fun x hx y hy=>by
         have first:SL lt x r[m6]:= .inr ⟨k2 x hx,B.ix x (kT (mx hx)) _ (kl _)⟩;rw[jS d2] at hy;rcases lq.mp hy with rfl|hy
         ·exact first
         ·exact SL.trans W first (AU W B d2 y hy)
        dsimp only;refine ik (fun hp=>?_) fun hp=>?_
        ·rw[Gs];refine ik (fun he=>?_) fun he=>?_
         ·exact gr ⟨q9,.inl ⟨_,_,rfl,aW mA (by simpa using he)⟩⟩
         ·refine ik (fun hf=>?_) fun hf=>?_
          ·have:i9+k=q.length:=by simpa using hf
           exact gr ⟨q9,.inl ⟨_,_,rfl,pY W B mA (.inl (by lia))⟩⟩
          ·exact mid ah k n5 q9 k1 k2 k3 (by simpa using he) (by simpa using hf)
        ·have hz:k=0:=by lia
         subst hz;have:=mid ah 0 n5 q9 k1 k2 k3 (by lia) (by lia);simpa using this
       refine ik (fun hm=>?_) fun hm=>?_
       ·refine gp (qk fun n5 q9=>?_);exact iE (body _ n5 (aF.trans q9)) fun x b7 hx=>by cases x<;>exact hx
       ·refine gp (qk fun n5 q9=>?_);exact iE (body _ n5 (aF.trans q9)) fun x b7 hx=>by cases x<;>exact hx
end
theorem Eo(a b:mM):xM a b=(do
 rule "list.sort.merge-hi"
 let total:=a.size+b.size
 let done (out:mM) (na nb:Nat):=a.extract 0 na++b.extract 0 nb++out.reverse
 let o8 (out:mM) (na nb:Nat):=b.extract 0 nb++a.extract 0 na++out.reverse
 let mut na:=a.size-1
 let mut nb:=b.size
 let mut out:Array Keyed:= #[<-elem' a na]
 if na==0 then return done out na nb
 if nb==1 then return o8 out na nb
 let mut minGallop:=gallopOf (<-get)
 for _ in [0:total] do
  let mut acount:=0
  let mut bcount:=0
  for _ in [0:total] do
   let some aWins <-lt' (<-elem' b (nb-1)) (<-elem' a (na-1))|return done out na nb
   if aWins then
    na:=na-1;out:=out.push (<-elem' a na);acount:=acount+1;bcount:=0
    if na==0 then return done out na nb
    if acount>=minGallop then break
   else
    nb:=nb-1;out:=out.push (<-elem' b nb);bcount:=bcount+1;acount:=0
    if nb==1 then return o8 out na nb
    if bcount>=minGallop then break
  rule "list.sort.gallop"
  minGallop:=minGallop+1
  for _ in [0:total] do
   if minGallop>1 then minGallop:=minGallop-1
   tw minGallop
   let some at_ <-ky false (<-elem' b (nb-1)) a 0 na (na-1)|return done out na nb
   let k:=na-at_
   acount:=k
   if k>0 then
    out:=out++(a.extract at_ na).reverse;na:=at_
    if na==0 then return done out na nb
   nb:=nb-1;out:=out.push (<-elem' b nb)
   if nb==1 then return o8 out na nb
   let some at_ <-ky true (<-elem' a (na-1)) b 0 nb (nb-1)|return done out na nb
   let k:=nb-at_
   bcount:=k
   if k>0 then
    out:=out++(b.extract at_ nb).reverse;nb:=at_
    if nb==1 then return o8 out na nb
    if nb==0 then return done out na nb
   na:=na-1;out:=out.push (<-elem' a na)
   if na==0 then return done out na nb
   if acount<7&&bcount<7 then break
  minGallop:=minGallop+1
  tw minGallop
 unsupported "internal:list.sort.merge-bound"):=rfl
section
variable {prog:gM}{w:gE}{A:gG}{E:hV}{G:Shared->Prop}{it:mL}{lt:lg}{κ:SortKind}{N:Nat}
structure MH(lt:lg)(q r s:hJ)(na nb:Nat):Prop where
 srt:s.Pairwise (SL lt)
 high: ∀y,(y∈q.take na\/y∈r.take nb)-> ∀x∈s,SL lt y x
 pm:(q.take na++r.take nb++s).Perm (q++r)
theorem kc{l:hJ}{n:Nat}(h1:0<n)(h:n<=l.length):l.take n=l.take (n-1)++[l[n-1]]:=by
 obtain⟨m,rfl⟩: ∃m,n=m+1:=⟨n-1,by lia⟩
 rw[Di,iM (by lia)];rfl
theorem nK{l:hJ}{i j x:Nat}(h:x∈l.take i)(o4:i<=j):x∈l.take j:=by
 have:=List.take_sublist_take_left (l:=l) o4;exact this.subset h
section
variable {q r s:hJ}{na nb k:Nat}(W:Wk lt)(B:Pre lt N q r)
include W B
theorem EG(h0:0<na)(h:na<=q.length): ∀y∈q.take (na-1),SL lt y q[na-1]:=fun y hy=>by
 have:=B.sq.sublist (ny na q);rw[kc h0 h,nv] at this;exact this.2.2 y hy _ (nV.mpr rfl)
theorem EF(h0:0<nb)(h:nb<=r.length): ∀y∈r.take (nb-1),SL lt y r[nb-1]:=fun y hy=>by
 have:=B.sr.sublist (ny nb r);rw[kc h0 h,nv] at this;exact this.2.2 y hy _ (nV.mpr rfl)
theorem MH.putA(m:MH lt q r s na nb)(h0:0<na)(h1:na<=q.length)(h: ∀y∈r.take nb,SL lt y q[na-1]):MH lt q r (q[na-1]::s) (na-1) nb:=by
 have hm:q[na-1]∈q.take na:=by rw[kc h0 h1];exact pq _ (nV.mpr rfl)
 refine⟨pE.mpr ⟨fun x hx=>m.high _ (.inl hm) x hx,m.srt⟩,fun y hy x hx=>?_,?_⟩
 ·rcases lq.mp hx with rfl|hx
  ·exact hy.elim (EG W B h0 h1 y) (h y)
  ·exact m.high y (hy.imp (fun z=>nK z (Nat.sub_le _ _)) id) x hx
 ·refine List.Perm.trans ?_ m.pm;rw[kc h0 h1]
  have e:(q.take (na-1)++r.take nb++q[na-1]::s).Perm (q.take (na-1)++(q[na-1]::(r.take nb++s))):=by
   rw[jF];exact qV _ Bj
  refine e.trans (wo ?_);rw[jF,jF,Dh]
theorem MH.putB(m:MH lt q r s na nb)(h0:0<nb)(h1:nb<=r.length)(h: ∀y∈q.take na,SL lt y r[nb-1]):MH lt q r (r[nb-1]::s) na (nb-1):=by
 have hm:r[nb-1]∈r.take nb:=by rw[kc h0 h1];exact pq _ (nV.mpr rfl)
 refine⟨pE.mpr ⟨fun x hx=>m.high _ (.inr hm) x hx,m.srt⟩,fun y hy x hx=>?_,?_⟩
 ·rcases lq.mp hx with rfl|hx
  ·exact hy.elim (h y) (EF W B h0 h1 y)
  ·exact m.high y (hy.imp id fun z=>nK z (Nat.sub_le _ _)) x hx
 ·refine List.Perm.trans ?_ m.pm;refine wo ?_;rw[kc h0 h1,jF,jF,jF,Dh]
theorem MH.putAs(m:MH lt q r s na nb)(hk:k<=na)(h: ∀y∈r.take nb,∀x∈(q.take na).drop k,SL lt y x):MH lt q r ((q.take na).drop k++s) k nb:=by
 have e:q.take k=(q.take na).take k:=by rw[rM,pS hk]
 have hs:=B.sq.sublist (ny na q);rw[<-lh k (q.take na),nv] at hs;obtain⟨s1,s2,s3⟩:=hs;refine⟨nv.mpr ⟨s2,m.srt,fun y hy x hx=>m.high y (.inl (kT hy)) x hx⟩,fun y hy x hx=>?_,?_⟩
 ·rcases nu.mp hx with hx|hx
  ·exact hy.elim (fun z=>s3 y (by rw[<-e];exact z) x hx) fun z=>h y z x hx
  ·exact m.high y (hy.imp (fun z=>nK z hk) id) x hx
 ·refine List.Perm.trans ?_ m.pm;rw[<-jF];refine uE s ?_;rw[e]
  have:((q.take na).take k++r.take nb++(q.take na).drop k).Perm ((q.take na).take k++(q.take na).drop k++r.take nb):=by
   rw[jF,jF];exact qV _ Ae
  rwa [lh] at this
theorem MH.putBs(m:MH lt q r s na nb)(hk:k<=nb)(h: ∀y∈q.take na,∀x∈(r.take nb).drop k,SL lt y x):MH lt q r ((r.take nb).drop k++s) na k:=by
 have e:r.take k=(r.take nb).take k:=by rw[rM,pS hk]
 have hs:=B.sr.sublist (ny nb r);rw[<-lh k (r.take nb),nv] at hs;obtain⟨s1,s2,s3⟩:=hs;refine⟨nv.mpr ⟨s2,m.srt,fun y hy x hx=>m.high y (.inr (kT hy)) x hx⟩,fun y hy x hx=>?_,?_⟩
 ·rcases nu.mp hx with hx|hx
  ·exact hy.elim (fun z=>h y z x hx) fun z=>s3 y (by rw[<-e];exact z) x hx
  ·exact m.high y (hy.imp id fun z=>nK z hk) x hx
 ·refine List.Perm.trans ?_ m.pm;rw[e,<-jF];refine uE s ?_;rw[jF,lh]
theorem MH.endA(m:MH lt q r s na nb)(h:na=0\/nb=0):(q.take na++r.take nb++s).Pairwise (SL lt):=by
 refine nv.mpr ⟨?_,m.srt,fun y hy x hx=>m.high y (nu.mp hy) x hx⟩;rcases h with rfl|rfl
 ·rw[List.take_zero,qU];exact B.sr.sublist (ny _ _)
 ·rw[List.take_zero,sN];exact B.sq.sublist (ny _ _)
theorem MH.endL(m:MH lt q r s na nb)(h: ∀x∈r.take nb,∀y∈q.take na,SL lt x y):(r.take nb++q.take na++s).Pairwise (SL lt)/\(r.take nb++q.take na++s).Perm (q++r):=
 ⟨nv.mpr ⟨nv.mpr ⟨B.sr.sublist (ny _ _),B.sq.sublist (ny _ _),h⟩,m.srt,fun y hy x hx=>m.high y ((nu.mp hy).symm) x hx⟩,(uE s Ae).trans m.pm⟩
end
theorem qL:((s.reverse.map it).toArray.push (it x))=((x::s).reverse.map it).toArray:=by simp
theorem CM{s q r:hJ}{i j:Nat}:((q.map it).toArray.extract 0 i++(r.map it).toArray.extract 0 j++(s.reverse.map it).toArray.reverse)=((q.take i++r.take j++s).map it).toArray:=by
 simp[uC,uB]
theorem CJ{s q:hJ}{i k:Nat}:((s.reverse.map it).toArray++((q.map it).toArray.extract k i).reverse)=(((q.take i).drop k++s).reverse.map it).toArray:=by
 simp[uC,uB,List.drop_take]
theorem oC(W:Wk lt){q r s:hJ}{na nb:Nat}(B:Pre lt N q r)(m:MH lt q r s na nb)(h:na=0\/nb=0):Res lt it q r ((q.map it).toArray.extract 0 na++(r.map it).toArray.extract 0 nb++(s.reverse.map it).toArray.reverse):=⟨_,CM,m.endA W B h,m.pm⟩
theorem D1(W:Wk lt){q r s:hJ}{na nb:Nat}(B:Pre lt N q r)(m:MH lt q r s na nb)(h: ∀x∈r.take nb,∀y∈q.take na,SL lt x y):Res lt it q r ((r.map it).toArray.extract 0 nb++(q.map it).toArray.extract 0 na++(s.reverse.map it).toArray.reverse):=⟨_,CM,m.endL W B h⟩
end
abbrev HiS:=Option (Array Keyed)×Nat×Nat×Array Keyed×Nat×Nat×Nat
noncomputable def Fm(a b out:mM)(na nb mg k k2:Nat):StateT SortSt Sem (ForInStep HiS):=do
 let y <-elem' a (na-1)
 if(na-1==0)=true then pure (ForInStep.done (some (a.extract 0 (na-1)++b.extract 0 nb++(out.push y).reverse),na-1,nb,out.push y,mg,k,k2))
 else if(decide (k<7)&&decide (k2<7))=true then pure (ForInStep.done (none,na-1,nb,out.push y,mg,k,k2)) else pure (ForInStep.yield (none,na-1,nb,out.push y,mg,k,k2))
noncomputable def Mn(a b out:mM)(na nb mg k bc:Nat):StateT SortSt Sem (ForInStep HiS):=do
 let y <-elem' b (nb-1)
 if(nb-1==1)=true then pure (ForInStep.done (some (b.extract 0 (nb-1)++a.extract 0 na++(out.push y).reverse),na,nb-1,out.push y,mg,k,bc))
 else do
  let z <-elem' a (na-1)
  let x <-ky true z b 0 (nb-1) (nb-1-1)
  match x with
  |some at_=>
   if nb-1-at_>0 then
    if(at_==1)=true then pure (ForInStep.done (some (b.extract 0 at_++a.extract 0 na++(out.push y++(b.extract at_ (nb-1)).reverse).reverse),na,at_,out.push y++(b.extract at_ (nb-1)).reverse,mg,k,nb-1-at_))
    else if(at_==0)=true then pure (ForInStep.done (some (a.extract 0 na++b.extract 0 at_++(out.push y++(b.extract at_ (nb-1)).reverse).reverse),na,at_,out.push y++(b.extract at_ (nb-1)).reverse,mg,k,nb-1-at_))
    else Fm a b (out.push y++(b.extract at_ (nb-1)).reverse) na at_ mg k (nb-1-at_)
   else Fm a b (out.push y) na (nb-1) mg k (nb-1-at_)
  |_=>pure (ForInStep.done (some (a.extract 0 na++b.extract 0 (nb-1)++(out.push y).reverse),na,nb-1,out.push y,mg,k,bc))
def KU(lt:lg)(it:mL)(q r:hJ)(c cy:Nat)(S:SortSt->Prop)(x:ForInStep HiS)(b7:iI):Prop:=
 match x with
 | .done c'=>S b7/\((∃res x,c'=(some res,x)/\Res lt it q r res)\/ ∃s2 l4 l9 u7 ac bc,c'=(none,l4,l9,(s2.reverse.map it).toArray,u7,ac,bc)/\MH lt q r s2 l4 l9/\1<=l4/\l4<=q.length/\2<=l9/\l9<=r.length/\l4+l9+c<=q.length+r.length)
 | .yield c'=> ∃s2 l4 l9 u7 ac bc,c'=(none,l4,l9,(s2.reverse.map it).toArray,u7,ac,bc)/\MH lt q r s2 l4 l9/\1<=l4/\l4<=q.length/\2<=l9/\l9<=r.length/\l4+l9+cy<=q.length+r.length/\S b7
section
variable {prog:gM}{w:gE}{A:gG}{E:hV}{G:Shared->Prop}{it:mL}{lt:lg}{κ:SortKind}{N:Nat}
section
variable(W:Wk lt)(H:Ask prog w A E G it κ N lt){q r:hJ}(B:Pre lt N q r)(bot: ∀x∈r.take 1,∀y∈q,SL lt x y){S:SortSt->Prop}{s:hJ}{na nb mg k k2 bc c cy:Nat}{st:iI}
include W H B bot
theorem zb(m:MH lt q r s na nb)(ha:1<=na)(dh:na<=q.length)(hb:2<=nb)(eM:nb<=r.length)(fa: ∀y∈r.take nb,SL lt y q[na-1])(hs:S st)(hc:na-1+nb+c<=q.length+r.length)(hy:na-1+nb+cy<=q.length+r.length):
  wpI (model prog w) A E G (Fm (q.map it).toArray (r.map it).toArray (s.reverse.map it).toArray na nb mg k k2) (KU lt it q r c cy S) st:=by
 unfold Fm;refine gp (jM (i:=na-1) (by lia) ?_);have m2:=m.putA W B (by lia) dh fa;rw[qL];refine ik (fun he=>?_) fun he=>?_
 ·exact gr ⟨hs,.inl ⟨_,_,rfl,oC W B m2 (.inl (by simpa using he))⟩⟩
 ·have:na-1≠0:=fun z=>he (by simp[z]);refine ik (fun h7=>?_) fun h7=>?_
  ·exact gr ⟨hs,.inr ⟨_,_,_,_,_,_,rfl,m2,by lia,by lia,hb,eM,hc⟩⟩
  ·exact gr ⟨_,_,_,_,_,_,rfl,m2,by lia,by lia,hb,eM,hy,hs⟩
theorem yk(m:MH lt q r s na nb)(h:nb=1):Res lt it q r ((r.map it).toArray.extract 0 nb++(q.map it).toArray.extract 0 na++(s.reverse.map it).toArray.reverse):=D1 W B m fun x hx y hy=>bot x (by rw[<-h];exact hx) y (mx hy)
theorem Bk(hk:kindOf st=κ)(m:MH lt q r s na nb)(ha:1<=na)(dh:na<=q.length)(hb:2<=nb)(eM:nb<=r.length)(fb: ∀y∈q.take na,SL lt y r[nb-1])(hs:S st)(hc:na+nb+c<=q.length+r.length+1)(hy:na+nb+cy<=q.length+r.length+2):
  wpI (model prog w) A E G (Mn (q.map it).toArray (r.map it).toArray (s.reverse.map it).toArray na nb mg k bc) (KU lt it q r c cy S) st:=by
 unfold Mn;refine gp (jM (i:=nb-1) (by lia) ?_);have m2:=m.putB W B (by lia) eM fb;rw[qL];refine ik (fun he=>?_) fun he=>?_
 ·exact gr ⟨hs,.inl ⟨_,_,rfl,yk W H B bot m2 (by simpa using he)⟩⟩
 ·have he:nb-1≠1:=fun z=>he (by simp[z]);have en:(r.drop 0).take (nb-1)=r.take (nb-1):=by rw[Ad]
  refine gp (jM (i:=na-1) (by lia) (gp (qm W H (B.nq _ (kl _)) B.nr (by lia) (by lia) hk (by rw[en];exact B.sr.sublist (ny _ _)) fun k' k1 k2 k3=>?_)));rw[en] at k2 k3;simp only[iA] at k2 k3
  have m3:=m2.putBs W B (k:=k') k1 fun y hy x hx=>by
   have first:SL lt q[na-1] x:= .inr ⟨k3 x hx,B.ix _ (kl _) _ (mx (kT hx))⟩;rw[kc ha dh] at hy;rcases nu.mp hy with hy|hy
   ·exact SL.trans W (EG W B ha dh y hy) first
   ·rw[nV] at hy;subst hy;exact first
  have e2:r.take k'=(r.take (nb-1)).take k':=by rw[rM,pS k1]
  have fa: ∀y∈r.take k',SL lt y q[na-1]:=fun y hy=> .inl (k2 y (by rw[<-e2];exact hy));dsimp only;refine ik (fun hp=>?_) fun hp=>?_
  ·rw[CJ];refine ik (fun hf=>?_) fun hf=>?_
   ·exact gr ⟨hs,.inl ⟨_,_,rfl,yk W H B bot m3 (by simpa using hf)⟩⟩
   ·have hf:k'≠1:=fun z=>hf (by simp[z]);refine ik (fun hg=>?_) fun hg=>?_
    ·exact gr ⟨hs,.inl ⟨_,_,rfl,oC W B m3 (.inr (by simpa using hg))⟩⟩
    ·have hg:k'≠0:=fun z=>hg (by simp[z]);exact zb W H B bot m3 ha dh (by lia) (by lia) fa hs (by lia) (by lia)
  ·have hz:k'=nb-1:=by lia
   subst hz;exact zb W H B bot m2 ha dh (by lia) (by lia) fa hs (by lia) (by lia)
end
theorem Nz(W:Wk lt)(H:Ask prog w A E G it κ N lt){q r:hJ}(B:Pre lt N q r)(h1:1<=q.length)(h2:1<=r.length)(bot: ∀x∈r.take 1,∀y∈q,SL lt x y)(top: ∀x∈r,SL lt x q[q.length-1]){st:iI}(hk:kindOf st=κ){Q:Array Keyed->SortSt->Prop}
  (h: ∀out b7,Res lt it q r out->Same st b7->Q out b7):wpI (model prog w) A E G (xM (q.map it).toArray (r.map it).toArray) Q st:=by
 have firstB: ∀{s na nb},MH lt q r s na nb->nb=1->Res lt it q r ((r.map it).toArray.extract 0 nb++(q.map it).toArray.extract 0 na++(s.reverse.map it).toArray.reverse):=fun m e=>yk W H B bot m e;rw[Eo];dsimp only;have e1:(q.map it).toArray.size=q.length:=sz q it;have e2:(r.map it).toArray.size=r.length:=sz r it;rw[e1,e2];refine gp (oo (gp (jM (i:=q.length-1) (by lia) ?_)))
 have m0:MH lt q r [q[q.length-1]] (q.length-1) r.length:=by
  have:=MH.putA (s:=[]) (na:=q.length) (nb:=r.length) W B ⟨List.Pairwise.nil,fun y hy x hx=>absurd hx mP,by simp⟩ (by lia) (ic _) (fun y hy=>top y (mx hy));exact this
 have e0: #[it q[q.length-1]]=(([q[q.length-1]]:List Nat).reverse.map it).toArray:=rfl;rw[e0];refine ik (fun aQ=>?_) fun aQ=>?_
 ·exact gr (h _ _ (oC W B m0 (.inl (by simpa using aQ))) .refl)
 ·have aQ:q.length-1≠0:=fun z=>aQ (by simp[z]);refine ik (fun bM=>?_) fun bM=>?_
  ·exact gr (h _ _ (firstB m0 (by simpa using bM)) .refl)
  ·have bM:r.length≠1:=fun z=>bM (by simp[z]);refine gp (kL ?_)
   refine gp (iE (iL (I:=fun i c b7=> ∃s na nb mg,c=(none,na,nb,(s.reverse.map it).toArray,mg)/\MH lt q r s na nb/\1<=na/\na<=q.length/\2<=nb/\nb<=r.length/\na+nb+(i+1)<=q.length+r.length/\Same st b7)
    (Q:=fun c b7=> ∃res x,c=(some res,x)/\Res lt it q r res/\Same st b7) ?step ?fin ⟨_,q.length-1,r.length,_,rfl,m0,by lia,by lia,by lia,by lia,by lia,.refl⟩) ?post)
   case post=>
    rintro c b7 ⟨res,x,rfl,hr,hs⟩;exact gr (h res b7 hr hs)
   case fin=>
    rintro c b7 ⟨s,na,nb,mg,rfl,m,b1,b2,b3,b4,b5,hs⟩
    lia
   case step=>
    rintro i c aI _ _ ⟨s,na,nb,mg,rfl,m,b1,b2,b3,b4,b5,hs⟩;dsimp only
    refine gp (iE (iL (I:=fun j c b7=>b7=aI/\ ∃s' w5 j4 ac bc,c=(none,w5,j4,(s'.reverse.map it).toArray,ac,bc)/\MH lt q r s' w5 j4/\1<=w5/\w5<=q.length/\2<=j4/\j4<=r.length/\w5+j4+j<=na+nb)
     (Q:=fun c b7=>b7=aI/\((∃res x,c=(some res,x)/\Res lt it q r res)\/ ∃s' w5 j4 ac bc,c=(none,w5,j4,(s'.reverse.map it).toArray,ac,bc)/\MH lt q r s' w5 j4/\1<=w5/\w5<=q.length/\2<=j4/\j4<=r.length/\w5+j4+1<=na+nb)) ?step1 ?fin1 ⟨rfl,s,na,nb,0,0,rfl,m,b1,b2,b3,b4,by lia⟩) ?post1)
    case fin1=>
     rintro c b7 ⟨rfl,s',w5,j4,ac,bc,rfl,m',c1,c2,c3,c4,c5⟩
     lia
    case step1=>
     rintro j c b7 _ _ ⟨rfl,s',w5,j4,ac,bc,rfl,m',c1,c2,c3,c4,c5⟩;dsimp only;refine gp (jM (i:=j4-1) (by lia) (gp (jM (i:=w5-1) (by lia) (gp (wM H (hs.1.trans hk) (B.nr _ (kl _)) (B.nq _ (kl _)) ?_)))));dsimp only
     cases hl:lt r[j4-1] q[w5-1] with
     |true=>
      simp only[iA];refine gp (jM (i:=w5-1) (by lia) ?_)
      have m2:=m'.putA W B c1 c2 fun y hy=>by
       rw[kc (show 0<j4 by lia) c4] at hy;rcases nu.mp hy with hy|hy
       ·exact SL.trans W (EF W B (by lia) c4 y hy) (.inl hl)
       ·rw[nV] at hy;subst hy;exact .inl hl
      rw[qL];refine ik (fun he=>?_) fun he=>?_
      ·exact gr ⟨rfl,.inl ⟨_,_,rfl,oC W B m2 (.inl (by simpa using he))⟩⟩
      ·have:w5-1≠0:=fun z=>he (by simp[z]);refine ik (fun hg=>?_) fun hg=>?_
       ·exact gr ⟨rfl,.inr ⟨_,_,_,_,_,rfl,m2,by lia,by lia,c3,c4,by lia⟩⟩
       ·exact gr ⟨rfl,_,_,_,_,_,rfl,m2,by lia,by lia,c3,c4,by lia⟩
     |false=>
      simp only[iJ,iX];refine gp (jM (i:=j4-1) (by lia) ?_)
      have m2:=m'.putB W B (by lia) c4 fun y hy=>by
       have first:SL lt q[w5-1] r[j4-1]:= .inr ⟨hl,B.ix _ (kl _) _ (kl _)⟩;rw[kc c1 c2] at hy;rcases nu.mp hy with hy|hy
       ·exact SL.trans W (EG W B c1 c2 y hy) first
       ·rw[nV] at hy;subst hy;exact first
      rw[qL];refine ik (fun he=>?_) fun he=>?_
      ·exact gr ⟨rfl,.inl ⟨_,_,rfl,firstB m2 (by simpa using he)⟩⟩
      ·have:j4-1≠1:=fun z=>he (by simp[z]);refine ik (fun hg=>?_) fun hg=>?_
       ·exact gr ⟨rfl,.inr ⟨_,_,_,_,_,rfl,m2,c1,c2,by lia,by lia,by lia⟩⟩
       ·exact gr ⟨rfl,_,_,_,_,_,rfl,m2,c1,c2,by lia,by lia,by lia⟩
    case post1=>
     rintro c b7 ⟨rfl,⟨res,x,rfl,hr⟩|⟨s',w5,j4,ac,bc,rfl,m',c1,c2,c3,c4,c5⟩⟩
     ·exact gr ⟨res,_,rfl,hr,hs⟩
     ·dsimp only
      refine gp (oo (gp (iE (iL (I:=fun j c b7=> ∃s2 l4 l9 u7 ac bc,c=(none,l4,l9,(s2.reverse.map it).toArray,u7,ac,bc)/\MH lt q r s2 l4 l9/\1<=l4/\l4<=q.length/\2<=l9/\l9<=r.length/\l4+l9+(i+2+j)<=q.length+r.length/\Same st b7)
       (Q:=fun c b7=>Same st b7/\((∃res x,c=(some res,x)/\Res lt it q r res)\/ ∃s2 l4 l9 u7 ac bc,c=(none,l4,l9,(s2.reverse.map it).toArray,u7,ac,bc)/\MH lt q r s2 l4 l9/\1<=l4/\l4<=q.length/\2<=l9/\l9<=r.length/\l4+l9+(i+2)<=q.length+r.length)) ?step2 ?fin2 ⟨s',w5,j4,_,_,_,rfl,m',c1,c2,c3,c4,by lia,hs⟩) ?post2)))
      case fin2=>
       rintro c b7 ⟨s2,l4,l9,u7,ac,bc,rfl,m2,d1,d2,d3,d4,d5,aF⟩
       lia
      case post2=>
       rintro c b7 ⟨aF,⟨res,x,rfl,hr⟩|⟨s2,l4,l9,u7,ac,bc,rfl,m2,d1,d2,d3,d4,d5⟩⟩
       ·exact gr ⟨res,_,rfl,hr,aF⟩
       ·dsimp only;exact gp (qk fun n5 q9=>gr ⟨s2,l4,l9,_,rfl,m2,d1,d2,d3,d4,by lia,aF.trans q9⟩)
      case step2=>
       rintro j c i8 _ _ ⟨s2,l4,l9,u7,ac,bc,rfl,m2,d1,d2,d3,d4,d5,aF⟩;dsimp only;have en:(q.drop 0).take l4=q.take l4:=by rw[Ad]
       have body: ∀(ah:Nat) (n5:iI),Same st n5->wpI (model prog w) A E G (do
         let y <-elem' (r.map it).toArray (l9-1)
         let x <-ky false y (q.map it).toArray 0 l4 (l4-1)
         match x with
         |some at_=>
          if l4-at_>0 then
           if(at_==0)=true then pure (ForInStep.done (some ((q.map it).toArray.extract 0 at_++(r.map it).toArray.extract 0 l9++((s2.reverse.map it).toArray++((q.map it).toArray.extract at_ l4).reverse).reverse),at_,l9,(s2.reverse.map it).toArray++((q.map it).toArray.extract at_ l4).reverse,ah,l4-at_,bc))
           else Mn (q.map it).toArray (r.map it).toArray ((s2.reverse.map it).toArray++((q.map it).toArray.extract at_ l4).reverse) at_ l9 ah (l4-at_) bc
          else Mn (q.map it).toArray (r.map it).toArray (s2.reverse.map it).toArray l4 l9 ah (l4-at_) bc
         |_=>pure (ForInStep.done (some ((q.map it).toArray.extract 0 l4++(r.map it).toArray.extract 0 l9++(s2.reverse.map it).toArray.reverse),l4,l9,(s2.reverse.map it).toArray,ah,ac,bc))) (KU lt it q r (i+2) (i+2+(j+1)) (Same st)) n5:=fun ah n5 q9=>by
        refine gp (jM (i:=l9-1) (by lia) (gp (qm W H (B.nr _ (kl _)) B.nq (by lia) (by lia) (q9.1.trans hk) (by rw[en];exact B.sq.sublist (ny _ _)) fun k k1 k2 k3=>?_)));rw[en] at k2 k3;simp only[iJ,iX,wq,Bool.not_eq_false'] at k2 k3
        have mA:MH lt q r ((q.take l4).drop k++s2) k l9:=m2.putAs W B k1 fun y hy x hx=>by
         have first:SL lt r[l9-1] x:= .inl (k3 x hx);rw[kc (show 0<l9 by lia) d4] at hy;rcases nu.mp hy with hy|hy
         ·exact SL.trans W (EF W B (by lia) d4 y hy) first
         ·rw[nV] at hy;subst hy;exact first
        have ek:q.take k=(q.take l4).take k:=by rw[rM,pS k1]
        have fb: ∀y∈q.take k,SL lt y r[l9-1]:=fun y hy=> .inr ⟨k2 y (by rw[<-ek];exact hy),B.ix _ (mx hy) _ (kl _)⟩;dsimp only;refine ik (fun hp=>?_) fun hp=>?_
        ·rw[CJ];refine ik (fun he=>?_) fun he=>?_
         ·exact gr ⟨q9,.inl ⟨_,_,rfl,oC W B mA (.inl (by simpa using he))⟩⟩
         ·have he:k≠0:=fun z=>he (by simp[z]);exact Bk W H B bot (q9.1.trans hk) mA (by lia) (by lia) d3 d4 fb q9 (by lia) (by lia)
        ·have hz:k=l4:=by lia
         subst hz;exact Bk W H B bot (q9.1.trans hk) m2 d1 d2 d3 d4 fb q9 (by lia) (by lia)
       refine ik (fun hm=>?_) fun hm=>?_
       ·refine gp (qk fun n5 q9=>?_);exact iE (body _ n5 (aF.trans q9)) fun x b7 hx=>by cases x<;>exact hx
       ·refine gp (qk fun n5 q9=>?_);exact iE (body _ n5 (aF.trans q9)) fun x b7 hx=>by cases x<;>exact hx
end
theorem Ep(i:Nat):mergeAt' i=(do
 let s <-get
 let(some (sa,na,power),some (sb,nb,_)):=((pendingOf s)[i]?,(pendingOf s)[i+1]?)|unsupported "internal:list.sort.pending"
 set (setPending s (((pendingOf s).setIfInBounds i (sa,na+nb,power)).eraseIdxIfInBounds (i+1)))
 let some k <-ky false (<-elem' (arrOf s) sb) (arrOf s) sa na 0|return false
 let(sa,na):=(sa+k,na-k)
 if na==0 then return true
 let some nb <-ky true (<-elem' (arrOf s) (sa+na-1)) (arrOf s) sb nb (nb-1)|return false
 if nb==0 then return true
 let x:=(arrOf s).extract sa sb
 let y:=(arrOf s).extract sb (sb+nb)
 let merged <-if na<=nb then xJ x y else xM x y
 modify fun s=>setArr s (merged.toList.zipIdx.foldl (fun a (p,j)=>a.setIfInBounds (sa+j) p) (arrOf s))
 return (failedOf (<-get)).isNone):=rfl
noncomputable def seg(L:hJ)(a n:Nat):List Nat:=(L.drop a).take n
section
variable {lt:lg}{p:jB}{a b n m:Nat}{L:hJ}
theorem vS(h:a+n<=L.length):(seg L a n).length=n:=by simp[seg];lia
theorem Ay{i:Nat}(hi:i<n):(seg L a n)[i]?=L[a+i]?:=by
 simp only[seg,List.getElem?_take,hi,iA,uA]
theorem ND(h:a+n<=p.size):Up lt p a (a+n)↔(seg p.toList a n).Pairwise (SL lt):=by
 have hl:(seg p.toList a n).length=n:=vS (by simpa using h)
 have get: ∀i (hi:i<n),(seg p.toList a n)[i]'(by lia)=P p (a+i):=fun i hi=>by
  have:(seg p.toList a n)[i]?=some (P p (a+i)):=by
   rw[Ay hi];have:=vH (p:=p) (i:=a+i) (by lia);simpa using this
  rw[iM (by lia)] at this;exact iC this
 rw[Fc];constructor
 ·intro u i j hi hj o4;rw[get i (by lia),get j (by lia)];exact u _ _ (by lia) (by lia) (by lia)
 ·intro u i j h1 h2 h3;have:=u (i-a) (j-a) (by lia) (by lia) (by lia);rw[get _ (by lia),get _ (by lia),show a+(i-a)=i by lia,show a+(j-a)=j by lia] at this;exact this
theorem Lr(h:a+n<=p.size)(lo hi:Nat):(∀k,a<=k->k<a+n->lo<=P p k/\P p k<hi)↔ ∀x∈seg p.toList a n,lo<=x/\x<hi:=by
 have hl:(seg p.toList a n).length=n:=vS (by simpa using h)
 have get: ∀i (hi:i<n),(seg p.toList a n)[i]'(by lia)=P p (a+i):=fun i hi=>by
  have:(seg p.toList a n)[i]?=some (P p (a+i)):=by
   rw[Ay hi];have:=vH (p:=p) (i:=a+i) (by lia);simpa using this
  rw[iM (by lia)] at this;exact iC this
 constructor
 ·intro u x hx;obtain⟨i,hi,e⟩:=uD hx;rw[<-e,get i (by lia)];exact u _ (by lia) (by lia)
 ·intro u k k1 k2;have:=u _ (kl (l:=seg p.toList a n) (n:=k-a) (by lia));rw[get _ (by lia),show a+(k-a)=k by lia] at this;exact this
theorem rW(h:a+n+m<=L.length):seg L a (n+m)=seg L a n++seg L (a+n) m:=by
 unfold seg;rw[List.take_add,oh]
theorem J6(h:a+n<=L.length):L=L.take a++(seg L a n++L.drop (a+n)):=by
 unfold seg;rw[show L.drop (a+n)=(L.drop a).drop n by rw[oh],lh,lh]
theorem Cq{α:Type}: ∀(m:List α) (j a:Nat) (L:List α),a+j+m.length<=L.length->((m.zipIdx j).foldl (fun(x:Array α) (p:α×Nat)=>x.setIfInBounds (a+p.2) p.1) L.toArray).toList=L.take (a+j)++(m++L.drop (a+j+m.length))
 |[],j,a,L,h=>by simp
 |x::m,j,a,L,h=>by
  simp only[jq] at h;rw[List.zipIdx_cons,List.foldl_cons];dsimp only;rw[List.setIfInBounds_toArray,Cq m (j+1) a (L.set (a+j) x) (by rw[pN];lia)]
  have e1:(L.set (a+j) x).take (a+(j+1))=L.take (a+j)++[x]:=by
   rw[show a+(j+1)=a+j+1 by lia,Di,HW (ic _),lJ (by lia)];rfl
  have e2:(L.set (a+j) x).drop (a+(j+1)+m.length)=L.drop (a+(j+1)+m.length):=HV (by lia);rw[e1,e2];simp only[jq];rw[show a+j+(m.length+1)=a+(j+1)+m.length by lia,jF,Dh];rfl
end
section
variable {prog:gM}{w:gE}{A:gG}{E:hV}{G:Shared->Prop}{it:mL}{lt:lg}{κ:SortKind}{N:Nat}
theorem A0(hT:T.length=a)(hM:M.length=n):seg (T++(M++D)) a n=M/\(T++(M++D)).take a=T/\(T++(M++D)).drop (a+n)=D:=by
 subst hT hM;refine⟨?_,List.take_left,?_⟩
 ·unfold seg;rw[Dg,List.take_left]
 ·rw[<-oh,Dg,Dg]
def Run(lt:lg)(L:hJ)(a n:Nat):Prop:=1<=n/\(seg L a n).Pairwise (SL lt)/\ ∀x∈seg L a n,a<=x/\x<a+n
theorem NA(W:Wk lt)(H:Ask prog w A E G it κ N lt){i sa na sb nb pw dy:Nat}{st:iI}{p:jB}(R:Rp it κ N st p)(e1:(pendingOf st)[i]?=some (sa,na,pw))(e2:(pendingOf st)[i+1]?=some (sb,nb,dy))(hs:sb=sa+na)(hn:sb+nb<=N)(r1:Run lt p.toList sa na)(r2:Run lt p.toList sb nb)
  {Q:Bool->SortSt->Prop}(h: ∀b7 p',Rp it κ N b7 p'->pendingOf b7=((pendingOf st).setIfInBounds i (sa,na+nb,pw)).eraseIdxIfInBounds (i+1)->Run lt p'.toList sa (na+nb)->p'.toList.take sa=p.toList.take sa->p'.toList.drop (sa+(na+nb))=p.toList.drop (sa+(na+nb))->Q true b7):
  wpI (model prog w) A E G (mergeAt' i) Q st:=by
 rw[Ep];refine gp (kL ?_);rw[e1,e2];dsimp only;refine gp (La ?_);rw[R.arr];obtain⟨n1,s1,x1⟩:=r1;obtain⟨n2,s2,x2⟩:=r2;have hL:p.toList.length=N:=by simp[R.size]
 have hp:p=p.toList.toArray:=by simp
 generalize hLL:p.toList=L at*;subst hp;have ea:(L.toArray.map it)=(L.map it).toArray:=by simp
 rw[ea]
 have eP: ∀y∈L,y<N:=fun y hy=>by
  have:=(MW.mp R.perm).mem_iff.mp (by simpa using hy);simpa using this
 generalize u9:setPending st (((pendingOf st).setIfInBounds i (sa,na+nb,pw)).eraseIdxIfInBounds (i+1))=aI;have cA:kindOf aI=κ:=by rw[<-u9];exact R.kind
 have aQ:arrOf aI=(L.map it).toArray:=by rw[<-u9];show arrOf st=_;rw[R.arr,ea]
 have hp1:pendingOf aI=((pendingOf st).setIfInBounds i (sa,na+nb,pw)).eraseIdxIfInBounds (i+1):=by rw[<-u9]
 have fN:failedOf aI=none:=by rw[<-u9];exact R.ok
 have hlen1:(seg L sa na).length=na:=vS (by lia);have hlen2:(seg L sb nb).length=nb:=vS (by lia);have aE:sb<L.length:=by lia
 have r0:seg L sb nb=L[sb]::seg L (sb+1) (nb-1):=by
  unfold seg;rw[qW aE,show nb=nb-1+1 by lia,HU];rfl
 have key_mem:L[sb]∈seg L sb nb:=by rw[r0];exact iN
 have key_le: ∀z∈seg L sb nb,z=L[sb]\/SL lt L[sb] z:=fun z hz=>by
  rw[r0] at s2 hz;rcases lq.mp hz with hz|hz
  ·exact .inl hz
  ·exact .inr ((pE.mp s2).1 z hz)
 have idx: ∀y∈seg L sa na,∀z∈seg L sb nb,y<z:=fun y hy z hz=>by
  have:=x1 y hy;have:=x2 z hz;lia
 have up: ∀y∈seg L sa na,lt L[sb] y=false-> ∀z∈seg L sb nb,SL lt y z:=fun y hy hl z hz=>by
  have first:SL lt y L[sb]:= .inr ⟨hl,idx y hy _ key_mem⟩;rcases key_le z hz with rfl|hz
  ·exact first
  ·exact SL.trans W first hz
 refine gp (jM aE (gp (qm W H (eP _ (kl _)) eP (by lia) (by lia) cA s1 fun k k1 k2 k3=>?_)));dsimp only;change ∀y∈(seg L sa na).take k,_ at k2;change ∀y∈(seg L sa na).drop k,_ at k3;simp only[iJ,iX,wq,Bool.not_eq_false'] at k2 k3;by_cases hz:(na-k==0)=true
 ·rw[gz hz];have hz:na-k=0:=by simpa using hz
  have k2': ∀y∈seg L sa na,lt L[sb] y=false:=fun y hy=>k2 y (by rw[rN (by lia)];exact hy);refine gr (h aI L.toArray ⟨by rw[aQ,ea],cA,fN,R.size,R.perm⟩ hp1 ?_ rfl rfl);show Run lt L sa (na+nb);refine⟨by lia,?_,fun x hx=>?_⟩
  ·rw[rW (by lia),<-hs];exact nv.mpr ⟨s1,s2,fun y hy z hz=>up y hy (k2' y hy) z hz⟩
  ·rw[rW (by lia),<-hs] at hx;rcases nu.mp hx with hx|hx
   ·have:=x1 x hx;lia
   ·have:=x2 x hx;lia
 ·rw[gC hz];have hz:na-k≠0:=fun z=>hz (by simp[z]);have ao:sa+k+(na-k)-1<L.length:=by lia
  have k9:(seg L sa na)[na-1]?=some L[sa+k+(na-k)-1]:=by
   rw[Ay (by lia),iM (by lia)]
   congr 2;lia
  have t8:L[sa+k+(na-k)-1]∈(seg L sa na).drop k:=by
   refine kF (i:=na-1-k) ?_;rw[uA,show k+(na-1-k)=na-1 by lia];exact k9
  generalize dG:L[sa+k+(na-k)-1]=la at k9 t8
  have le_last: ∀y∈seg L sa na,y=la\/SL lt y la:=fun y hy=>by
   obtain⟨j,hj,e⟩:=uD hy;by_cases cY:j=na-1
   ·left;subst cY;rw[iM hj] at k9;rw[<-e];exact iC k9
   ·right;have:=Fc.mp s1 j (na-1) hj (by lia) (by lia);rw[iM (by lia)] at k9;rw[e,iC k9] at this;exact this
  have la_seg:la∈seg L sa na:=kT t8;refine gp (jM ao ?_);rw[dG];refine gp (qm W H (eP _ (by rw[<-dG];exact kl _)) eP (by lia) (by lia) cA s2 fun j4 j1 j2 j3=>?_);dsimp only;change ∀y∈(seg L sb nb).take j4,_ at j2;change ∀y∈(seg L sb nb).drop j4,_ at j3;simp only[iA] at j2 j3;by_cases hy:(j4==0)=true
  ·have hy:j4=0:=by simpa using hy
   subst hy;have:=j3 L[sb] (by rw[Ad];exact key_mem);rw[k3 la t8] at this;cases this
  ·rw[gC hy];have hy:j4≠0:=fun z=>hy (by simp[z])
   have ex:(L.map it).toArray.extract (sa+k) sb=(((seg L sa na).drop k).map it).toArray:=by
    simp only[uC,uB,seg,List.drop_take,oh,List.map_take,List.map_drop];rw[show sb-(sa+k)=na-k by lia]
   have ey:(L.map it).toArray.extract sb (sb+j4)=(((seg L sb nb).take j4).map it).toArray:=by
    simp only[uC,uB,seg,rM,List.map_take,List.map_drop];rw[show sb+j4-sb=j4 by lia,pS j1]
   rw[ex,ey];have hq:((seg L sa na).drop k).length=na-k:=by simp[hlen1]
   have hr:((seg L sb nb).take j4).length=j4:=by rw[pk,hlen2,pS j1]
   have B:Pre lt N ((seg L sa na).drop k) ((seg L sb nb).take j4):=
    ⟨s1.sublist (og _ _),s2.sublist (ny _ _),fun x hx y hy=>idx x (kT hx) y (mx hy),fun x hx=>by have:=x1 x (kT hx);lia,fun x hx=>by have:=x2 x (mx hx);lia⟩
   have rz:((seg L sb nb).take j4)[0]'(by lia)=L[sb]:=by
    rw[List.getElem_take];have:(seg L sb nb)[0]?=some L[sb]:=by rw[r0];rfl
    rw[iM (by lia)] at this;exact iC this
   have ql:((seg L sa na).drop k)[((seg L sa na).drop k).length-1]'(by lia)=la:=by
    rw[List.getElem_drop];have:(seg L sa na)[k+(((seg L sa na).drop k).length-1)]?=some la:=by rw[hq,show k+(na-k-1)=na-1 by lia];exact k9
    rw[iM (by lia)] at this;exact iC this
   have fin: ∀merged b7,Res lt it ((seg L sa na).drop k) ((seg L sb nb).take j4) merged->Same aI b7->wpI (model prog w) A E G (do
     modify fun s=>setArr s (List.foldl (fun a x=>a.setIfInBounds (sa+k+x.snd) x.fst) (arrOf s) merged.toList.zipIdx)
     let r <-get
     pure (failedOf r).isNone) Q b7:=fun merged b7 cu aj=>by
    obtain⟨o,rfl,so,po⟩:=cu;have ol:o.length=na-k+j4:=by rw[po.length_eq,mz,hq,hr]
    refine gp (jD (gp (kL (gr ?_))));have arr':arrOf b7=(L.map it).toArray:=aj.2.1.trans aQ
    have c1:L.take (sa+k)=L.take sa++(seg L sa na).take k:=by
     unfold seg;rw[rM,pS k1,<-List.take_add]
    have c2:L.drop (sa+k+o.length)=(seg L sb nb).drop j4++L.drop (sa+(na+nb)):=by
     have e3:L.drop (sa+(na+nb))=(L.drop (sb+j4)).drop (nb-j4):=by rw[oh];congr 1;lia
     rw[ol,show sa+k+(na-k+j4)=sb+j4 by lia,e3];unfold seg;rw[List.drop_take,oh,lh]
    have fold:List.foldl (fun(a:mM) (x:Keyed×Nat)=>a.setIfInBounds (sa+k+x.snd) x.fst) (arrOf b7) (o.map it).toArray.toList.zipIdx=(((L.take sa++(((seg L sa na).take k++(o++(seg L sb nb).drop j4))++L.drop (sa+(na+nb)))):List Nat).toArray).map it:=by
     rw[arr'];apply Array.toList_inj.mp;have:=Cq (o.map it) 0 (sa+k) (L.map it) (by simp only[jk,ol];lia);rw[Df] at this;refine this.trans ?_;simp only[Array.toList_map,jk];rw[<-List.map_take,<-List.map_drop,c1,c2];simp only[wm,jF]
    have hpm:(L.take sa++(((seg L sa na).take k++(o++(seg L sb nb).drop j4))++L.drop (sa+(na+nb)))).Perm L:=by
     have cut:=J6 (L:=L) (a:=sa) (n:=na+nb) (by lia);refine List.Perm.trans ?_ (wo cut.symm);refine qV _ (uE _ ?_);rw[rW (by lia),<-hs];have e1:=lh k (seg L sa na);have e2:=lh j4 (seg L sb nb);have:((seg L sa na).take k++(o++(seg L sb nb).drop j4)).Perm ((seg L sa na).take k++(((seg L sa na).drop k++(seg L sb nb).take j4)++(seg L sb nb).drop j4)):=qV _ (uE _ po);refine this.trans (wo ?_);rw[jF,e2,<-jF,e1]
    have fE:((seg L sa na).take k++(o++(seg L sb nb).drop j4)).length=na+nb:=by
     simp only[mz,pk,rS,hlen1,hlen2,ol];lia
    have fj:(L.take sa).length=sa:=by simp;lia
    show Q (failedOf b7).isNone _;rw[aj.2.2.2,fN];refine h _ (L.take sa++(((seg L sa na).take k++(o++(seg L sb nb).drop j4))++L.drop (sa+(na+nb)))).toArray ⟨fold,aj.1.trans cA,aj.2.2.2.trans fN,by rw[jc,hpm.length_eq,hL],MW.mpr (hpm.trans (MW.mp R.perm))⟩ (aj.2.2.1.trans hp1) ?_ ?_ ?_
    ·have hseg:=(A0 (D:=L.drop (sa+(na+nb))) fj fE).1;show Run lt (L.take sa++_) sa (na+nb);unfold Run;rw[hseg];have om: ∀x∈o,x∈(seg L sa na).drop k\/x∈(seg L sb nb).take j4:=fun x hx=>nu.mp (po.mem_iff.mp hx);refine⟨by lia,nv.mpr ⟨s1.sublist (ny _ _),nv.mpr ⟨so,s2.sublist (og _ _),fun x hx z hz=>?_⟩,fun y hy x hx=>?_⟩,fun x hx=>?_⟩
     ·rcases om x hx with hx|hx
      ·have lz:SL lt la z:= .inr ⟨j3 z hz,idx la la_seg z (kT hz)⟩;rcases le_last x (kT hx) with rfl|hx
       ·exact lz
       ·exact SL.trans W hx lz
      ·have:=s2;rw[<-lh j4 (seg L sb nb),nv] at this;exact this.2.2 x hx z hz
     ·have hyl:=k2 y hy;have hys:=mx hy;rcases nu.mp hx with hx|hx
      ·rcases om x hx with hx|hx
       ·have:=s1;rw[<-lh k (seg L sa na),nv] at this;exact this.2.2 y hy x hx
       ·exact up y hys hyl x (mx hx)
      ·exact up y hys hyl x (kT hx)
     ·have in1:x∈seg L sa na\/x∈seg L sb nb:=by
       rcases nu.mp hx with hx|hx
       ·exact .inl (mx hx)
       ·rcases nu.mp hx with hx|hx
        ·exact(om x hx).imp kT mx
        ·exact .inr (kT hx)
      rcases in1 with hx|hx
      ·have:=x1 x hx;lia
      ·have:=x2 x hx;lia
    ·show(L.take sa++_).take sa=L.take sa;exact(A0 fj fE).2.1
    ·show(L.take sa++_).drop (sa+(na+nb))=L.drop (sa+(na+nb));exact(A0 fj fE).2.2
   by_cases hle:na-k<=j4
   ·rw[gz hle];refine gp (Ny W H B (by lia) (by lia) (fun y hy=>by rw[rz];exact .inl (k3 y hy)) (fun x hx y hy=>?_) cA fin)
    have:y=la:=by
     have e:((seg L sa na).drop k).drop (((seg L sa na).drop k).length-1)=[la]:=by
      rw[qW (by lia),ql,rP (by lia)]
     rw[e] at hy;exact nV.mp hy
    subst this;exact .inl (j2 x hx)
   ·rw[gC hle];refine gp (Nz W H B (by lia) (by lia) (fun x hx y hy=>?_) (fun x hx=>by rw[ql];exact .inl (j2 x hx)) cA fin)
    have:x=L[sb]:=by
     have e:((seg L sb nb).take j4).take 1=[L[sb]]:=by
      rw[r0,show j4=j4-1+1 by lia,HU];rfl
     rw[e] at hx;exact nV.mp hx
    subst this;exact .inl (k3 y hy)
def Chain(lt:lg)(L:hJ):Nat->List (Nat×Nat×Nat)->Nat->Prop
 |a,[],b=>a=b
 |a,(s,n,_)::r,b=>s=a/\Run lt L a n/\Chain lt L (a+n) r b
theorem Chain.le{L:hJ}: ∀{l:List (Nat×Nat×Nat)} {a b:Nat},Chain lt L a l b->a+l.length<=b
 |[],a,b,h=>by have:a=b:=h;simp;lia
 |(s,n,x)::r,a,b,h=>by
  obtain⟨_,r1,h2⟩:=h;have:=Chain.le h2;have:=r1.1;simp only[jq];lia
theorem IY(h:Run lt L a n)(hc:a+n<=c)(e:L'.take c=L.take c):Run lt L' a n:=by
 have:seg L' a n=seg L a n:=by
  have q: ∀X:List Nat,seg X a n=seg (X.take c) a n:=fun X=>by
   unfold seg;rw[List.drop_take,rM,pS (by lia)]
  rw[q L',q L,e]
 unfold Run;rw[this];exact h
theorem xh(h:Run lt L a n)(hc:c<=a)(e:L'.drop c=L.drop c):Run lt L' a n:=by
 have:seg L' a n=seg L a n:=by
  have q: ∀X:List Nat,seg X a n=seg (X.drop c) (a-c) n:=fun X=>by
   unfold seg;rw[oh,show c+(a-c)=a by lia]
  rw[q L',q L,e]
 unfold Run;rw[this];exact h
theorem Chain.take{L L':hJ}{c:Nat}(e:L'.take c=L.take c): ∀{l:List (Nat×Nat×Nat)} {a b:Nat},Chain lt L a l b->b<=c->Chain lt L' a l b
 |[],a,b,h,_=>h
 |(s,n,x)::r,a,b,h,hc=>by
  obtain⟨h1,h2,h3⟩:=h;have:=Chain.le h3;exact⟨h1,IY h2 (by lia) e,Chain.take e h3 hc⟩
theorem Chain.drop{L L':hJ}{c:Nat}(e:L'.drop c=L.drop c): ∀{l:List (Nat×Nat×Nat)} {a b:Nat},Chain lt L a l b->c<=a->Chain lt L' a l b
 |[],a,b,h,_=>h
 |(s,n,x)::r,a,b,h,hc=>by
  obtain⟨h1,h2,h3⟩:=h;exact⟨h1,xh h2 hc e,Chain.drop e h3 (by lia)⟩
theorem Chain.append{L:hJ}: ∀{l m:List (Nat×Nat×Nat)} {a b:Nat},Chain lt L a (l++m) b↔ ∃c,Chain lt L a l c/\Chain lt L c m b
 |[],m,a,b=>⟨fun h=>⟨a,rfl,h⟩,fun⟨c,h1,h2⟩=>by have:a=c:=h1;subst this;exact h2⟩
 |(s,n,x)::r,m,a,b=>by
  constructor
  ·rintro⟨h1,h2,h3⟩;obtain⟨c,h4,h5⟩:=Chain.append.mp h3;exact⟨c,⟨h1,h2,h4⟩,h5⟩
  ·rintro⟨c,⟨h1,h2,h4⟩,h5⟩;exact⟨h1,h2,Chain.append.mpr ⟨c,h4,h5⟩⟩
theorem uQ(W:Wk lt)(H:Ask prog w A E G it κ N lt){i lo:Nat}{st:iI}{p:jB}(R:Rp it κ N st p)(ch:Chain lt p.toList 0 (pendingOf st).toList lo)(hlo:lo<=N)(hi:i+1<(pendingOf st).size){Q:Bool->SortSt->Prop}
  (h: ∀b7 p',Rp it κ N b7 p'->Chain lt p'.toList 0 (pendingOf b7).toList lo->(pendingOf b7).size+1=(pendingOf st).size->p'.toList.drop lo=p.toList.drop lo->Q true b7):wpI (model prog w) A E G (mergeAt' i) Q st:=by
 obtain⟨⟨sa,na,pw⟩,e1⟩: ∃x,(pendingOf st)[i]?=some x:=⟨_,mO (by lia)⟩
 obtain⟨⟨sb,nb,dy⟩,e2⟩: ∃x,(pendingOf st)[i+1]?=some x:=⟨_,mO hi⟩
 have f1:(pendingOf st).toList[i]?=some (sa,na,pw):=by simpa using e1
 have f2:(pendingOf st).toList[i+1]?=some (sb,nb,dy):=by simpa using e2
 have hl:(pendingOf st).toList.length=(pendingOf st).size:=by simp
 have cut:(pendingOf st).toList=(pendingOf st).toList.take i++((sa,na,pw)::(sb,nb,dy)::(pendingOf st).toList.drop (i+2)):=by
  have a1:(pendingOf st).toList.drop i=(sa,na,pw)::(pendingOf st).toList.drop (i+1):=by
   rw[qW (by lia)];rw[iM (by lia)] at f1;rw[iC f1]
  have a2:(pendingOf st).toList.drop (i+1)=(sb,nb,dy)::(pendingOf st).toList.drop (i+2):=by
   rw[qW (by lia)];rw[iM (by lia)] at f2;rw[iC f2]
  rw[<-a2,<-a1,lh]
 rw[cut] at ch;obtain⟨c,c1,c2⟩:=Chain.append.mp ch;obtain⟨rfl,r1,rfl,r2,c3⟩:=c2;have le3:=Chain.le c3;refine NA W H R e1 e2 rfl (by lia) r1 r2 fun b7 p' R' ep rn et ed=>?_
 have lst:(pendingOf b7).toList=(pendingOf st).toList.take i++((sa,na+nb,pw)::(pendingOf st).toList.drop (i+2)):=by
  rw[ep];have hx:i+1<((pendingOf st).setIfInBounds i (sa,na+nb,pw)).size:=by simpa using hi
  rw[Array.eraseIdxIfInBounds,dif_pos hx]
  have: ∀(l:List (Nat×Nat×Nat)) (z:Nat×Nat×Nat),i+1<l.length->(l.set i z).eraseIdx (i+1)=l.take i++(z::l.drop (i+2)):=fun l z hz=>by
   rw[HS];rw[show i+1+1=i+2 from rfl,HV (by lia),Di,HW (ic _),lJ (by lia)];simp
  have q:=this (pendingOf st).toList (sa,na+nb,pw) (by lia);simpa using q
 refine h b7 p' R' ?_ ?_ ?_
 ·rw[lst];refine Chain.append.mpr ⟨sa,Chain.take et c1 (ic _),rfl,rn,?_⟩;rw[<-Nat.add_assoc];exact Chain.drop ed c3 (by lia)
 ·have:=oj List.length lst;simp only[jv,mz,pk,jq,rS] at this
  lia
 ·have q: ∀X:List Nat,X.drop lo=(X.drop (sa+(na+nb))).drop (lo-(sa+(na+nb))):=fun X=>by rw[oh];congr 1;lia
  rw[q,q p.toList,ed]
theorem GA{p p':jB}{lo:Nat}(hs:p'.size=p.size)(h: ∀k,k<lo->P p' k=P p k):p'.toList.take lo=p.toList.take lo:=by
 apply rO;intro k;rw[List.getElem?_take,List.getElem?_take];split
 ·rename_i hk;by_cases hz:k<p.size
  ·have a:=vH (p:=p) hz;have b:=vH (p:=p') (by rw[hs];exact hz);have a':p.toList[k]?=some (P p k):=by simpa using a
   have b':p'.toList[k]?=some (P p' k):=by simpa using b
   rw[a',b',h k hk]
  ·rw[Ah (by simp;lia),Ah (by simp;lia)]
 ·rfl
theorem F7{p p':jB}{lo n:Nat}(hs:p'.size=p.size)(e:p'.toList.drop lo=p.toList.drop lo)(h: ∀k,lo+n<=k->k<p.size->P p k=k): ∀k,lo+n<=k->k<p'.size->P p' k=k:=fun k k1 k2=>by
 have a:=vH (p:=p) (i:=k) (by lia);have b:=vH (p:=p') k2;have a':p.toList[k]?=some (P p k):=by simpa using a
 have b':p'.toList[k]?=some (P p' k):=by simpa using b
 have q: ∀X:List Nat,X[k]?=(X.drop lo)[k-lo]?:=fun X=>by rw[uA,show lo+(k-lo)=k by lia]
 rw[q,e,<-q,a'] at b';rw[<-iC b'];exact h k k1 (by lia)
theorem Mv{c:Prop}[Decidable c]{a b m:Nat}(ha:a<=m)(hb:b<=m):(if c then a else b)<=m:=by
 by_cases h:c
 ·rw[gz h];exact ha
 ·rw[gC h];exact hb
structure Mid(it:mL)(lt:lg)(κ:SortKind)(N lo:Nat)(st:iI)(p:jB):Prop where
 R:Rp it κ N st p
 ch:Chain lt p.toList 0 (pendingOf st).toList lo
 le:lo<=N
 fx: ∀k,lo<=k->k<N->P p k=k
structure Mid2(it:mL)(lt:lg)(κ:SortKind)(N lo n:Nat)(st:iI)(p:jB):Prop where
 R:Rp it κ N st p
 ch:Chain lt p.toList 0 (pendingOf st).toList lo
 le:lo+n<=N
 fx: ∀k,lo+n<=k->k<N->P p k=k
 rn:Run lt p.toList lo n
theorem Mid2.of{lo n:Nat}{bu st:iI}{p0 p:jB}(M:Mid it lt κ N lo bu p0)(R:Rp it κ N st p)(e:pendingOf st=pendingOf bu)(h1:1<=n)(h2:lo+n<=N)(f: ∀k,k<lo->P p k=P p0 k)(fx: ∀k,lo+n<=k->k<N->P p k=k)(rg:Reg p lo (lo+n))(up:Up lt p lo (lo+n)):Mid2 it lt κ N lo n st p:=by
 have hz:lo+n<=p.size:=by rw[R.size];exact h2
 refine⟨R,?_,h2,fx,h1,(ND hz).mp up,(Lr hz lo (lo+n)).mp rg⟩;rw[e];exact Chain.take (GA (by rw[R.size,M.R.size]) f) M.ch (ic _)
theorem Mid2.push{lo n pw:Nat}{st:iI}{p:jB}(M:Mid2 it lt κ N lo n st p):Mid it lt κ N (lo+n) (setPending st ((pendingOf st).push (lo,n,pw))) p:=by
 refine⟨⟨M.R.arr,M.R.kind,M.R.ok,M.R.size,M.R.perm⟩,?_,M.le,M.fx⟩;show Chain lt p.toList 0 ((pendingOf st).push (lo,n,pw)).toList (lo+n);rw[Array.toList_push];exact Chain.append.mpr ⟨lo,M.ch,rfl,M.rn,rfl⟩
theorem CA{L:hJ}{f:Nat×Nat×Nat->Nat×Nat×Nat}(hf: ∀x,(f x).1=x.1/\(f x).2.1=x.2.1): ∀{l:List (Nat×Nat×Nat)} {a b:Nat} (i:Nat),Chain lt L a l b->Chain lt L a (l.modify i f) b
 |[],a,b,i,h=>by cases i<;>exact h
 |(s,n,x)::r,a,b,0,h=>by
  obtain⟨h1,h2,h3⟩:=h;have e:=hf (s,n,x);show Chain lt L a (f (s,n,x)::r) b;rcases hq:f (s,n,x) with⟨s',n',x'⟩
  rw[hq] at e;obtain⟨rfl,rfl⟩:=e;exact⟨h1,h2,h3⟩
 |(s,n,x)::r,a,b,i+1,h=>by
  obtain⟨h1,h2,h3⟩:=h;exact⟨h1,h2,CA hf i h3⟩
theorem Mid2.pw{lo n pw i:Nat}{st:iI}{p:jB}(M:Mid2 it lt κ N lo n st p):Mid2 it lt κ N lo n (setPending st ((pendingOf st).modify i fun x=>(x.fst,x.2.fst,pw))) p:=by
 refine⟨⟨M.R.arr,M.R.kind,M.R.ok,M.R.size,M.R.perm⟩,?_,M.le,M.fx,M.rn⟩;show Chain lt p.toList 0 ((pendingOf st).modify i fun x=>(x.fst,x.2.fst,pw)).toList lo;rw[Array.toList_modify];exact CA (f:=fun x=>(x.fst,x.2.fst,pw)) (fun x=>⟨rfl,rfl⟩) i M.ch
theorem Iy(W:Wk lt)(H:Ask prog w A E G it κ N lt)(h2:1<=N){st:iI}{p:jB}(R:Rp it κ N st p)(e0:pendingOf st= #[])(fx0: ∀k,k<N->P p k=k){Q:Unit->SortSt->Prop}
  (h: ∀b7 p',Rp it κ N b7 p'->p'.toList.Pairwise (SL lt)->Q () b7):wpI (model prog w) A E G sortRuns' Q st:=by
 rw[sortRuns'_eq];refine gp (kL ?_);dsimp only;have hz:(arrOf st).size=N:=by rw[R.arr,Array.size_map,R.size]
 rw[hz];generalize hmr:minRun' N N 0=mr;have m0:Mid it lt κ N 0 st p:=⟨R,by rw[e0];rfl,lI _,fun k _ k2=>fx0 k k2⟩
 refine gp (iE (iL (I:=fun x c b7=> ∃lo p',c=(none,lo)/\x<=lo/\Mid it lt κ N lo b7 p') (Q:=fun c b7=> ∃p',c=(none,N)/\Mid it lt κ N N b7 p') ?step ?fin ⟨0,p,rfl,ic _,m0⟩) ?post)
 case fin=>
  rintro c b7 ⟨lo,p',rfl,hx,M⟩;have:=M.le;have:lo=N:=by lia
  subst this;exact⟨p',rfl,M⟩
 case step=>
  rintro x c b7 _ hx ⟨lo,p',rfl,hlo,M⟩;dsimp only;by_cases fL:lo>=N
  ·rw[gz fL];have:=M.le;have:lo=N:=by lia
   subst this;exact gr ⟨p',rfl,M⟩
  ·rw[gC fL];refine gp (Gx W H (by lia) (by lia) M.R M.fx fun n i8 p2 R2 e2 n1 n2 f2 fx2 rg2 ar=>?_);dsimp only;by_cases k6:n<mr
   ·rw[gz k6];refine gp (oo (gp (Lb W H n1 (by lia) (by lia) R2 fx2 rg2 ar fun n5 p3 R3 e3 f3 fx3 rg3 bt=>?_)));simp only[lH,iJ,iX];have M3:Mid2 it lt κ N lo (min (N-lo) mr) n5 p3:=Mid2.of M R3 (e3.trans e2) (by lia) (by lia) (fun k hk=>(f3 k hk).trans (f2 k hk)) fx3 rg3 bt;have hn1:1<=min (N-lo) mr:=by lia
    generalize min (N-lo) mr=n' at*;refine gp (kL ?_)
    cases hb:(pendingOf n5).back? with
    |none=>
     dsimp only;exact gp (jD (gr ⟨lo+n',p3,rfl,by lia,M3.push⟩))
    |some x1=>
     obtain⟨s1,m1,y1⟩:=x1;dsimp only;generalize power' N (2*s1+m1) (2*s1+m1+m1+n') N=pw;refine gp (iE (iL (I:=fun x c t5=>c=(none,())/\ ∃p4,Mid2 it lt κ N lo n' t5 p4) (Q:=fun c t5=>c=(none,())/\ ∃p4,Mid2 it lt κ N lo n' t5 p4) ?_ (fun _ _ q=>q) ⟨rfl,p3,M3⟩) ?_)
     ·rintro y c t5 _ _ ⟨rfl,p4,M4⟩;refine gp (kL ?_);by_cases h1:(pendingOf t5).size>1
      ·rw[gz h1]
       cases hc:(pendingOf t5)[(pendingOf t5).size-2]? with
       |none=>dsimp only;exact gr ⟨rfl,p4,M4⟩
       |some z=>
        obtain⟨z1,z2,aV⟩:=z;dsimp only;by_cases ho:aV<=pw
        ·rw[gz ho];exact gr ⟨rfl,p4,M4⟩
        ·rw[gC ho];refine gp (uQ W H M4.R M4.ch (by have:=M4.le;lia) (by lia) fun bF p5 R5 gg _ dO=>?_);simp only[lH,iJ,iX];refine gr ⟨rfl,p5,R5,gg,M4.le,?_,xh M4.rn (ic _) dO⟩;have:=F7 (p:=p4) (p':=p5) (lo:=lo) (n:=n') (by rw[R5.size,M4.R.size]) dO (by rw[M4.R.size];exact M4.fx);rw[R5.size] at this;exact this
      ·rw[gC h1];dsimp only;exact gr ⟨rfl,p4,M4⟩
     ·rintro c t5 ⟨rfl,p4,M4⟩;dsimp only;exact gp (jD (gp (jD (gr ⟨lo+n',p4,rfl,by lia,(M4.pw).push⟩))))
   ·rw[gC k6];have M3:Mid2 it lt κ N lo n i8 p2:=Mid2.of M R2 e2 n1 (by lia) f2 fx2 rg2 ar;have hn1:=n1;generalize n=n' at*;generalize i8=n5 at*;generalize p2=p3 at*;refine gp (kL ?_)
    cases hb:(pendingOf n5).back? with
    |none=>
     dsimp only;exact gp (jD (gr ⟨lo+n',p3,rfl,by lia,M3.push⟩))
    |some x1=>
     obtain⟨s1,m1,y1⟩:=x1;dsimp only;generalize power' N (2*s1+m1) (2*s1+m1+m1+n') N=pw;refine gp (iE (iL (I:=fun x c t5=>c=(none,())/\ ∃p4,Mid2 it lt κ N lo n' t5 p4) (Q:=fun c t5=>c=(none,())/\ ∃p4,Mid2 it lt κ N lo n' t5 p4) ?_ (fun _ _ q=>q) ⟨rfl,p3,M3⟩) ?_)
     ·rintro y c t5 _ _ ⟨rfl,p4,M4⟩;refine gp (kL ?_);by_cases h1:(pendingOf t5).size>1
      ·rw[gz h1]
       cases hc:(pendingOf t5)[(pendingOf t5).size-2]? with
       |none=>dsimp only;exact gr ⟨rfl,p4,M4⟩
       |some z=>
        obtain⟨z1,z2,aV⟩:=z;dsimp only;by_cases ho:aV<=pw
        ·rw[gz ho];exact gr ⟨rfl,p4,M4⟩
        ·rw[gC ho];refine gp (uQ W H M4.R M4.ch (by have:=M4.le;lia) (by lia) fun bF p5 R5 gg _ dO=>?_);simp only[lH,iJ,iX];refine gr ⟨rfl,p5,R5,gg,M4.le,?_,xh M4.rn (ic _) dO⟩;have:=F7 (p:=p4) (p':=p5) (lo:=lo) (n:=n') (by rw[R5.size,M4.R.size]) dO (by rw[M4.R.size];exact M4.fx);rw[R5.size] at this;exact this
      ·rw[gC h1];dsimp only;exact gr ⟨rfl,p4,M4⟩
     ·rintro c t5 ⟨rfl,p4,M4⟩;dsimp only;exact gp (jD (gp (jD (gr ⟨lo+n',p4,rfl,by lia,(M4.pw).push⟩))))
 case post=>
  rintro c b7 ⟨p',rfl,M⟩;dsimp only;refine gp (iE (iL (I:=fun x c i8=> ∃p2,c=(none,())/\Mid it lt κ N N i8 p2/\(pendingOf i8).size<=max 1 (N-x)) (Q:=fun c i8=> ∃p2,c=(none,())/\Mid it lt κ N N i8 p2/\(pendingOf i8).size<=1) ?step2 ?fin2 ⟨p',rfl,M,?init⟩) ?post2)
  case init=>
   have:=M.ch.le;simp only[jv] at this
   lia
  case fin2=>
   rintro c i8 ⟨p2,rfl,M2,hs⟩;exact⟨p2,rfl,M2,by lia⟩
  case post2=>
   rintro c i8 ⟨p2,rfl,M2,hs⟩;refine gr (h i8 p2 M2.R ?_);have ch:=M2.ch;have hl:p2.toList.length=N:=by simp[M2.R.size]
   match hq:(pendingOf i8).toList,ch with
   |[],ch=>have:0=N:=ch;lia
   |[(s,n,pw)],ch=>
    obtain⟨rfl,r,e⟩:=ch;have e:0+n=N:=e;have:seg p2.toList 0 n=p2.toList:=by unfold seg;rw[Ad,rN (by lia)]
    have q:=r.2.1
    rwa [this] at q
   |_::_::_,ch=>
    have:(pendingOf i8).toList.length<=1:=by simpa using hs
    rw[hq] at this;simp at this
  case step2=>
   rintro x c i8 _ hx ⟨p2,rfl,M2,hs⟩;refine gp (kL ?_);by_cases h1:(pendingOf i8).size<=1
   ·rw[gz h1];exact gr ⟨p2,rfl,M2,h1⟩
   ·rw[gC h1];refine gp (uQ W H M2.R M2.ch (ic _) ?_ fun n5 p3 R3 ch3 sz3 dr3=>?_)
    ·exact wk (Nat.add_le_add_right (Mv (m:=(pendingOf i8).size-2) (by lia) (ic _)) 1) (by lia)
    ·simp only[lH,iJ,iX];exact gr ⟨p3,rfl,⟨R3,ch3,ic _,fun k k1 k2=>by lia⟩,by lia⟩
end
end TS
namespace PX
open PySem PySem.Spec PyProof.Rows L2 PySem.SeqAt
open PySem.AutoSeq1 (wpAny_loadPart')
open PySem.MeetsSeq PySem.MeetsSeq2 PySem.MeetsSeq3
noncomputable def jr(op:CmpOp)(i j:Int):Bool:=match op with
 | .Lt=>decide (i<j)| .LtE=>decide (i<=j)| .Gt=>decide (i>j)|_=>decide (i>=j)
def tQ(op:CmpOp):Prop:=op= .Lt\/op= .LtE\/op= .Gt\/op= .GtE
def MT(op:CmpOp)(A:gG)(s:gu)(y x:gy)(b:Bool):Prop:= ∀(prog:gM) (w:gE) (E:hV) (Q:hV),Q (.bool b) s->wpAny (model prog w) A (richCompare op y x) Q E s
def yJ(op:CmpOp)(A:gG)(s:gu)(fin:Bool):List (Value×Value)->Bool->Prop
 |[],r=>r=fin
 |(y,x)::hG,r=> ∃e,EqAt A s y x e/\(if e=true then yJ op A s fin hG r else MT op A s y x r)
theorem IH(l b:gm)(items f7:kg)(n n2:Nat)(dd y6:Option Addr)(sl u5:qR)(r:Bool):
  Meets (Builtin.«tuple.__lt__» ⟨[.ref l,.ref b],[]⟩) (fun A R s=>s.heap.get? l=some {cls:= .type "tuple",dict:=dd,data:= .seq items n,slots:=sl}/\s.heap.get? b=some {cls:= .type "tuple",dict:=y6,data:= .seq f7 n2,slots:=u5}/\
   yJ .Lt A.in1 s (jr .Lt items.size f7.size) (items.toList.zip f7.toList) r/\R (.ok (.ret (.bool r))) s):=
 .of_wp fun prog w A R s h=>by
  obtain⟨hp,g,d,tk,os⟩:=s;obtain⟨hl,hb,hx,h⟩:=h;have f2:=Ac
  wp_walk using wpAny_loadPart' hl,wpAny_loadPart' hb,sD _ (fun hG b s'=>b.1=none/\s'=⟨hp,g,d,tk,os⟩/\yJ .Lt A.in1 ⟨hp,g,d,tk,os⟩ (jr .Lt items.size f7.size) hG r) _
  case turn=>
   rintro⟨y,x⟩ hG b s' ⟨s9,rfl,e,he,hx⟩;refine gw (he prog w _ _ ?_)
   cases e with
   |true=>
    simp only[iA] at hx
    wp_walk
    exact⟨rfl,rfl,hx⟩
   |false=>
    simp only[iJ,iX] at hx;have cq:=hx prog w
    wp_walk using cq
    exact⟨_,rfl,by simpa using h⟩
  case fin=>
   rintro⟨b1,b2⟩ s' ⟨s9,rfl,hx⟩;simp only at s9;subst s9;have hx:r=jr .Lt items.size f7.size:=hx;rw[hx] at h
   wp_walk
   exact⟨_,rfl,by simpa[Builtin.Tuple.tupleCompareSizes,jr] using h⟩
  case h=>exact⟨rfl,rfl,hx⟩
theorem II(l b:gm)(items f7:kg)(n n2:Nat)(dd y6:Option Addr)(sl u5:qR)(r:Bool):
  Meets (Builtin.«tuple.__le__» ⟨[.ref l,.ref b],[]⟩) (fun A R s=>s.heap.get? l=some {cls:= .type "tuple",dict:=dd,data:= .seq items n,slots:=sl}/\s.heap.get? b=some {cls:= .type "tuple",dict:=y6,data:= .seq f7 n2,slots:=u5}/\
   yJ .LtE A.in1 s (jr .LtE items.size f7.size) (items.toList.zip f7.toList) r/\R (.ok (.ret (.bool r))) s):=
 .of_wp fun prog w A R s h=>by
  obtain⟨hp,g,d,tk,os⟩:=s;obtain⟨hl,hb,hx,h⟩:=h;have f2:=Ac
  wp_walk using wpAny_loadPart' hl,wpAny_loadPart' hb,sD _ (fun hG b s'=>b.1=none/\s'=⟨hp,g,d,tk,os⟩/\yJ .LtE A.in1 ⟨hp,g,d,tk,os⟩ (jr .LtE items.size f7.size) hG r) _
  case turn=>
   rintro⟨y,x⟩ hG b s' ⟨s9,rfl,e,he,hx⟩;refine gw (he prog w _ _ ?_)
   cases e with
   |true=>
    simp only[iA] at hx
    wp_walk
    exact⟨rfl,rfl,hx⟩
   |false=>
    simp only[iJ,iX] at hx;have cq:=hx prog w
    wp_walk using cq
    exact⟨_,rfl,by simpa using h⟩
  case fin=>
   rintro⟨b1,b2⟩ s' ⟨s9,rfl,hx⟩;simp only at s9;subst s9;have hx:r=jr .LtE items.size f7.size:=hx;rw[hx] at h
   wp_walk
   exact⟨_,rfl,by simpa[Builtin.Tuple.tupleCompareSizes,jr] using h⟩
  case h=>exact⟨rfl,rfl,hx⟩
theorem IJ(l b:gm)(items f7:kg)(n n2:Nat)(dd y6:Option Addr)(sl u5:qR)(r:Bool):
  Meets (Builtin.«tuple.__gt__» ⟨[.ref l,.ref b],[]⟩) (fun A R s=>s.heap.get? l=some {cls:= .type "tuple",dict:=dd,data:= .seq items n,slots:=sl}/\s.heap.get? b=some {cls:= .type "tuple",dict:=y6,data:= .seq f7 n2,slots:=u5}/\
   yJ .Gt A.in1 s (jr .Gt items.size f7.size) (items.toList.zip f7.toList) r/\R (.ok (.ret (.bool r))) s):=
 .of_wp fun prog w A R s h=>by
  obtain⟨hp,g,d,tk,os⟩:=s;obtain⟨hl,hb,hx,h⟩:=h;have f2:=Ac
  wp_walk using wpAny_loadPart' hl,wpAny_loadPart' hb,sD _ (fun hG b s'=>b.1=none/\s'=⟨hp,g,d,tk,os⟩/\yJ .Gt A.in1 ⟨hp,g,d,tk,os⟩ (jr .Gt items.size f7.size) hG r) _
  case turn=>
   rintro⟨y,x⟩ hG b s' ⟨s9,rfl,e,he,hx⟩;refine gw (he prog w _ _ ?_)
   cases e with
   |true=>
    simp only[iA] at hx
    wp_walk
    exact⟨rfl,rfl,hx⟩
   |false=>
    simp only[iJ,iX] at hx;have cq:=hx prog w
    wp_walk using cq
    exact⟨_,rfl,by simpa using h⟩
  case fin=>
   rintro⟨b1,b2⟩ s' ⟨s9,rfl,hx⟩;simp only at s9;subst s9;have hx:r=jr .Gt items.size f7.size:=hx;rw[hx] at h
   wp_walk
   exact⟨_,rfl,by simpa[Builtin.Tuple.tupleCompareSizes,jr] using h⟩
  case h=>exact⟨rfl,rfl,hx⟩
theorem IK(l b:gm)(items f7:kg)(n n2:Nat)(dd y6:Option Addr)(sl u5:qR)(r:Bool):
  Meets (Builtin.«tuple.__ge__» ⟨[.ref l,.ref b],[]⟩) (fun A R s=>s.heap.get? l=some {cls:= .type "tuple",dict:=dd,data:= .seq items n,slots:=sl}/\s.heap.get? b=some {cls:= .type "tuple",dict:=y6,data:= .seq f7 n2,slots:=u5}/\
   yJ .GtE A.in1 s (jr .GtE items.size f7.size) (items.toList.zip f7.toList) r/\R (.ok (.ret (.bool r))) s):=
 .of_wp fun prog w A R s h=>by
  obtain⟨hp,g,d,tk,os⟩:=s;obtain⟨hl,hb,hx,h⟩:=h;have f2:=Ac
  wp_walk using wpAny_loadPart' hl,wpAny_loadPart' hb,sD _ (fun hG b s'=>b.1=none/\s'=⟨hp,g,d,tk,os⟩/\yJ .GtE A.in1 ⟨hp,g,d,tk,os⟩ (jr .GtE items.size f7.size) hG r) _
  case turn=>
   rintro⟨y,x⟩ hG b s' ⟨s9,rfl,e,he,hx⟩;refine gw (he prog w _ _ ?_)
   cases e with
   |true=>
    simp only[iA] at hx
    wp_walk
    exact⟨rfl,rfl,hx⟩
   |false=>
    simp only[iJ,iX] at hx;have cq:=hx prog w
    wp_walk using cq
    exact⟨_,rfl,by simpa using h⟩
  case fin=>
   rintro⟨b1,b2⟩ s' ⟨s9,rfl,hx⟩;simp only at s9;subst s9;have hx:r=jr .GtE items.size f7.size:=hx;rw[hx] at h
   wp_walk
   exact⟨_,rfl,by simpa[Builtin.Tuple.tupleCompareSizes,jr] using h⟩
  case h=>exact⟨rfl,rfl,hx⟩
section
variable {A:gG}{s:gu}{l b:gm}{items f7:kg}{r:Bool}
theorem I9(ho:tQ op)(hl:s.heap.IsTuple l items)(hb:s.heap.IsTuple b f7)(hu:A.units<cLine)(hx:yJ op A.in1 s (jr op items.size f7.size) (items.toList.zip f7.toList) r):MT op A s (.ref l) (.ref b) r:=fun prog w E Q h=>by
 obtain⟨⟨cls,dd,data,sl⟩,y4,hc,n,hd⟩:=id hl;obtain⟨⟨cQ,y6,data2,u5⟩,v5,bh,n2,hd2⟩:=id hb;simp only at hc hd bh hd2;subst hc hd bh hd2;rcases ho with rfl|rfl|rfl|rfl
 ·exact Ab (op:= .Lt) ⟨_,y4,rfl⟩ ⟨_,v5,rfl⟩ PySem.F.slot_tuple_lt PySem.F.entry_tuple_lt (PySem.F.args_tuple_lt_2 _ _) (IH l b items f7 n n2 dd y6 sl u5 r) ⟨y4,v5,hx,show Value.bool r≠Value.notImplemented/\Q (.bool r) s from⟨(fun x=>nomatch x),h⟩⟩ hu
 ·exact Ab (op:= .LtE) ⟨_,y4,rfl⟩ ⟨_,v5,rfl⟩ PySem.F.slot_tuple_le PySem.F.entry_tuple_le (PySem.F.args_tuple_le_2 _ _) (II l b items f7 n n2 dd y6 sl u5 r) ⟨y4,v5,hx,show Value.bool r≠Value.notImplemented/\Q (.bool r) s from⟨(fun x=>nomatch x),h⟩⟩ hu
 ·exact Ab (op:= .Gt) ⟨_,y4,rfl⟩ ⟨_,v5,rfl⟩ PySem.F.slot_tuple_gt PySem.F.entry_tuple_gt (PySem.F.args_tuple_gt_2 _ _) (IJ l b items f7 n n2 dd y6 sl u5 r) ⟨y4,v5,hx,show Value.bool r≠Value.notImplemented/\Q (.bool r) s from⟨(fun x=>nomatch x),h⟩⟩ hu
 ·exact Ab (op:= .GtE) ⟨_,y4,rfl⟩ ⟨_,v5,rfl⟩ PySem.F.slot_tuple_ge PySem.F.entry_tuple_ge (PySem.F.args_tuple_ge_2 _ _) (IK l b items f7 n n2 dd y6 sl u5 r) ⟨y4,v5,hx,show Value.bool r≠Value.notImplemented/\Q (.bool r) s from⟨(fun x=>nomatch x),h⟩⟩ hu
end
mutual
noncomputable def lF(op:CmpOp):D->D->Option Bool
 | .int i,.int j=>some (jr op i j)
 | .tup l,.tup m=>pe op l m
 |_,_=>none
noncomputable def pe(op:CmpOp):List D->List D->Option Bool
 |[],m=>some (jr op 0 m.length)
 |x::l,[]=>some (jr op ((x::l).length) 0)
 |x::l,y::m=>if D.eqb x y=true then pe op l m else lF op x y
end
theorem oS(op:CmpOp)(a b k:Int):jr op (a+k) (b+k)=jr op a b:=by
 cases op<;>simp[jr]
section
variable {X:Cx}{pins:gZ}{σ:L2.St}{H:Hp}{s:gu}
theorem BQ(ho:tQ op):MT op A s (.int i t) (.int j u) (jr op i j):=fun prog w E Q h=>by
 rcases ho with rfl|rfl|rfl|rfl
 ·exact(PyProof.Rows.lt_int h:wpAny (model prog w) A (compareOp .Lt _ _) Q E s)
 ·exact(PyProof.Rows.le_int h:wpAny (model prog w) A (compareOp .LtE _ _) Q E s)
 ·exact(PyProof.Rows.gt_int h:wpAny (model prog w) A (compareOp .Gt _ _) Q E s)
 ·exact(PyProof.Rows.ge_int h:wpAny (model prog w) A (compareOp .GtE _ _) Q E s)
theorem Ja(ho:tQ op)(I:Inv X pins σ H s): ∀(n:Nat) (d e:D) (v u:V) (a b:gy) (O O':AP') (A:gG) (r:Bool),iW X.K H O d v->iW X.K H O' e u->RelV v a->RelV u b->d.dep<=n->e.dep<20000->A.units+n<cLine->lF op d e=some r->MT op A s a b r:=by
 intro n
 induction n with
 |zero=>
  intro d e v u a b O O' A r hd he ra rb hn v7 hA hc
  cases d with
  |int i=>
   cases e with
   |int j=>
    have:=gS hd;subst this;have:=gS he;subst this;obtain⟨t,rfl⟩:=ra;obtain⟨t',rfl⟩:=rb;rw[lF] at hc;rw[<-iC hc];exact BQ ho
   |_=>rw[lF] at hc<;>first|cases hc|(intros;simp_all)
  |tup l=>rw[D.dep] at hn;omega
  |_=>rw[lF] at hc<;>first|cases hc|(intros;simp_all)
 |succ n ih=>
  intro d e v u a b O O' A r hd he ra rb hn v7 hA hc
  cases d with
  |int i=>
   cases e with
   |int j=>
    have:=gS hd;subst this;have:=gS he;subst this;obtain⟨t,rfl⟩:=ra;obtain⟨t',rfl⟩:=rb;rw[lF] at hc;rw[<-iC hc];exact BQ ho
   |_=>rw[lF] at hc<;>first|cases hc|(intros;simp_all)
  |tup l=>
   cases e with
   |tup m=>
    rw[lF] at hc;rw[D.dep] at hn v7;obtain⟨p,xs,rfl,q,r1⟩:=kG hd;obtain⟨p2,ys,rfl,q2,r2⟩:=kG he;cases ra;cases rb;obtain⟨b6,v1,pl,_⟩:=I.tuple q;obtain⟨g0,v2,i5,_⟩:=I.tuple q2;have r8:A.in1.units=A.units+1:=rfl
    have key: ∀(l m:List D) (xs ys:List V) (b6 g0:ir) (k:Int),D.depL l+1<=n+1->D.depL m<20000->RepL X.K H O l xs->RepL X.K H O' m ys->Vals xs b6->Vals ys g0->pe op l m=some r->yJ op A.in1 s (jr op (b6.length+k) (g0.length+k)) (b6.zip g0) r:=by
     intro l
     induction l with
     |nil=>
      intro m xs ys b6 g0 k aH aP r1 r2 v1 v2 hc;rw[RepL] at r1;subst r1;cases v1;rw[pe] at hc;have e1:=r2.length;have e2:=v2.length;show r=_;rw[oS,<-iC hc]
      congr 1
      omega
     |cons x l ihl=>
      intro m xs ys b6 g0 k aH aP r1 r2 v1 v2 hc;rw[RepL] at r1;obtain⟨vx,xr,rfl,g1,g2⟩:=r1
      cases v1 with
      |cons a1 a2=>
       cases m with
       |nil=>
        rw[RepL] at r2;subst r2;cases v2;rw[pe] at hc;have e1:=g2.length;have e2:=a2.length;rw[List.zip_nil_right];show r=_;rw[oS,<-iC hc]
        congr 1
        simp only[jq];omega
       |cons y m=>
        rw[RepL] at r2;obtain⟨vy,yr,rfl,g3,g4⟩:=r2
        cases v2 with
        |cons b1 b2=>
         rw[pe] at hc;rw[D.depL] at aH aP;rw[uz];refine⟨D.eqb x y,yp I n x y vx vy _ _ O O' A.in1 (.inl g1) (.inl g3) a1 b1 (by omega) (by omega) (by rw[r8];omega),?_⟩
         cases hq:D.eqb x y with
         |true=>
          rw[hq,gz rfl] at hc;rw[gz rfl];have:=ihl m xr yr _ _ (k+1) (by omega) (by omega) g2 g4 a2 b2 hc;simp only[jq];have e: ∀a:Nat,(((a+1:Nat):Int)+k)=(a:Int)+(k+1):=fun a=>by omega
          rw[e,e];exact this
         |false=>
          rw[hq,gC jl] at hc;rw[gC jl];exact ih x y vx vy _ _ O O' A.in1 r (.inl g1) (.inl g3) a1 b1 (by omega) (by omega) (by rw[r8];omega) hc
    have:=key l m xs ys b6 g0 0 (by omega) (by omega) r1 r2 v1 v2 hc;refine I9 ho pl i5 (by omega) ?_;simpa using this
   |_=>rw[lF] at hc<;>first|cases hc|(intros;simp_all)
  |_=>rw[lF] at hc<;>first|cases hc|(intros;simp_all)
noncomputable def vb(op:CmpOp)(d e:D):Option (D×Bool):=if d.dep<=50/\e.dep<=50 then(lF op d e).map fun b=>(.bl b,false) else none
theorem AI(ho:tQ op)(hu:X.A.units+60<cLine):OpR X (compareOp op) (rD X.K (vb op)):=by
 intro pins s σ H x y v u Q I rx ry h;obtain⟨O,d,e,z,np,h1,h2,hg,G⟩:=h;unfold vb at hg;split at hg
 ·rename_i hd;obtain⟨r,hr,rfl⟩:=hZ hg;have:=Ja ho I 50 d e x y v u O O X.A r h1 h2 rx ry hd.1 (by omega) (by omega) hr X.prog X.w X.xe (EP X pins σ Q) ⟨.bl r,H,I,rfl,G.bl⟩;rcases ho with rfl|rfl|rfl|rfl<;>exact this
 ·cases hg
end
open TS
section
variable {prog:gM}{w:gE}{A:gG}{E:hV}{s:gu}
noncomputable def pz(h:gL)(a:gm)(vs:ir):Heap:=((h.update a (Obj.mapSeq fun _=> #[])).push (seqObj "tuple" vs.toArray 0)).push (seqObj "list" #[] 0)
def Hf(vs:ir)(i:Nat):Keyed:=(vs.getD i Value.none,vs.getD i Value.none)
theorem rA{a:gm}{vs:ir}{n:Nat}{P:PySem.Fin->Shared->Prop}{κ:SortKind}{lt:lg}(ho:s.heap.get? a=some (seqObj "list" vs.toArray n))(hz:vs.length<=sizeLine)(W:Wk lt)
  (hk:2<=vs.length->wpAny (model prog w) A (keyKind' vs.toArray) (fun κ' s'=>s'={s with heap:=pz s.heap a vs}/\κ'=κ) (fun _ _=>False) {s with heap:=pz s.heap a vs})
  (ask:2<=vs.length->Ask prog w A E (fun s'=>s'={s with heap:=pz s.heap a vs}) (Hf vs) κ vs.length lt)
  (h: ∀p:List Nat,p.Perm (List.range vs.length)->p.Pairwise (SL lt)->P (.done (.ret .none)) {s with heap:=(pz s.heap a vs).update a (Obj.mapSeq fun _=>(p.map fun i=>vs.getD i Value.none).toArray)}):
  wpAny (model prog w) A (Builtin.«list.sort» ⟨[.ref a],[]⟩) P E s:=by
 rw[list_sort_plain];have ha:a<s.heap.objs.size:=iq ho;refine gw (listItems_at ho rfl (gw (De ho rfl ?_ (by rw[jc];exact hz) (lI _))));obtain⟨e1,y4⟩: ∃e1,(s.heap.update a (Obj.mapSeq fun _=>(#[]:Array Value))).get? a=some (seqObj "list" #[] e1):=⟨_,Dd ho fun _=> #[]⟩
 refine gw (Dc y4 rfl (gw (wpAny_newTuple ?_ (by show vs.length<=_;exact hz))));refine gw (wpAny_newList ?_ (lI _));refine lY ?_;have eH:(pz s.heap a vs).get? a=some (seqObj "list" #[] e1):=iB _ (iB _ y4);show wpAny (model prog w) A _ P E {s with heap:=pz s.heap a vs};dsimp only;by_cases h2:vs.toArray.size<2
 ·rw[gz h2,gz h2];refine gw (gA ?_);rw[StateT.run_pure];refine gw (gA ?_);dsimp only;refine gw (Dc eH rfl (gw (De eH rfl ?_ (lI _) ?_)))
  ·simp only[sL,iJ,iX];refine gA ?_;have cO:vs.length<2:=by simpa using h2
   have:=h (List.range vs.length) (vn _) (by
    rw[Fc];intro i j hi hj o4;simp at hi hj;omega)
   have e:((vs.toArray.zip vs.toArray).map (·.2))=((List.range vs.length).map fun i=>vs.getD i Value.none).toArray:=by
    apply Array.ext
    ·simp
    ·intro i h1 h3;have hi:i<vs.length:=by simpa using h1
     simp[hi]
   rw[e];exact this
  ·rw[Array.size_map,Array.size_zip];simp;omega
 ·rw[gC h2,gC h2];have cO:2<=vs.length:=by simpa using h2
  refine gw (nA (hk cO) (fun κ' s' hκ=>?_) fun _ _ x=>x.elim);obtain⟨rfl,rfl⟩:=hκ
  have R:Rp (Hf vs) κ' vs.length (SortSt.mk' κ' (vs.toArray.zip vs.toArray) #[] 7 none) (Array.range vs.length):=by
   refine⟨?_,rfl,rfl,by simp,Array.Perm.refl _⟩;show vs.toArray.zip vs.toArray=_;apply Array.ext
   ·simp
   ·intro i h1 h3;have hi:i<vs.length:=by simpa using h1
    simp[Hf,hi]
  refine gw (nA (Iy (lt:=lt) W (ask cO) (by omega) R rfl (fun k hk=>by simp[TS.P,hk]) (Q:=fun _ b7=> ∃p',Rp (Hf vs) κ' vs.length b7 p'/\p'.toList.Pairwise (SL lt)) (fun b7 p' R' hp=>⟨p',R',hp⟩) _ rfl) ?_ fun _ _ e=>e);rintro⟨⟨⟩,b7⟩ s' ⟨rfl,p',R',hp⟩;dsimp only;have cV:failedOf b7=none:=R'.ok
  have out:(arrOf b7).map (·.2)=(p'.toList.map fun i=>vs.getD i Value.none).toArray:=by
   rw[R'.arr,Array.map_map];apply Array.toList_inj.mp;simp[Hf]
  have pl:p'.toList.length=vs.length:=by simp[R'.size]
  refine gw (Dc eH rfl (gw (De eH rfl ?_ (lI _) ?_)))
  ·rw[cV];simp only[sL,iJ,iX];rw[out];refine gA (h p'.toList ?_ hp);have:=MW.mp R'.perm;simpa using this
  ·rw[out,jc,jk,pl];omega
end
mutual
def cT:D->D->Ordering
 | .int i,.int j=>if i<j then .lt else if i=j then .eq else .gt
 | .int _,_=> .lt
 | .tup _,.int _=> .gt
 | .tup l,.tup m=>cL l m
 | .tup _,_=> .lt
 |_,.int _=> .gt
 |_,.tup _=> .gt
 |_,_=> .eq
def cL:List D->List D->Ordering
 |[],[]=> .eq
 |[],_::_=> .lt
 |_::_,[]=> .gt
 |x::l,y::m=>match cT x y with
  | .lt=> .lt
  | .gt=> .gt
  | .eq=>cL l m
end
mutual
theorem A5: ∀x:D,cT x x= .eq
 | .int i=>by simp[cT]
 | .tup l=>by rw[cT];exact Gn l
 | .non=>by simp[cT]
 | .bl _=>by simp[cT]
 | .str _=>by simp[cT]
 | .lst _=>by simp[cT]
 | .oth _ _ _=>by simp[cT]
theorem Gn: ∀l:List D,cL l l= .eq
 |[]=>by simp[cL]
 |x::l=>by rw[cL,A5 x];exact Gn l
end
mutual
theorem kP: ∀x y:D,cT y x=(cT x y).swap
 | .int i,.int j=>by
  rw[cT,cT];by_cases h1:i<j
  ·rw[gz h1,gC (by omega),gC (by omega)];rfl
  ·rw[gC h1];by_cases h2:i=j
   ·rw[gz h2,gC (by omega),gz h2.symm];rfl
   ·rw[gC h2,gz (by omega)];rfl
 | .tup l,.tup m=>by rw[cT,cT];exact Gm l m
 | .int _,.tup _=>by simp[cT]
 | .int _,.non=>by simp[cT]
 | .int _,.bl _=>by simp[cT]
 | .int _,.str _=>by simp[cT]
 | .int _,.lst _=>by simp[cT]
 | .int _,.oth _ _ _=>by simp[cT]
 | .tup _,.int _=>by simp[cT]
 | .tup _,.non=>by simp[cT]
 | .tup _,.bl _=>by simp[cT]
 | .tup _,.str _=>by simp[cT]
 | .tup _,.lst _=>by simp[cT]
 | .tup _,.oth _ _ _=>by simp[cT]
 | .non,y=>by cases y<;>simp[cT]
 | .bl _,y=>by cases y<;>simp[cT]
 | .str _,y=>by cases y<;>simp[cT]
 | .lst _,y=>by cases y<;>simp[cT]
 | .oth _ _ _,y=>by cases y<;>simp[cT]
theorem Gm: ∀l m:List D,cL m l=(cL l m).swap
 |[],[]=>by simp[cL]
 |[],_::_=>by simp[cL]
 |_::_,[]=>by simp[cL]
 |x::l,y::m=>by
  rw[cL,cL,kP x y];cases h:cT x y<;>simp[Ordering.swap]
  exact Gm l m
end
theorem Ni(h1:cT x y≠ .gt)(h2:cT y x≠ .gt):cT x y= .eq:=by
 rw[kP x y] at h2
 cases h:cT x y with
 |lt=>rw[h] at h2;exact absurd rfl h2
 |eq=>rfl
 |gt=>exact absurd h h1
mutual
theorem qi: ∀x y z:D,cT x y≠ .gt->cT y z≠ .gt->cT x z≠ .gt
 | .int i,y,z,h1,h2=>by
  cases z with
  |int k=>
   cases y with
   |int j=>
    rw[cT] at h1 h2 ⊢
    have a:i<=j:=by
     by_cases a:i<j
     ·omega
     ·rw[gC a] at h1;by_cases b:i=j
      ·omega
      ·rw[gC b] at h1;exact absurd rfl h1
    have b:j<=k:=by
     by_cases a:j<k
     ·omega
     ·rw[gC a] at h2;by_cases b:j=k
      ·omega
      ·rw[gC b] at h2;exact absurd rfl h2
    by_cases c:i<k
    ·rw[gz c];simp
    ·rw[gC c,gz (by omega)];simp
   |_=>simp[cT] at h2
  |_=>simp[cT]
 | .tup l,y,z,h1,h2=>by
  cases y with
  |int j=>simp[cT] at h1
  |tup m=>
   cases z with
   |int k=>simp[cT] at h2
   |tup n=>rw[cT] at h1 h2 ⊢;exact CC l m n h1 h2
   |_=>simp[cT]
  |_=>cases z<;>simp_all [cT]
 | .non,y,z,h1,h2=>by cases y<;>cases z<;>simp_all [cT]
 | .bl _,y,z,h1,h2=>by cases y<;>cases z<;>simp_all [cT]
 | .str _,y,z,h1,h2=>by cases y<;>cases z<;>simp_all [cT]
 | .lst _,y,z,h1,h2=>by cases y<;>cases z<;>simp_all [cT]
 | .oth _ _ _,y,z,h1,h2=>by cases y<;>cases z<;>simp_all [cT]
 termination_by x y z=>sizeOf x+sizeOf y+sizeOf z
theorem CC: ∀l m n:List D,cL l m≠ .gt->cL m n≠ .gt->cL l n≠ .gt
 |[],m,n,_,_=>by cases n<;>simp[cL]
 |x::l,[],n,h1,_=>by simp[cL] at h1
 |x::l,y::m,[],_,h2=>by simp[cL] at h2
 |x::l,y::m,z::n,h1,h2=>by
  have a1:cT x y≠ .gt:=fun h=>by rw[cL,h] at h1;exact h1 rfl
  have a2:cT y z≠ .gt:=fun h=>by rw[cL,h] at h2;exact h2 rfl
  have a3:=qi x y z a1 a2;rw[cL]
  cases hxz:cT x z with
  |lt=>simp
  |gt=>exact absurd hxz a3
  |eq=>
   have zx:cT z x≠ .gt:=by rw[kP x z,hxz];simp[Ordering.swap]
   have exy:cT x y= .eq:=Ni a1 (qi y z x a2 zx);have eyz:cT y z= .eq:=Ni a2 (qi z x y zx a1);rw[cL,exy] at h1;rw[cL,eyz] at h2;exact CC l m n h1 h2
 termination_by l m n=>sizeOf l+sizeOf m+sizeOf n
end
def ltT(x y:D):Bool:=cT x y== .lt
theorem Es:ltT x y=true↔cT x y= .lt:=by simp[ltT]
theorem kX:ltT x y=false↔cT x y≠ .lt:=by simp[ltT]
theorem NB(f:Nat->D):Wk fun i j=>ltT (f i) (f j):=by
 have key: ∀x y z:D,ltT x z=true->ltT x y=true\/ltT y z=true:=fun x y z h=>by
  cases h1:ltT x y with
  |true=>exact .inl rfl
  |false=>
   cases h2:ltT y z with
   |true=>exact .inr rfl
   |false=>
    exfalso
    have yx:cT y x≠ .gt:=by
     rw[kP x y];intro e;rw[kX] at h1
     cases hc:cT x y with
     |lt=>exact h1 hc
     |eq=>rw[hc] at e;cases e
     |gt=>rw[hc] at e;cases e
    have zy:cT z y≠ .gt:=by
     rw[kP y z];intro e;rw[kX] at h2
     cases hc:cT y z with
     |lt=>exact h2 hc
     |eq=>rw[hc] at e;cases e
     |gt=>rw[hc] at e;cases e
    have:=qi z y x zy yx;rw[kP x z,Es.mp h] at this;exact this rfl
 refine⟨fun i=>by rw[kX,A5];simp,fun i j k h1 h2=>?_,fun i j k h=>key _ _ _ h⟩;rcases key (f i) (f k) (f j) h1 with h|h
 ·exact h
 ·
  rw[Es] at h h2;rw[kP,h] at h2;cases h2
mutual
/-- ints,and tuples of such -/
def D.pr:D->Bool
 | .int _=>true
 | .tup l=>D.prL l
 |_=>false
def D.prL:List D->Bool
 |[]=>true
 |x::l=>D.pr x&&D.prL l
end
mutual
theorem EK: ∀x y:D,D.pr x=true->D.pr y=true->D.eqb x y=(cT x y== .eq)
 | .int i,.int j,_,_=>by
  rw[D.eqb,cT];by_cases h:i=j
  ·subst h;simp
  ·rw[gC h];by_cases h2:i<j<;>simp[h,h2]
 | .int _,.tup _,_,_=>by simp[D.eqb,cT]
 | .tup _,.int _,_,_=>by simp[D.eqb,cT]
 | .tup l,.tup m,h1,h2=>by rw[D.eqb,cT];rw[D.pr] at h1 h2;exact Ge l m h1 h2
 | .non,_,h,_=>by simp[D.pr] at h
 | .bl _,_,h,_=>by simp[D.pr] at h
 | .str _,_,h,_=>by simp[D.pr] at h
 | .lst _,_,h,_=>by simp[D.pr] at h
 | .oth _ _ _,_,h,_=>by simp[D.pr] at h
 |_,.non,_,h=>by simp[D.pr] at h
 |_,.bl _,_,h=>by simp[D.pr] at h
 |_,.str _,_,h=>by simp[D.pr] at h
 |_,.lst _,_,h=>by simp[D.pr] at h
 |_,.oth _ _ _,_,h=>by simp[D.pr] at h
theorem Ge: ∀l m:List D,D.prL l=true->D.prL m=true->D.eqbL l m=(cL l m== .eq)
 |[],[],_,_=>by simp[D.eqbL,cL]
 |[],_::_,_,_=>by simp[D.eqbL,cL]
 |_::_,[],_,_=>by simp[D.eqbL,cL]
 |x::l,y::m,h1,h2=>by
  rw[D.prL,jY] at h1 h2;rw[D.eqbL,cL,EK x y h1.1 h2.1,Ge l m h1.2 h2.2];cases cT x y<;>simp
end
mutual
theorem A3: ∀x y:D,D.pr x=true->D.pr y=true-> ∀b,lF .Lt x y=some b->b=ltT x y
 | .int i,.int j,_,_,b,h=>by
  rw[lF] at h;rw[<-iC h,ltT,cT,jr];by_cases h1:i<j
  ·simp[h1]
  ·rw[gC h1];by_cases h2:i=j<;>simp[h1,h2]
 | .int _,.tup _,_,_,b,h=>by simp[lF] at h
 | .tup _,.int _,_,_,b,h=>by simp[lF] at h
 | .tup l,.tup m,h1,h2,b,h=>by
  rw[lF] at h;rw[D.pr] at h1 h2;rw[ltT,cT];exact Gi l m h1 h2 b h
 | .non,_,h,_,_,_=>by simp[D.pr] at h
 | .bl _,_,h,_,_,_=>by simp[D.pr] at h
 | .str _,_,h,_,_,_=>by simp[D.pr] at h
 | .lst _,_,h,_,_,_=>by simp[D.pr] at h
 |_,.non,_,h,_,_=>by simp[D.pr] at h
 |_,.bl _,_,h,_,_=>by simp[D.pr] at h
 |_,.str _,_,h,_,_=>by simp[D.pr] at h
 |_,.lst _,_,h,_,_=>by simp[D.pr] at h
theorem Gi: ∀l m:List D,D.prL l=true->D.prL m=true-> ∀b,pe .Lt l m=some b->b=(cL l m== .lt)
 |[],[],_,_,b,h=>by rw[pe] at h;rw[<-iC h];simp[jr,cL]
 |[],_::_,_,_,b,h=>by rw[pe] at h;rw[<-iC h];simp[jr,cL]<;>omega
 |_::_,[],_,_,b,h=>by rw[pe] at h;rw[<-iC h];simp[jr,cL]<;>omega
 |x::l,y::m,h1,h2,b,h=>by
  rw[D.prL,jY] at h1 h2;rw[pe,EK x y h1.1 h2.1] at h;rw[cL]
  cases hc:cT x y with
  |eq=>rw[hc] at h;simp at h;exact Gi l m h1.2 h2.2 b h
  |lt=>rw[hc] at h;simp at h;have:=A3 x y h1.1 h2.1 b h;rw[this,ltT,hc]
  |gt=>rw[hc] at h;simp at h;have:=A3 x y h1.1 h2.1 b h;rw[this,ltT,hc]
end
section
variable {α:Type}(lt:α->α->Bool)
def vM(x:α):List α->List α
 |[]=>[x]
 |y::l=>if lt y x=true then y::vM x l else x::y::l
def lu:List α->List α
 |[]=>[]
 |x::l=>vM lt x (lu l)
theorem qG(x:α): ∀l:List α,(vM lt x l).Perm (x::l)
 |[]=>vn _
 |y::l=>by
  rw[vM];split
  ·exact((qG x l).cons y).trans (List.Perm.swap x y l)
  ·exact vn _
theorem jd: ∀l:List α,(lu lt l).Perm l
 |[]=>vn _
 |x::l=>(qG lt x _).trans ((jd l).cons x)
theorem Cn{β:Type}(bO:β->β->Bool)(f:α->β)(x:α): ∀l:List α,(∀y∈l,bO (f y) (f x)=lt y x)->vM bO (f x) (l.map f)=(vM lt x l).map f
 |[],_=>rfl
 |y::l,h=>by
  rw[iY,vM,vM,h y iN];split
  ·rw[iY,Cn bO f x l fun z hz=>h z (iK _ hz)]
  ·rfl
theorem ze{β:Type}(bO:β->β->Bool)(f:α->β): ∀l:List α,(∀x∈l,∀y∈l,bO (f y) (f x)=lt y x)->lu bO (l.map f)=(lu lt l).map f
 |[],_=>rfl
 |x::l,h=>by
  rw[iY,lu,lu,ze bO f l fun a ha b hb=>h a (iK _ ha) b (iK _ hb)];exact Cn lt bO f x _ fun y hy=>h x iN y (iK _ ((jd lt l).mem_iff.mp hy))
end
theorem F5{lt:lg}(W:Wk lt){x:Nat}: ∀{l:hJ},l.Pairwise (SL lt)->(∀y∈l,x<y)->(vM lt x l).Pairwise (SL lt)
 |[],_,_=>Af _ _
 |y::l,h,hx=>by
  rw[pE] at h;rw[vM]
  cases hl:lt y x with
  |true=>
   rw[gz rfl,pE];refine⟨fun z hz=>?_,F5 W h.2 fun z hz=>hx z (iK _ hz)⟩;rcases lq.mp ((qG lt x l).mem_iff.mp hz) with rfl|hz
   ·exact .inl hl
   ·exact h.1 z hz
  |false=>
   rw[gC jl,pE];have first:SL lt x y:= .inr ⟨hl,hx y iN⟩;refine⟨fun z hz=>?_,pE.mpr h⟩;rcases lq.mp hz with rfl|hz
   ·exact first
   ·exact SL.trans W first (h.1 z hz)
theorem BD{lt:lg}(W:Wk lt): ∀{l:hJ},l.Pairwise (· < ·)->(lu lt l).Pairwise (SL lt)
 |[],_=>List.Pairwise.nil
 |x::l,h=>by
  rw[pE] at h;exact F5 W (BD W h.2) fun y hy=>h.1 y ((jd lt l).mem_iff.mp hy)
theorem BC(W:Wk lt)(hp:p.Perm (List.range n))(hs:p.Pairwise (SL lt)):p=lu lt (List.range n):=by
 refine C9 (fun x y _ _ h1 h2=>(SL.asym W h1 h2).elim) hs (BD W KY) (hp.trans (jd lt _).symm)
theorem GD{ds:List D}{p:hJ}(hp:p.Perm (List.range ds.length))(hs:p.Pairwise (SL fun i j=>ltT (ds.getD i .non) (ds.getD j .non))):p.map (fun i=>ds.getD i .non)=lu ltT ds:=by
 rw[BC (NB fun i=>ds.getD i .non) hp hs,<-ze _ ltT (fun i=>ds.getD i .non) _ fun x _ y _=>rfl]
 congr 1
 apply rO;intro i;by_cases hi:i<ds.length
 ·simp[hi]
 ·simp[hi]
def jP:D->Option Nat
 | .int _=>some 0
 | .tup (.int _::_)=>some 1
 | .tup (.tup _::_)=>some 2
 |_=>none
def F4:Nat->SortKind
 |0=>oneType'
 |1=>tuples' true
 |_=>tuples' false
structure SortsBy(k:Nat)(l:List D):Prop where
 hd: ∀x∈l,jP x=some k
 pr: ∀x∈l,D.pr x=true
 dp: ∀x∈l,x.dep<=50
 cm: ∀x∈l,∀y∈l,(lF .Lt x y).isSome=true
def lN(l:List D):Bool:=l.length<=1||match l with
 |[]=>true
 |x::_=>(jP x).isSome&&(l.all fun y=>jP y==jP x&&D.pr y&&decide (y.dep<=50))&&l.all fun y=>l.all fun z=>(lF .Lt y z).isSome
theorem zf(h:lN l=true):l.length<=1\/ ∃k,SortsBy k l:=by
 unfold lN at h;rw[wj] at h;rcases h with h|h
 ·left;simpa using h
 ·right
  cases l with
  |nil=>exact⟨0,fun x hx=>absurd hx mP,fun x hx=>absurd hx mP,fun x hx=>absurd hx mP,fun x hx=>absurd hx mP⟩
  |cons x m=>
   simp only[jY,kZ,pK] at h;obtain⟨⟨h1,h2⟩,h3⟩:=h;obtain⟨k,hk⟩:=K5.mp h1;refine⟨k,fun y hy=>?_,fun y hy=>(h2 y hy).1.2,fun y hy=>(h2 y hy).2,fun y hy z hz=>h3 y hy z hz⟩;have:=(h2 y hy).1.1;rw[hk] at this;simpa using this
section
variable {X:Cx}{pins:gZ}{σ:L2.St}{H:Hp}{s:gu}
theorem qp(v:Vals xs b6)(hi:i<b6.length):RelV (xs.getD i .non) (b6.getD i Value.none):=by
 have e:=v.length;have hx:xs[i]?=some xs[i]:=iM (by omega);obtain⟨w,w1,w2⟩:=v.get hx;have h1:xs.getD i .non=xs[i]:=by simp[show i<xs.length by omega]
 have h2:b6.getD i Value.none=w:=by
  rw[iM hi] at w1;have:=iC w1;simp[hi,this]
 rw[h1,h2];exact w2
theorem qB(r:RepL X.K H O ds xs)(hi:i<ds.length):Rep X.K H O (ds.getD i .non) (xs.getD i .non):=by
 have e:=r.length;have hd:ds[i]?=some ds[i]:=iM hi;obtain⟨v,v1,v2⟩:=r.get hd;have h1:ds.getD i .non=ds[i]:=by simp[hi]
 have h2:xs.getD i .non=v:=by
  rw[iM (by omega)] at v1;have:=iC v1;simp[show i<xs.length by omega,this]
 rw[h1,h2];exact v2
theorem xN{ds:List D}{i:Nat}(hi:i<ds.length):ds.getD i .non∈ds:=by simp[hi]
theorem Ck(I:Inv X pins σ H s){A:gG}{b:Bool}{O O':AP'}(hA:A.units+60<cLine){r:Bool}{Q:sy}(hQ:Q r s): ∀(l m:List D) (xs ys:List V) (b6 g0:ir) (k:Int) (i:Nat),D.depL l<=50->D.depL m<=50->
  ((b&&i==0)=true-> ∀x y l' m',l=x::l'->m=y::m'->(∃a,x= .int a)/\ ∃c,y= .int c)->RepL X.K H O l xs->RepL X.K H O' m ys->Vals xs b6->Vals ys g0->pe .Lt l m=some r->
  ∀fin:Bool,fin=jr .Lt (b6.length+k) (g0.length+k)->PySem.W.KatLex X.prog X.w A b fin Q (b6.zip g0) i s
 |[],m,xs,ys,b6,g0,k,i,_,_,_,r1,r2,v1,v2,hc,fin,hf=>by
  rw[RepL] at r1;subst r1;cases v1;rw[pe] at hc;have e1:=r2.length;have e2:=v2.length;show Q fin s;rw[hf,oS];rw[<-iC hc] at hQ;have:jr .Lt ((([]:List Value).length:Nat):Int) (g0.length:Int)=jr .Lt 0 (m.length:Int):=by congr 1;omega
  rw[this];exact hQ
 |x::l,[],xs,ys,b6,g0,k,i,_,_,_,r1,r2,v1,v2,hc,fin,hf=>by
  rw[RepL] at r2;subst r2;cases v2;rw[pe] at hc;have e1:=r1.length;have e2:=v1.length;rw[List.zip_nil_right];show Q fin s;rw[hf,oS];rw[<-iC hc] at hQ;have:jr .Lt (b6.length:Int) ((([]:List Value).length:Nat):Int)=jr .Lt (((x::l).length:Nat):Int) 0:=by congr 1;omega
  rw[this];exact hQ
 |x::l,y::m,xs,ys,b6,g0,k,i,aH,aP,hb,r1,r2,v1,v2,hc,fin,hf=>by
  rw[RepL] at r1 r2;obtain⟨vx,xr,rfl,g1,g2⟩:=r1;obtain⟨vy,yr,rfl,g3,g4⟩:=r2
  cases v1 with
  |cons a1 a2=>
   cases v2 with
   |cons b1 b2=>
    rw[pe] at hc;rw[D.depL] at aH aP;rw[uz];refine PySem.W.kat_cons (yp I 50 x y vx vy _ _ O O' A (.inl g1) (.inl g3) a1 b1 (by omega) (by omega) (by omega) X.prog X.w _ _ ?_)
    cases hq:D.eqb x y with
    |true=>
     rw[hq,gz rfl] at hc;refine PySem.W.kat_yes (Ck I hA hQ l m xr yr _ _ (k+1) (i+1) (by omega) (by omega) (fun h=>by simp at h) g2 g4 a2 b2 hc fin ?_);rw[hf];simp only[jq];have e: ∀a:Nat,(((a+1:Nat):Int)+k)=(a:Int)+(k+1):=fun a=>by omega
     rw[e,e]
    |false=>
     rw[hq,gC jl] at hc;refine PySem.W.kat_no ?_
     cases hbi:(b&&i==0) with
     |true=>
      obtain⟨⟨a,rfl⟩,c,rfl⟩:=hb hbi x y l m rfl rfl;have:=g1.int;subst this;have:=g3.int;subst this;obtain⟨t,rfl⟩:=a1;obtain⟨t',rfl⟩:=b1;rw[lF] at hc;rw[<-iC hc] at hQ;exact oneLt_int hQ
     |false=>
      exact PySem.W.kat_one _ _ (Ja (.inl rfl) I 50 x y vx vy _ _ O O' A r (.inl g1) (.inl g3) a1 b1 (by omega) (by omega) (by omega) hc X.prog X.w _ _ hQ)
theorem RB(I:Inv X pins σ H s){O:AP'}{ds:List D}{xs:List V}{b6:ir}{A:gG}{E:hV}(hA:A.units+60<cLine)(rr:RepL X.K H O ds xs)(v:Vals xs b6){k:Nat}(B:SortsBy k ds):
  Ask X.prog X.w A E (fun s'=>s'=s) (Hf b6) (F4 k) b6.length (fun i j=>ltT (ds.getD i .non) (ds.getD j .non)):=by
 intro i j hi hj s' cV E';subst cV;have e1:=rr.length;have e2:=v.length;have mi:ds.getD i .non∈ds:=xN (by omega);have mj:ds.getD j .non∈ds:=xN (by omega);have ri:=qB rr (i:=i) (by omega);have rj:=qB rr (i:=j) (by omega);have vi:=qp v hi;have vj:=qp v hj;obtain⟨b,hb⟩:=K5.mp (B.cm _ mi _ mj);have k6:=A3 _ _ (B.pr _ mi) (B.pr _ mj) b hb;have bA:=B.hd _ mi;have bz:=B.hd _ mj;have di:=B.dp _ mi;have dj:=B.dp _ mj;show wpAny _ _ (keyLt' (F4 k) (b6.getD i Value.none) (b6.getD j Value.none)) _ _ _;dsimp only;rw[<-k6];generalize ds.getD i .non=x at*;generalize ds.getD j .non=y at*;generalize xs.getD i .non=vx at*;generalize xs.getD j .non=vy at*;generalize b6.getD i Value.none=a at*;generalize b6.getD j Value.none=c at*
 have tups: ∀(l m:List D) (bb:Bool),x= .tup l->y= .tup m->(bb=true-> ∀x y l' m',l=x::l'->m=y::m'->(∃a,x= .int a)/\ ∃c,y= .int c)->wpAny (model X.prog X.w) A (keyLt' (tuples' bb) a c) (fun b' aq=>aq=s'/\b'=b) E' s':=fun l m bb hl hm hh=>by
  subst hl hm;obtain⟨p,us,rfl,q,r1⟩:=ri.tup;obtain⟨p2,ws,rfl,q2,r2⟩:=rj.tup;cases vi;cases vj;obtain⟨ez,w1,⟨o,ho,hc,n,hd⟩,_⟩:=I.tuple q.sq;obtain⟨is2,w2,⟨o2,v5,bh,n2,hd2⟩,_⟩:=I.tuple q2.sq;rw[lF] at hb;rw[D.dep] at di dj;refine PySem.W.kat_lt ho hd v5 hd2 ?_;have:=Ck I (b:=bb) hA (Q:=fun b' aq=>aq=s'/\b'=b) ⟨rfl,rfl⟩ l m us ws ez is2 0 0 (by omega) (by omega) (fun h=>hh (by simpa using h)) r1 r2 w1 w2 hb (decide (ez.toArray.size<is2.toArray.size)) (by simp[jr]);simpa using this
 match k,bA,bz with
 |0,bA,bz=>
  cases x with
  |int ix=>
   cases y with
   |int iy=>
    have:=ri.int;subst this;have:=rj.int;subst this;obtain⟨t,rfl⟩:=vi;obtain⟨t',rfl⟩:=vj;rw[lF] at hb;rw[<-iC hb];show wpAny _ _ (keyLt' oneType' _ _) _ _ _;rw[keyLt'_oneType];exact oneLt_int ⟨rfl,rfl⟩
   |tup m=>cases m with
    |nil=>simp[jP] at bz
    |cons z m=>cases z<;>simp[jP] at bz
   |_=>simp[jP] at bz
  |tup m=>cases m with
   |nil=>simp[jP] at bA
   |cons z m=>cases z<;>simp[jP] at bA
  |_=>simp[jP] at bA
 |1,bA,bz=>
  cases x with
  |tup l=>
   cases y with
   |tup m=>
    refine tups l m true rfl rfl fun _ x y l' m' hl hm=>?_;subst hl hm;refine⟨?_,?_⟩
    ·cases x with
     |int a=>exact⟨a,rfl⟩
     |_=>simp[jP] at bA
    ·cases y with
     |int a=>exact⟨a,rfl⟩
     |_=>simp[jP] at bz
   |_=>simp[jP] at bz
  |_=>simp[jP] at bA
 |(n+2),bA,bz=>
  cases x with
  |tup l=>
   cases y with
   |tup m=>exact tups l m false rfl rfl fun h=>absurd h jl
   |_=>simp[jP] at bz
  |_=>simp[jP] at bA
end
open PySem.W
section
variable {X:Cx}{pins:gZ}{σ:L2.St}{H:Hp}{s:gu}
theorem yj(I:Inv X pins σ H s){O:AP'}{T:gy}(P:D->Prop)(hP: ∀x v u,P x->Rep X.K H O x v->RelV v u->Looks (model X.prog X.w) s.heap (typeOf u) T): ∀{ds:List D} {xs:List V} {b6:ir},RepL X.K H O ds xs->Vals xs b6->
  (∀d∈ds,∃x l,d= .tup (x::l)/\P x)-> ∃fs,KatTups s.heap b6 fs/\fs.length=b6.length/\ ∀f∈fs,Looks (model X.prog X.w) s.heap (typeOf f) T
 |[],xs,b6,r,v,_=>by
  rw[RepL] at r;subst r;cases v;exact⟨[],KatTups.nil,rfl,fun f hf=>absurd hf mP⟩
 |d::ds,xs,b6,r,v,h=>by
  rw[RepL] at r;obtain⟨vx,xr,rfl,g1,g2⟩:=r
  cases v with
  |cons a1 a2=>
   obtain⟨fs,k1,k2,k3⟩:=yj I P hP g2 a2 fun d hd=>h d (iK _ hd);obtain⟨x,l,rfl,px⟩:=h d iN;obtain⟨p,us,rfl,q,r1⟩:=g1.tup;cases a1;obtain⟨ez,w1,⟨o,ho,hc,n,hd⟩,_⟩:=I.tuple q.sq;rw[RepL] at r1;obtain⟨vy,yr,rfl,g3,g4⟩:=r1
   cases w1 with
   |cons b1 b2=>
    rename_i f fr;refine⟨f::fs,KatTups.cons ho hc hd (by simp) k1,by simp[k2],fun g hg=>?_⟩;rcases lq.mp hg with rfl|hg
    ·exact hP x vy _ px g3 b1
    ·exact k3 g hg
theorem Pb(I:Inv X pins σ H s){O:AP'}{ds:List D}{xs:List V}{b6:ir}{A:gG}(rr:RepL X.K H O ds xs)(v:Vals xs b6){k:Nat}(B:SortsBy k ds)(h2:2<=b6.length):
  wpAny (model X.prog X.w) A (keyKind' b6.toArray) (fun κ' s'=>s'=s/\κ'=F4 k) (fun _ _=>False) s:=by
 have e1:=rr.length;have e2:=v.length
 match k,B with
 |0,B=>
  refine kas_kind (T:= .type "int") h2 (fun u hu=>?_) rfl rfl ⟨rfl,rfl⟩;obtain⟨i,hi,e⟩:=uD hu;have ri:=qB rr (i:=i) (by omega);have vi:=qp v hi;have hd:=B.hd _ (xN (ds:=ds) (i:=i) (by omega));have:b6.getD i Value.none=u:=by simp[hi,e]
  rw[this] at vi
  cases hx:ds.getD i .non with
  |int a=>
   rw[hx] at ri;have:=ri.int;rw[this] at vi;obtain⟨t,rfl⟩:=vi;exact Looks.of_pure rfl
  |tup l=>
   rw[hx] at hd
   cases l with
   |nil=>simp[jP] at hd
   |cons z m=>cases z<;>simp[jP] at hd
  |_=>rw[hx] at hd;simp[jP] at hd
 |1,B=>
  obtain⟨fs,f1,f2,f3⟩:=yj I (T:= .type "int") (fun x=> ∃a,x= .int a) (fun x vv u px rx rv=>by
   obtain⟨a,rfl⟩:=px;have:=rx.int;subst this;obtain⟨t,rfl⟩:=rv
   exact Looks.of_pure rfl) rr v fun d hd=>by
    have:=B.hd d hd
    cases d with
    |tup l=>
     cases l with
     |nil=>simp[jP] at this
     |cons z m=>
      cases z with
      |int a=>exact⟨_,m,rfl,a,rfl⟩
      |_=>simp[jP] at this
    |_=>simp[jP] at this
  exact kat_kind f1 (by omega) f3 rfl ⟨rfl,rfl⟩
 |(n+2),B=>
  obtain⟨fs,f1,f2,f3⟩:=yj I (T:= .type "tuple") (fun x=> ∃a,x= .tup a) (fun x vv u px rx rv=>by
   obtain⟨a,rfl⟩:=px;obtain⟨p,us,rfl,q,r1⟩:=rx.tup;cases rv;obtain⟨ez,w1,⟨o,ho,hc,n,hd⟩,_⟩:=I.tuple q.sq;have:Looks (model X.prog X.w) s.heap (typeOf (.ref p)) o.cls:=(Looks.ld ho).andThen .now
   rw[hc] at this;exact this) rr v fun d hd=>by
    have:=B.hd d hd
    cases d with
    |tup l=>
     cases l with
     |nil=>simp[jP] at this
     |cons z m=>
      cases z with
      |tup a=>exact⟨_,m,rfl,a,rfl⟩
      |_=>simp[jP] at this
    |_=>simp[jP] at this
  exact kat_kind f1 (by omega) f3 rfl ⟨rfl,rfl⟩
def kb(l:List D):Option (D×Bool):=if lN l=true/\l.length<=sizeLine then some (.lst (lu ltT l),true) else none
def nO(d:D):Option (D×Bool):=(BJ d).bind kb
theorem Bs{xs:List V}{b6:ir}(v:Vals xs b6): ∀(p:hJ),(∀i∈p,i<b6.length)->Vals (p.map fun i=>xs.getD i .non) (p.map fun i=>b6.getD i Value.none)
 |[],_=> .nil
 |i::p,h=> .cons (qp v (h i iN)) (Bs v p fun j hj=>h j (iK _ hj))
theorem BP{O:AP'}{ds:List D}{xs:List V}(r:RepL X.K H O ds xs): ∀(p:hJ),(∀i∈p,i<ds.length)->RepL X.K H O (p.map fun i=>ds.getD i .non) (p.map fun i=>xs.getD i .non)
 |[],_=>RepL.nil
 |i::p,h=>RepL.cons (qB r (h i iN)) (BP r p fun j hj=>h j (iK _ hj))
theorem DR{ds:List D}{n:Nat}(hl:n=ds.length)(h1:ds.length<=1){p:hJ}(hp:p.Perm (List.range n)):p.map (fun i=>ds.getD i .non)=lu ltT ds:=by
 subst hl
 match ds,h1,hp with
 |[],_,hp=>
  have:p=[]:=by simpa using hp.length_eq
  subst this;rfl
 |[d],_,hp=>
  have hl:p.length=1:=by simpa using hp.length_eq
  match p,hl,hp with
  |[i],_,hp=>
   have:i=0:=by have:=hp.mem_iff.mp (nV.mpr rfl);simpa using this
   subst this;rfl
theorem uR(hu:X.A.units+62<cLine)(I:Inv X pins σ H s){O:AP'}{ds:List D}{xs:List V}{b6:ir}{x:gy}{Q:VK}{z:D×Bool}(rr:RepL X.K H O ds xs)(v:Vals xs b6)(hg:kb ds=some z)(G:Gen X.K H O z Q)
  (hc: ∀(Q':List Value->Shared->Prop) (E':hV) (A':gG),A'.handled=X.A.handled->(∀(h':gL) (tk:Nat),(∀b o,s.heap.get? b=some o->h'.get? b=some o)->Q' b6 {s with heap:=h',toks:=tk})->wpAny (model X.prog X.w) A' (collect x) Q' E' s):
  wpAny (model X.prog X.w) X.A (call (.builtin "sorted") [x]) (EP X pins σ Q) X.xe s:=by
 unfold kb at hg;obtain⟨⟨hok,hz⟩,rfl⟩:=gY hg;have e1:=rr.length;have e2:=v.length;refine Calls.call_function_entry kind_sorted plain_sorted entry_sorted (args_sorted1 _) ?_;unfold Builtin.«sorted»;refine gw (m:=checkCount "sorted" 1 1 _) (gA ?_);refine gw (hc _ _ _ rfl fun h1 tk k1=>?_);refine gw (wpAny_newList ?_ (by omega));have ho:(h1.push (seqObj "list" b6.toArray 0)).get? h1.objs.size=some (seqObj "list" b6.toArray 0):=kU _ rfl;have I1:Inv X pins σ H {s with heap:=h1,toks:=tk}:=I.kept k1
 have keep: ∀b o,h1.get? b=some o->(pz (h1.push (seqObj "list" b6.toArray 0)) h1.objs.size b6).get? b=some o:=fun b o e'=>by
  have hb:b≠h1.objs.size:=jy (iq e');refine iB _ (iB _ ?_);rw[HR _ _ _ _ hb];exact iB _ e'
 have I2:Inv X pins σ H {s with heap:=pz (h1.push (seqObj "list" b6.toArray 0)) h1.objs.size b6,toks:=tk}:=I1.kept keep;have bS: ∀i∈List.range b6.length,i<b6.length:=fun i hi=>by simpa using hi
 refine gw (lY (pO (s:={s with heap:=h1.push (seqObj "list" b6.toArray 0),toks:=tk}) slot_list_sort ⟨_,ho,rfl⟩ entry_list_sort ?body (args_list_sort _)))
 case body=>
  have fin: ∀p:List Nat,p.Perm (List.range b6.length)->p.map (fun i=>ds.getD i .non)=lu ltT ds->EP X pins σ Q (.ref h1.objs.size) {s with heap:=(pz (h1.push (seqObj "list" b6.toArray 0)) h1.objs.size b6).update h1.objs.size (Obj.mapSeq fun _=>(p.map fun i=>b6.getD i Value.none).toArray),toks:=tk}:=fun p hp hs=>by
   have pi: ∀i∈p,i<b6.length:=fun i hi=>by simpa using hp.mem_iff.mp hi
   have ob: ∃n,(pz (h1.push (seqObj "list" b6.toArray 0)) h1.objs.size b6).get? h1.objs.size=some (seqObj "list" #[] n):=by
    obtain⟨e1,y4⟩: ∃e1,((h1.push (seqObj "list" b6.toArray 0)).update h1.objs.size (Obj.mapSeq fun _=>(#[]:Array Value))).get? h1.objs.size=some (seqObj "list" #[] e1):=⟨_,Dd ho fun _=> #[]⟩
    exact⟨e1,iB _ (iB _ y4)⟩
   obtain⟨n,ob⟩:=ob;obtain⟨c2,bh⟩: ∃c2,((pz (h1.push (seqObj "list" b6.toArray 0)) h1.objs.size b6).update h1.objs.size (Obj.mapSeq fun _=>(p.map fun i=>b6.getD i Value.none).toArray)).get? h1.objs.size=some (seqObj "list" (p.map fun i=>b6.getD i Value.none).toArray c2):=⟨_,Dd ob fun _=>(p.map fun i=>b6.getD i Value.none).toArray⟩
   have keep2: ∀b o,h1.get? b=some o->((pz (h1.push (seqObj "list" b6.toArray 0)) h1.objs.size b6).update h1.objs.size (Obj.mapSeq fun _=>(p.map fun i=>b6.getD i Value.none).toArray)).get? b=some o:=fun b o e'=>by
    rw[HR _ _ _ _ (jy (iq e'))];exact keep b o e'
   have pl:p.length=b6.length:=by simpa using hp.length_eq
   refine⟨.ref h1.objs.size,_,I1.laid (t':=tk) keep2 (ic _) (show ObjOk X.prog X.w _ _ _ (.lst (p.map fun i=>xs.getD i .non)) from⟨by rw[jk];omega,_,c2,Bs v p pi,bh⟩),rfl,?_⟩;refine G.lst I1.fresh ?_;rw[<-hs];exact BP rr p fun i hi=>by have:=pi i hi;omega
  rcases zf hok with hlen|⟨k,B⟩
  ·refine rA (κ:=general') (lt:=fun _ _=>false) (s:={s with heap:=h1.push (seqObj "list" b6.toArray 0),toks:=tk}) ho (by omega) (Wk.mk (fun _=>rfl) (fun _ _ _ h=>absurd h jl) (fun _ _ _ h=>absurd h jl)) (fun h=>by omega) (fun h=>by omega) fun p hp _=>⟨_,rfl,gA ⟨_,rfl,fin p hp ?_⟩⟩
   exact DR (by omega) hlen hp
  ·refine rA (κ:=F4 k) (lt:=fun i j=>ltT (ds.getD i .non) (ds.getD j .non)) (s:={s with heap:=h1.push (seqObj "list" b6.toArray 0),toks:=tk}) ho (by omega) (NB _) (fun h=>Pb I2 rr v B h) (fun _=>RB (A:=X.A.in1.in1) I2 (by show X.A.units+1+1+60<cLine;omega) rr v B) fun p hp hs=>⟨_,rfl,gA ⟨_,rfl,fin p hp (GD (by rw[show ds.length=b6.length by omega];exact hp) hs)⟩⟩
theorem ud(hu:X.A.units+62<cLine):ju X (.builtin "sorted") (rDn X.K (g1 nO)):=ph fun pins s σ H x u Q O d z I ru np hd hg G=>by
 obtain⟨l,hl,hg⟩:=gk hg
 have hz:l.length<=sizeLine:=by
  unfold kb at hg;exact(gY hg).1.2
 cases d with
 |lst m=>
  cases hl;obtain⟨p,xs,rfl,q,r⟩:=jN hd;cases ru;obtain⟨b6,v,pl,_⟩:=I.list q;have e1:=r.length;have e2:=v.length;obtain⟨o,ho,hc,n,hd⟩:=pl.isList;refine uR hu I r v hg G fun Q' E' A' _ hQ=>wpAny_collect_seq p (.inl rfl) ho hc hd (fun h' k=>by simpa using hQ h' s.toks k) (by rw[jc];omega)
 |tup m=>
  cases hl;obtain⟨p,xs,rfl,q,r⟩:=kG hd;cases ru;obtain⟨b6,v,⟨o,ho,hc,n,hd⟩,_⟩:=I.tuple q;have e1:=r.length;have e2:=v.length;refine uR hu I r v hg G fun Q' E' A' _ hQ=>wpAny_collect_seq p (.inr rfl) ho hc hd (fun h' k=>by simpa using hQ h' s.toks k) (by rw[jc];omega)
 |_=>cases hl
end
theorem nZ:bootBuiltins "isinstance"=some (.builtin "isinstance"):=by decide+kernel
structure Tx(mg:jK):Prop where
 n_len:mg "len"=none
 n_abs:mg "abs"=none
 n_int:mg "int"=none
 n_tuple:mg "tuple"=none
 n_list:mg "list"=none
 n_range:mg "range"=none
 n_isinstance:mg "isinstance"=none
 n_bool:mg "bool"=none
 n_max:mg "max"=none
 n_min:mg "min"=none
 n_all:mg "all"=none
 n_any:mg "any"=none
 n_sorted:mg "sorted"=none
 n_enumerate:mg "enumerate"=none
 n_zip:mg "zip"=none
 n_set:mg "set"=none
theorem zi{K:gQ}{H:Hp}{O:AP'}: ∀ns:List Int,RepL K H O (ns.map .int) (ns.map V.int)
 |[]=>RepL.nil
 |n::ns=>RepL.cons Rep.mkInt (zi ns)
def vf(op aa:CmpOp)(fa fb fc:FO):F:=fun δ=>(fa δ).bind fun p=>(fb p.2).bind fun q=>match res q.2 p.1,res q.2 q.1 with
 |some (.int i),some (.int j)=>if jr op i j=true then(fc q.2).bind fun r=>match res r.2 r.1 with
   |some (.int k)=>some ((.bl (jr aa j k),false),r.2)
   |_=>none
  else some ((.bl false,false),q.2)
 |_,_=>none
section
variable {X:Cx}{a b c:gx}{fa fb fc:FO}{pos:Pos}{op aa:CmpOp}
theorem FR(h:tQ op):OpR X (compareOp op) (rI0 fun i j=> .bl (jr op i j)):=by
 rcases h with rfl|rfl|rfl|rfl
 ·exact Q5
 ·exact Q6
 ·exact Q7
 ·exact Q8
theorem Hr(hw:tF X.K (vf op aa fa fb fc) σ H Q):IM (rI0 fun i j=> .bl (jr op i j)) (rI0 fun i j=> .bl (jr aa i j)) (tO X.K fa) (tO X.K fb) (tO X.K fc) σ H Q:=by
 obtain⟨δ,T,rr,δ',E,e,k⟩:=hw;unfold vf at e;obtain⟨⟨o1,δ1⟩,h1,e⟩:=gk e;obtain⟨⟨o2,δ2⟩,h2,e⟩:=gk e;refine⟨δ,T,o1,δ1,E,h1,fun v H1 P1=>⟨δ1,vO T o1 v,o2,δ2,P1.er E,h2,fun u H2 P2=>?_⟩⟩;have B:=Ops.cons E P1 (Ops.cons (P1.er E) P2 (Ops.nil (P2.er (P1.er E))));dsimp only at e;split at e
 ·rename_i i j hx hy;have hv:=gS (B.view (j:=0) rfl rfl hx);have hu:=gS (B.view (j:=1) rfl rfl hy);refine⟨i,j,hv,hu,jr op i j,rfl,?_⟩;by_cases c:jr op i j=true
  ·rw[gz c] at e ⊢;obtain⟨⟨o3,δ3⟩,h3,e⟩:=gk e;dsimp only at e;split at e
   ·rename_i k' hz;obtain⟨rfl,rfl⟩:=gJ e;refine⟨δ2,_,o3,δ3,P2.er (P1.er E),h3,fun w H3 P3=>?_⟩;have B3:=Ops.cons E P1 (Ops.cons (P1.er E) P2 (Ops.cons (P2.er (P1.er E)) P3 (Ops.nil (P3.er (P2.er (P1.er E))))));exact⟨j,k',hu,gS (B3.view (j:=2) rfl rfl hz),(B3.done k).bl⟩
   ·cases e
  ·rw[gC c] at e ⊢;obtain⟨rfl,rfl⟩:=gJ e;exact(B.done k).bl
 ·cases e
theorem Ji(ho:tQ op)(aX:tQ aa)(ha:PO X a fa)(hb:PO X b fb)(hc:PO X c fc)(hm:lastMarks [op,aa] [b,c]=false:=by with_unfolding_all rfl):PX X (.Compare a [op,aa] [b,c] pos) (vf op aa fa fb fc):=
 PX.imp (JG (FR ho) (FR aX) ha hb hc hm) fun σ H Q hw=>Hr hw
end
def vIs(x:V)(c:Bool):Bool:=match x with
 | .bl b=>b==c
 |_=>false
def gIs:D->D->Option (D×Bool)
 | .bl b,.bl c=>some (.bl (b==c),false)
 |_,.bl _=>some (.bl false,false)
 | .non,.non=>some (.bl true,false)
 |_,.non=>some (.bl false,false)
 |_,_=>none
def ED:D->D->Option (D×Bool)
 | .bl b,.bl c=>some (.bl (!(b==c)),false)
 |_,.bl _=>some (.bl true,false)
 | .non,.non=>some (.bl false,false)
 |_,.non=>some (.bl true,false)
 |_,_=>none
section
variable {X:Cx}
theorem Fj(rx:RelV x v)(c:Bool):plainIs v (.bool c)=true/\(v== .bool c)=vIs x c:=by
 cases x<;>first
  |(cases rx;exact⟨rfl,rfl⟩)
  |(obtain⟨t,rfl⟩:=rx;exact⟨rfl,rfl⟩)
  |(rename_i b;cases rx;refine⟨rfl,?_⟩;cases b<;>cases c<;>rfl)
theorem JP:OpR X (compareOp .Is) (fun x y H Q=> ∃c,y= .bl c/\Q (.bl (vIs x c)) H):=by
 intro pins s σ H x y v u Q I rx ry h;obtain⟨c,rfl,q⟩:=h;cases ry;obtain⟨h1,h2⟩:=Fj rx c;exact wpAny_is_plain h1 (AZ I q (by rw[h2]))
theorem zj:OpR X (compareOp .IsNot) (fun x y H Q=> ∃c,y= .bl c/\Q (.bl (!vIs x c)) H):=by
 intro pins s σ H x y v u Q I rx ry h;obtain⟨c,rfl,q⟩:=h;cases ry;obtain⟨h1,h2⟩:=Fj rx c;exact wpAny_isNot_plain h1 (AZ I q (by rw[h2]))
theorem pV{K H}(h:iW K H O (.bl b) v):v= .bl b:=h.elim (fun h=>h.bl) fun⟨_,_,h⟩=>h.elim
theorem oq{K H}(h:iW K H O .non v):v= .non:=h.elim (fun h=>h.non) fun⟨_,_,h⟩=>h.elim
theorem Br{K H}(h:iW K H O d v)(nb: ∀b,d≠ .bl b)(c:Bool):vIs v c=false:=by
 cases d with
 |bl b=>exact absurd rfl (nb b)
 |non=>rw[oq h];rfl
 |int i=>rw[gS h];rfl
 |str x=>
   rcases h with h|⟨a,_,h⟩
   ·rw[h.str];rfl
   ·exact h.elim
 |tup l=>
   rcases h with h|⟨a,_,h⟩
   ·rw[Rep] at h;obtain⟨a,xs,rfl,_⟩:=h;rfl
   ·exact h.elim
 |lst l=>
   rcases h with h|⟨a,rfl,h⟩
   ·rw[Rep] at h;obtain⟨a,xs,rfl,_⟩:=h;rfl
   ·rfl
 |oth _ _ _=>
   rcases h with h|⟨a,rfl,h⟩
   ·rw[Rep] at h;obtain⟨a,xs,rfl,_⟩:=h;rfl
   ·rfl
theorem vw{K H}(h:iW K H O d v)(nb:d≠ .non):v≠ .non:=by
 cases d with
 |bl b=>rw[pV h];intro z;cases z
 |non=>exact absurd rfl nb
 |int i=>rw[gS h];intro z;cases z
 |str x=>
   rcases h with h|⟨a,_,h⟩
   ·rw[h.str];intro z;cases z
   ·exact h.elim
 |tup l=>
   rcases h with h|⟨a,_,h⟩
   ·rw[Rep] at h;obtain⟨a,xs,rfl,_⟩:=h;intro z;cases z
   ·exact h.elim
 |lst l=>
   rcases h with h|⟨a,rfl,h⟩
   ·rw[Rep] at h;obtain⟨a,xs,rfl,_⟩:=h;intro z;cases z
   ·intro z;cases z
 |oth _ _ _=>
   rcases h with h|⟨a,rfl,h⟩
   ·rw[Rep] at h;obtain⟨a,xs,rfl,_⟩:=h;intro z;cases z
   ·intro z;cases z
theorem OP:OpR X (compareOp .Is) (rD X.K gIs):=by
 intro pins s σ H x y v u Q I rx ry h;obtain⟨O,d,e,z,np,h1,h2,hg,G⟩:=h
 cases e with
 |bl c=>
  have hy:=pV h2;by_cases hb: ∃b,d= .bl b
  ·obtain⟨b,rfl⟩:=hb;cases hg;refine JP pins s σ H x y v u Q I rx ry ⟨c,hy,?_⟩;rw[pV h1];exact G.bl
  ·have nb: ∀b,d≠ .bl b:=fun b z=>hb ⟨b,z⟩;have hz:z=(.bl false,false):=by cases d<;>first|exact absurd rfl (nb _)|(cases hg;rfl)
   subst hz;refine JP pins s σ H x y v u Q I rx ry ⟨c,hy,?_⟩;rw[Br h1 nb c];exact G.bl
 |non=>
  have hy:=oq h2;by_cases hb:d= .non
  ·subst hb;cases hg;refine JO pins s σ H x y v u Q I rx ry ⟨hy,?_⟩;rw[oq h1];exact G.bl
  ·have hz:z=(.bl false,false):=by cases d<;>first|exact absurd rfl hb|(cases hg;rfl)
   subst hz;refine JO pins s σ H x y v u Q I rx ry ⟨hy,?_⟩;rw[sO (vw h1 hb)];exact G.bl
 |_=>cases d<;>cases hg
theorem GZ:OpR X (compareOp .IsNot) (rD X.K ED):=by
 intro pins s σ H x y v u Q I rx ry h;obtain⟨O,d,e,z,np,h1,h2,hg,G⟩:=h
 cases e with
 |bl c=>
  have hy:=pV h2;by_cases hb: ∃b,d= .bl b
  ·obtain⟨b,rfl⟩:=hb;cases hg;refine zj pins s σ H x y v u Q I rx ry ⟨c,hy,?_⟩;rw[pV h1];exact G.bl
  ·have nb: ∀b,d≠ .bl b:=fun b z=>hb ⟨b,z⟩;have hz:z=(.bl true,false):=by cases d<;>first|exact absurd rfl (nb _)|(cases hg;rfl)
   subst hz;refine zj pins s σ H x y v u Q I rx ry ⟨c,hy,?_⟩;rw[Br h1 nb c];exact G.bl
 |non=>
  have hy:=oq h2;by_cases hb:d= .non
  ·subst hb;cases hg;refine FQ pins s σ H x y v u Q I rx ry ⟨hy,?_⟩;rw[oq h1];exact G.bl
  ·have hz:z=(.bl true,false):=by cases d<;>first|exact absurd rfl hb|(cases hg;rfl)
   subst hz;refine FQ pins s σ H x y v u Q I rx ry ⟨hy,?_⟩;rw[sO (vw h1 hb)];exact G.bl
 |_=>cases d<;>cases hg
end
end PX
namespace HT
open PySem PySem.Spec PyProof.Rows L2
section
variable {prog:gM}{w:gE}{A:gG}{E:hV}{s:gu}
theorem EC{t sl:gm}{items:kg}{vl vu:gy}{lo hi:Option Int}{Q:hV}(ht:IsTup s.heap t items)(hs:s.heap.IsSliceOf sl vl vu .none)(pl:IsPart vl lo)(pu:IsPart vu hi)
  (hw:sIx items.size 0 lo=0/\sIx items.size items.size hi=items.size)(h:Q (.ref t) s):wpAny (model prog w) A (getItem (.ref t) (.ref sl)) Q E s:=by
 obtain⟨os,aG,cK,bB⟩:=id hs;have dM:s.TypeIs (.ref sl) "slice":=⟨os,aG,cK⟩
 unfold getItem
 try with_reducible refine lY ?_
 first|refine gw (gA ?_)|skip
 refine gw (Dx ht.typeIs (by decide) ?_)
 refine gw (wC (name:=Str.ofString "__getitem__") ht.typeIs vZ
  (pO vZ ht.typeIs Dw ?_ (Dv _ _)))
 show wpAny _ _ (Builtin.Tuple.tupleItemsOf (.ref t)>>=_) _ _ s;refine gw (Du ht ?_);refine gw (vq dM ?_);rw[gz (by decide)];refine gw (oy hs pl pu ?_);rw[hw.1,hw.2];show wpAny _ _ (if((((0:Nat):Int)==0&&(1:Int)==1&&(items.size-0)==items.size)=true) then _ else _) _ _ s;rw[gz (by simp)];refine gw (m:=Builtin.Tuple.tupleIsExact _) ?_;unfold Builtin.Tuple.tupleIsExact;refine gw (vq ht.typeIs ?_);refine gA ?_;rw[gz (by decide)];refine gw (uO ?_)
 first
  |exact gw (gA ⟨_,rfl,gA h⟩)
  |exact gA ⟨_,rfl,gA h⟩
  |exact gw (gA (gA ⟨_,rfl,gA h⟩))
  |(refine gw ?_;trace_state;done)
end
end HT
namespace PX
open PySem PySem.Spec PyProof.Rows L2 PySem.SeqAt
def mq(l:List D)(lo hi:Option Int):List D:=(l.drop (HT.sIx l.length 0 lo)).take (HT.sIx l.length l.length hi-HT.sIx l.length 0 lo)
def gSl(lo hi:Option Int):D->Option (D×Bool)
 | .tup l=>some (.tup (mq l lo hi),false)
 | .lst l=>some (.lst (mq l lo hi),true)
 |_=>none
def Tz(K:gQ):V->Option Int->Option Int->Hp->VK->Prop:=fun x lo hi H Q=> ∃(O:AP') (d:D) (z:D×Bool),(∀p,¬Ow (H p)-> ¬O p)/\iW K H O d x/\gSl lo hi d=some z/\Gen K H O z Q
theorem RepL.cut{K H}(r:RepL K H O l xs)(lo hi:Option Int):RepL K H O (mq l lo hi) (Cw xs lo hi):=by
 unfold mq Cw;rw[r.length];exact(r.drop _).take _
section
variable {X:Cx}
theorem BG{pins:gZ}{s:gu}{σ:L2.St}{H:Hp}{a:gm}{v vl vu:gy}{lo hi:Option Int}{sl:gm}{Q:VK}{O:AP'}{l:List D}{xs:List V}(I:Inv X pins σ H s)(rx:RelV (.ref a) v)(hs:s.heap.IsSliceOf sl vl vu .none)(pl:IsPart vl lo)(pu:IsPart vu hi)
  (q:SqL X.K H a xs)(r:RepL X.K H O l xs)(G:Gen X.K H O (.lst (mq l lo hi),true) Q): ∃T id,typeLookup (.type T) "__getitem__"=pure (some (.builtin id))/\s.TypeIs v T/\wpAny (model X.prog X.w) X.A (getItem v (.ref sl)) (EP X pins σ Q) X.xe s:=
 Li pins s σ H (.ref a) v vl vu lo hi sl Q I rx hs pl pu ⟨a,xs,rfl,q,fun p hp=>G.lst hp (r.cut lo hi)⟩
theorem Qs:SlR X (Tz X.K):=by
 intro pins s σ H x v vl vu lo hi sl Q I rx hs pl pu h;obtain⟨O,d,z,np,hd,hg,G⟩:=h
 cases d with
 |tup l=>
  cases hg;rcases hd with hd|⟨a,_,h⟩
  ·obtain⟨a,xs,rfl,q,r⟩:=hd.tup;by_cases hw:HT.sIx xs.length 0 lo=0/\HT.sIx xs.length xs.length hi=xs.length
   ·cases rx;obtain⟨b6,rv,ht,hz⟩:=I.tuple q.sq;have hlen:b6.toArray.size=xs.length:=by rw[jc];exact rv.length.symm
    refine⟨"tuple",_,vZ.lookup,ht.typeIs,?_⟩;refine HT.EC ht hs pl pu (by rw[hlen];exact hw) ⟨.ref a,H,I,rfl,?_⟩
    have e:mq l lo hi=l:=by
     unfold mq;rw[<-r.length,hw.1,hw.2];simp[r.length]
    rw[e] at G;exact G (.ref a) H (fun _ _ e=>e) hd
   ·exact NQ pins s σ H (.ref a) v vl vu lo hi sl Q I rx hs pl pu ⟨a,xs,rfl,q.sq,hw,fun p hp=>G.tup hp (np p (nOw hp)) (r.cut lo hi)⟩
  ·exact h.elim
 |lst l=>
  cases hg;rcases hd with hd|⟨a,rfl,h⟩
  ·obtain⟨a,xs,rfl,q,r⟩:=hd.lst;exact BG I rx hs pl pu q.sq r G
  ·obtain⟨xs,e,r⟩:=h;exact BG I rx hs pl pu (.inl (.inl e)) r G
 |_=>cases hg
end
def rC(fa fl:FO):F:=fun δ=>(fa δ).bind fun p=>(fl p.2).bind fun q=>match res q.2 q.1 with
 |some (.int i)=>(res q.2 p.1).bind fun x=>(gSl (some i) none x).bind fun z=>some (z,q.2)
 |_=>none
def qf(fa fh:FO):F:=fun δ=>(fa δ).bind fun p=>(fh p.2).bind fun q=>match res q.2 q.1 with
 |some (.int i)=>(res q.2 p.1).bind fun x=>(gSl none (some i) x).bind fun z=>some (z,q.2)
 |_=>none
section
variable {X:Cx}{a lo hi:gx}{fa fl fh:FO}{pos p2:Pos}
theorem LB(ha:PO X a fa)(hl:PO X lo fl):PX X (.Subscript a (.Slice (some lo) none none p2) pos) (rC fa fl):=
 PX.imp (BY Qs ha (FF hl) FG) fun σ H Q hw=>by
  obtain⟨δ,T,rr,δ',E,e,k⟩:=hw;unfold rC at e;obtain⟨⟨o1,δ1⟩,h1,e⟩:=gk e;obtain⟨⟨o2,δ2⟩,h2,e⟩:=gk e;dsimp only at e;split at e
  ·rename_i i hi;obtain⟨x,hx,e⟩:=gk e;obtain⟨z,hz,e⟩:=gk e;obtain⟨rfl,rfl⟩:=gJ e;refine⟨δ,T,o1,δ1,E,h1,fun v H1 P1=>⟨δ1,vO T o1 v,o2,δ2,P1.er E,h2,fun u H2 P2=>?_⟩⟩;have B:=Ops.cons E P1 (Ops.cons (P1.er E) P2 (Ops.nil (P2.er (P1.er E))));exact⟨i,gS (B.view (j:=1) rfl rfl hi),_,x,z,fun p hp=>B.np hp,B.view (j:=0) rfl rfl hx,hz,B.done k⟩
  ·cases e
theorem LD(ha:PO X a fa)(hl:PO X hi fh):PX X (.Subscript a (.Slice none (some hi) none p2) pos) (qf fa fh):=
 PX.imp (BY Qs ha FG (FF hl)) fun σ H Q hw=>by
  obtain⟨δ,T,rr,δ',E,e,k⟩:=hw;unfold qf at e;obtain⟨⟨o1,δ1⟩,h1,e⟩:=gk e;obtain⟨⟨o2,δ2⟩,h2,e⟩:=gk e;dsimp only at e;split at e
  ·rename_i i hi;obtain⟨x,hx,e⟩:=gk e;obtain⟨z,hz,e⟩:=gk e;obtain⟨rfl,rfl⟩:=gJ e;refine⟨δ,T,o1,δ1,E,h1,fun v H1 P1=>⟨δ1,vO T o1 v,o2,δ2,P1.er E,h2,fun u H2 P2=>?_⟩⟩;have B:=Ops.cons E P1 (Ops.cons (P1.er E) P2 (Ops.nil (P2.er (P1.er E))));exact⟨i,gS (B.view (j:=1) rfl rfl hi),_,x,z,fun p hp=>B.np hp,B.view (j:=0) rfl rfl hx,hz,B.done k⟩
  ·cases e
end
end PX
namespace L2
open PySem PySem.Spec PyProof.Rows
section
variable {X:Cx}
def M8(J:It)(g:TG)(ti:TT)(tb:Addr->TB)(pre:St->St)(σ:St)(H:Hp)(Q:VK):Prop:=
 ∀d,H d=none->Bw J g ti (tb d) (pre σ) (upd H d (.set (fun _=>false) 0)) fun _ H2=>Q (.ref d) H2
theorem Hn{elt:gx}{c:pI}{hG:pj}{scope:ip}{pos:Pos}{N':gT}{pre:St->St}{g:TG}{ti:TT}{tb:Addr->TB}{ax:ji}{J:It}{fp:jo}{it:gm}{tn:Nat->Heap->Prop}
  (S:CompScope X N' scope pre)(hc:X.calm=true)(ha:c.is_async=0)(x9: ∀g',hG[0]?=some g'->g'.is_async=0)
  (ay: ∀(cl:ji) (C:gm) (s3:gu) (H3:Hp) (fp:jo) (pins:gZ),let X':=X.comp N' scope cl C s3 H3 fp pins
   PG X' c.target g/\PIf X' c.ifs ti/\ ∀d,PB X' (iQ (.SetComp elt (c::hG) scope pos) 0 (.ref d) X'.env) (tb d))
  (l5: ∀x c,ax.lookup x=some c->X.env.cells.lookup x=some c)(n0: ∀x,(x,NameKind.free)∈scope.names-> ∃c,ax.lookup x=some c)
  {pins:gZ}{s2:gu}{σ:St}{H2:Hp}{Q:VK}{E:hV}{RR:Value->Addr->Result->Shared->Prop}(I2:Inv X pins σ H2 s2)(T:Turn X.prog X.w X.K c.target J fp it tn)(i8:tn 0 s2.heap)(f2: ∀b∈fp,pH X pins H2 b)
  (h:M8 J g ti tb pre σ H2 Q)
  (fV: ∀(d:gm) (cl:ji) (s3:gu) (H3 H4:Hp) (σ':St) (s4:gu),Inv X pins σ H3 s3->(∀b∈fp,pH X pins H3 b)->Inv (X.comp N' scope cl s3.heap.objs.size s3 H3 fp pins) [] σ' H4 s4->Q (.ref d) H4->RR (.ref d) s3.heap.objs.size (.ok .next) s4):
  wpAny (model X.prog X.w) X.A (newSet (.type "set")) (fun acc s₃=>wpAny (model X.prog X.w) X.A (newFunctionEnv scope X.env.globals ax [] X.env.qual none .none (some X.env)) (fun bo s₄=>
   codeAny (model X.prog X.w) X.A (.compStart (.SetComp elt (c::hG) scope pos) 0 (.ref it) acc {bo with scope:=relabel scope X.env}) (RR acc bo.locals) s₄) E s₃) E s2:=by
 refine wpAny_newSet_of (knd:=intKind X.prog X.w) fun led hS=>?_;have I3:Inv X pins σ (upd H2 s2.heap.objs.size (.set (fun _=>false) 0)) {s2 with heap:=s2.heap.push {cls:= .type "set",dict:=none,data:= .set #[] 0 (.fresh 0 0 led)}}:=I2.laid (t':=s2.toks) (o:= .set (fun _=>false) 0) (fun b ob q=>iB _ q) (ic _) hS;have fo: ∀b∈fp,b<s2.heap.objs.size:=fun b hb=>by obtain⟨o,e,_⟩:=T.obj _ _ i8 b hb;exact iq e
 have ff: ∀b∈fp,pH X pins (upd H2 s2.heap.objs.size (.set (fun _=>false) 0)) b:=fun b hb=>⟨by rw[gR (jy (fo b hb))];exact(f2 b hb).1,(f2 b hb).2⟩
 refine FW S.cell l5 n0 fun h1 cl aJ fG B=>?_;have hk: ∀b o,(s2.heap.push {cls:= .type "set",dict:=none,data:= .set #[] 0 (.fresh 0 0 led)}).get? b=some o->h1.get? b=some o:=fG;have cC: ∀b∈fp,b<(s2.heap.push {cls:= .type "set",dict:=none,data:= .set #[] 0 (.fresh 0 0 led)}).objs.size:=fun b hb=>by rw[rQ];exact Ai (fo b hb)
 have J0:=Gh (t':=s2.toks) S I3 B ff cC aJ hk;obtain⟨pg,dz,pb⟩:=ay cl (s2.heap.push {cls:= .type "set",dict:=none,data:= .set #[] 0 (.fresh 0 0 led)}).objs.size {s2 with heap:=s2.heap.push {cls:= .type "set",dict:=none,data:= .set #[] 0 (.fresh 0 0 led)}} (upd H2 s2.heap.objs.size (.set (fun _=>false) 0)) fp pins;have t5:tn 0 h1:=T.keep _ _ _ i8 fun b hb o e=>hk b o (iB _ e);have hw:=h s2.heap.objs.size (I2.hok.fresh (ic _))
 have gd: ∀b∈fp,pH (X.comp N' scope cl (s2.heap.push {cls:= .type "set",dict:=none,data:= .set #[] 0 (.fresh 0 0 led)}).objs.size {s2 with heap:=s2.heap.push {cls:= .type "set",dict:=none,data:= .set #[] 0 (.fresh 0 0 led)}} (upd H2 s2.heap.objs.size (.set (fun _=>false) 0)) fp pins) []
   (upd H2 s2.heap.objs.size (.set (fun _=>false) 0)) b:=fun b hb=>by
  obtain⟨z1,z2,z3,z4,z5,z6⟩:=ff b hb;refine⟨z1,jy (cC b hb),fun z=>(lq.mp (I3.stkSub b z)).elim z2 z3,.inl hb,fun x c hx=>(B.ex x c hx).elim (z5 x c) fun z=>uM (wy (cC b hb) z),fun p hp=>z6 p (by simpa[Cx.comp] using hp)⟩
 have hl:(∃el gens sc p,Expr.SetComp elt (c::hG) scope pos= .ListComp el gens sc p)\/(∃el gens sc p,Expr.SetComp elt (c::hG) scope pos= .SetComp el gens sc p):= .inr ⟨_,_,_,_,rfl⟩;refine By hl rfl ha ?_ (fun Q' E' hq=>T.self X.A 0 _ Q' E' t5 hq)
 refine rd (F3 (X:=X.comp N' scope cl (s2.heap.push {cls:= .type "set",dict:=none,data:= .set #[] 0 (.fresh 0 0 led)}).objs.size {s2 with heap:=s2.heap.push {cls:= .type "set",dict:=none,data:= .set #[] 0 (.fresh 0 0 led)}} (upd H2 s2.heap.objs.size (.set (fun _=>false) 0)) fp pins)
  (depth:=0) (acc:= .ref s2.heap.objs.size) rfl hc hl rfl ha (fun g' aO=>x9 g' (by simpa[clausesOf] using aO)) T pg dz (pb _) J0 gd t5 hw) fun r s4 hr=>?_
 obtain⟨rfl,σ4,H4,I4,_,q⟩:=hr;exact fV _ _ _ _ _ _ _ I3 ff I4 q
def Au(wi:TI)(g:TG)(ti:TT)(tb:Addr->TB)(pre:St->St):TE:=fun σ H Q=>wi σ H fun J H1=>M8 J g ti tb pre σ H1 Q
theorem JC{elt:gx}{c:pI}{hG:pj}{scope:ip}{pos:Pos}{N':gT}{pre:St->St}{wi:TI}{g:TG}{ti:TT}{tb:Addr->TB}
  (S:CompScope X N' scope pre)(hc:X.calm=true)(ha:c.is_async=0)(x9: ∀g',hG[0]?=some g'->g'.is_async=0)
  (hs: ∀x,foldedSetIterable c.iter X.env x=pure x)(pi:PI X c.target c.iter wi)
  (ay: ∀(cl:ji) (C:gm) (s3:gu) (H3:Hp) (fp:jo) (pins:gZ),let X':=X.comp N' scope cl C s3 H3 fp pins
   PG X' c.target g/\PIf X' c.ifs ti/\ ∀d,PB X' (iQ (.SetComp elt (c::hG) scope pos) 0 (.ref d) X'.env) (tb d)):
  PE X (.SetComp elt (c::hG) scope pos) (Au wi g ti tb pre):=by
 intro pins s σ H Q I h;obtain⟨tg,dC,ifs,az⟩:=c;obtain rfl:az=0:=ha;obtain⟨cl,af,l5,n0⟩:=sj X.env scope fun x hx hf=>I.ok.has x.1 (S.free x hx hf);rw[arm_eval_SetComp];show wpAny _ X.A (comprehension _ scope X.env _ (newSet (.type "set")) false (eval dC X.env)) _ _ s;refine HZ (use:=none) (g:=⟨tg,dC,ifs,0⟩) (gs:=hG) rfl hs af S.kind S.names (thn (pi pins s σ H _ I h) fun v s1 h1=>thn h1 fun ej s2 h2=>?_);obtain⟨it,fp,tn,J,H2,rfl,I2,T,i8,f2,hw⟩:=h2;refine Hn (RR:=fun acc C=>compPost (model X.prog X.w) X.A X.xe none (EP X pins σ Q) acc C) S hc rfl x9 ay l5 n0 I2 T i8 f2 hw fun d cl' s3 H3 H4 σ' s4 I3 ff J4 q=>?_;obtain⟨m,hn,_⟩:=id J4.loc;exact⟨m,hn,fun h' aE=>⟨.ref d,H4,Cz I3 ff J4 aE,rfl,q⟩⟩
def NJ(d:gm)(te:TE):TB:=fun σ H N=>te σ H fun y H1=> ∃k S n,y= .int k/\H1 d=some (.set S n)/\n+1<scanBound/\N σ (upd H1 d (.set (fun k'=>S k'||decide (k'=k)) (if S k then n else n+1)))
theorem JJ{elt:gx}{gens:pj}{sc:ip}{p:Pos}{depth:Nat}{d:gm}{te:TE}(hn:gens[depth+1]?=none)(he:PE X elt te):PB X (iQ (.SetComp elt gens sc p) depth (.ref d) X.env) (NJ d te):=by
 intro pins s σ H N I h
 have e1:iQ (.SetComp elt gens sc p) depth (.ref d) X.env=(do let v <-eval elt X.env;standAt elt.pos;let _ <-call (.builtin "set.add") [.ref d,v]):=by
  unfold iQ;simp only[clausesOf];rw[hn]
 rw[e1];refine gw (thn (he pins s σ H _ I h) fun u s1 ⟨y,H1,I1,ru,k,S,n,ey,hd,hz,q⟩=>?_);subst ey;obtain⟨t,rfl⟩:=ru;have hS:s1.heap.SetOf (intKind X.prog X.w) d S n:=I1.hok d _ hd;refine gw (wH (gw (call_set_add (knd:=intKind X.prog X.w) (k:=k) (intKind_is _ _ k t) rfl hS hz fun h' aE bV=>gA ⟨σ,_,?_,q⟩)));refine I1.write (x:=d) (e:=d) (by rw[hd];exact trivial) (.inl rfl) (fun b u hb hu=>by rw[aE.2 b hb];exact hu) ?_ bV;obtain⟨o,_,_,_,ho,_⟩:=bV;exact⟨o,ho⟩
end
end L2
namespace PX
open PySem PySem.Spec PyProof.Rows L2 PySem.SeqAt
def tu(p:(Int->Bool)×Nat)(d:D):(Int->Bool)×Nat:=match d with
 | .int k=>(fun k'=>p.1 k'||decide (k'=k),if p.1 k then p.2 else p.2+1)
 |_=>p
def lZ(l:List D):(Int->Bool)×Nat:=l.foldl tu (fun _=>false,0)
theorem zh(l:List D)(k:Int):lZ (l++[.int k])=((fun k'=>(lZ l).1 k'||decide (k'=k)),if(lZ l).1 k then(lZ l).2 else(lZ l).2+1):=by
 unfold lZ;rw[List.foldl_append];rfl
theorem Fs: ∀(l:List D) (p:(Int->Bool)×Nat),(l.foldl tu p).2<=p.2+l.length
 |[],p=>ic _
 |d::l,p=>by
  have:=Fs l (tu p d)
  have h:(tu p d).2<=p.2+1:=by
   unfold tu;split
   ·dsimp only;split<;>omega
   ·omega
  simp only[List.foldl_cons,jq];omega
structure BSs(K:gQ)(d:gm)(T:AP')(σ:L2.St)(δ:Dn)(acc:List D)(H:Hp):Prop where
 er:ER K H T σ δ
 td:T d
 at':H d=some (.set (lZ acc).1 (lZ acc).2)
def DQ(K:gQ)(A:iu)(d:gm)(f:FB):TB:=fun σ H N=> ∃δ T acc k7 δ',BSs K d T σ δ acc H/\f acc δ=some (k7,δ')/\ ∀σ' H',SKd A d σ δ H σ' δ' H'->BSs K d T σ' δ' k7 H'->N σ' H'
def yF(f:F):FB:=fun acc δ=>(f δ).bind fun p=>match p.1.1 with
 | .int k=>if acc.length+1<scanBound then some (acc++[.int k],p.2) else none
 |_=>none
section
variable {K:gQ}{A:iu}{d:gm}{T:AP'}{σ σ1:L2.St}{δ δ1:Dn}{acc:List D}{H H1:Hp}
theorem BSs.step(b:BSs K d T σ δ acc H)(k:SK A σ δ H σ1 δ1 H1)(E1:ER K H1 T σ1 δ1):BSs K d T σ1 δ1 acc H1:=⟨E1,b.td,k.kp d _ b.at' fun z=>b.er.nT d z b.td⟩
theorem J2(hg: ∀v σ H Q,tG K A tg v σ H Q->g v σ H Q)(hi: ∀σ H Q,tT K ft σ H Q->ti σ H Q)(hb: ∀σ H N,DQ K A d fb σ H N->tb σ H N)
  (b:BSs K d T σ δ acc H)(P O:AP')(ok:ItOk K J ds P O H1)(s1: ∀a o,H1 a=some o-> ¬P a->H a=some o)(s0: ∀a,H1 a≠none->OwnA σ δ a\/a=d->P a)(s2: ∀a,H1 a≠none->(OwnA σ δ a\/T a)->O a)(s3: ∀a,H1 a≠none->H a≠none)(e:kY tg ft fb ds acc δ=some (k7,δ'))
  (k: ∀σ' H',SKd A d σ δ H σ' δ' H'->BSs K d T σ' δ' k7 H'->N σ' H'):Bw J g ti tb σ H N:=by
 refine⟨fun i m σ2 H2=>m=ds.length-i/\i<=ds.length/\ ∃δ2 u4,SKd A d σ δ H σ2 δ2 H2/\BSs K d T σ2 δ2 u4 H2/\kY tg ft fb (ds.drop i) u4 δ2=some (k7,δ'),⟨ds.length,by simp,lI _,δ,acc,SK.refl.skd,b,by simpa using e⟩,?_⟩;rintro i m σ2 H2 ⟨rfl,hle,δ2,u4,S2,B2,e2⟩
 have hO: ∀a,H1 a≠none->(OwnA σ2 δ2 a\/T a)->O a:=fun a ha z=>by
  rcases z with z|z
  ·exact(S2.ow a z).elim (fun z=>s2 a ha (.inl z)) fun z=>absurd z (s3 a ha)
  ·exact s2 a ha (.inr z)
 have t6: ∀a o,H1 a=some o-> ¬P a->H2 a=some o:=fun a o ea n=>S2.kp a o (s1 a o ea n) (fun z=>n (s0 a (by rw[ea];simp) (.inl z))) fun z=>n (s0 a (by rw[ea];simp) (.inr z));by_cases k6:i<ds.length
 ·refine .inr ?_;have hd:ds[i]?=some ds[i]:=iM k6;obtain⟨go,yl⟩:=ok.go i _ H2 hd t6;rw[qW k6] at e2;obtain⟨δ3,h3,e3⟩:=gk e2;obtain⟨⟨c,δ4⟩,h4,e4⟩:=gk e3;obtain⟨⟨bp,δ5⟩,h5,e5⟩:=gk e4;refine⟨go,fun x H' hy=>?_⟩;obtain⟨ext,rep⟩:=yl x H' hy;have bN:ER K H' T σ2 δ2:=B2.er.mono (fun b ob eb _=>ext b ob eb) (fun _ _ z=>z) (fun a z=>(B2.er.dom a z).up (ext a));have SX:SK A σ2 δ2 H2 σ2 δ2 H':=(Keep.ext ext).sk;have gi:=B2.step SX bN;have cR:SKd A d σ δ H σ2 δ2 H':=S2.trans SX.skd;have rx:=rep (fun a=>OwnA σ2 δ2 a\/T a) hO (fun b hb z=>z.elim (fun z=>B2.er.ownDom z hb) fun z=>(B2.er.dom b z).ne hb);refine hg _ _ _ _ ⟨δ2,T,ds[i],δ3,bN,rx,h3,fun σ3 S3 E3=>?_⟩;have B3:=gi.step S3 E3;have br:=cR.trans S3.skd;refine hi _ _ _ ⟨δ3,T,c,δ4,E3,h4,fun H4 K4 E4=>?_⟩;have S4:SK A σ3 δ3 H' σ3 δ4 H4:=K4.sk;have B4:=B3.step S4 E4;have dS:=br.trans S4.skd
  cases c with
  |false=>
   rw[gC jl] at h5;obtain⟨rfl,rfl⟩:=gJ h5;exact Mx ⟨ds.length-(i+1),by omega,rfl,k6,δ4,u4,dS,B4,e5⟩
  |true=>
   rw[gz rfl] at h5;exact Mw (hb _ _ _ ⟨δ4,T,u4,bp,δ5,B4,h5,fun σ5 H5 S5 B5=>⟨ds.length-(i+1),by omega,rfl,k6,δ5,bp,dS.trans S5,B5,e5⟩⟩)
 ·refine .inl ⟨ok.stop i H2 (by omega) t6,?_⟩;rw[rP (by omega)] at e2;obtain⟨rfl,rfl⟩:=gJ e2;exact k σ2 H2 S2 B2
end
section
variable {X:Cx}{A:iu}{d:gm}{elt:gx}{f:F}
theorem GX{gens:pj}{sc:ip}{p:Pos}{depth:Nat}(hn:gens[depth+1]?=none)(he:PX X elt f):PB X (iQ (.SetComp elt gens sc p) depth (.ref d) X.env) (DQ X.K A d (yF f)):=PB.imp' (JJ hn he) fun σ H N hw=>by
 obtain⟨δ,T,acc,k7,δ',B,e,k⟩:=hw;obtain⟨⟨r,δ1⟩,h1,e⟩:=gk e;obtain⟨r1,r2⟩:=r
 cases r1 with
 |int i=>
  obtain⟨hz,e⟩:=gY e;obtain⟨rfl,rfl⟩:=sJ e;refine⟨δ,T,(.int i,r2),δ1,B.er,h1,fun v H1 P=>?_⟩;obtain⟨E1,rv⟩:=P.rep B.er;have hv:v= .int i:=rv.int;have S1:SK A σ δ H σ δ1 H1:=P.1.sk;have B1:=B.step S1 E1;have hle:=Fs acc (fun _=>false,0);refine⟨i,_,_,hv,B1.at',by unfold lZ;omega,k σ _ ?_ ?_⟩
  ·have:SKd A d σ δ1 H1 σ δ1 (upd H1 d (.set (fun k'=>(lZ acc).1 k'||decide (k'=i)) (if(lZ acc).1 i then(lZ acc).2 else(lZ acc).2+1))):=⟨fun a o e n nd=>by rw[gR nd];exact e,fun i a z=> .inl z,fun a z=>by
    by_cases ha:a=d
    ·subst ha;rw[gU];simp
    ·rw[gR ha];exact z,fun _ _=>rfl⟩
   exact S1.skd.trans this
  ·refine⟨E1.mono (fun b o e n=>by rw[gR (by intro z;subst z;exact n B.td)];exact e) (fun _ _ z=>z) (fun a z=>?_),B.td,?_⟩
   ·by_cases ha:a=d
    ·subst ha;rw[gU];trivial
    ·rw[gR ha];exact E1.dom a z
   ·rw[gU,zh]
 |_=>cases e
end
def qJ(caps:hJ)(k:Nat)(fi:FIt)(tg:Tg)(ti:FT)(fb:FB):F:=fun δ=>(fi δ).bind fun p=>(iR p.2 (caps.map .slot)).bind fun args=>
 if(gP (caps.map .slot) args).Nodup then(kY tg ti fb p.1 [] (args.map some++List.replicate k none)).bind fun q=>some ((.int (lZ q.1).2,false),wb (caps.map .slot) args (hE args q.2) p.2) else none
theorem Hq{K:gQ}{caps:hJ}{k:Nat}{fi:FIt}{tg:Tg}{ti:FT}{fb:FB}{σ:L2.St}{H:Hp}{Q:VK}(h:tF K (qJ caps k fi tg ti fb) σ H Q):
  Au (tI K (fun i=>i∉caps) fi) (tG K (fun i=>caps.length<=i) tg) (tT K ti) (fun d=>DQ K (fun i=>caps.length<=i) d fb) (uU caps k) σ H (fun x H1=> ∃S n,∃a,x= .ref a/\H1 a=some (.set S n)/\Q (.int n) H1):=by
 obtain⟨δ,T,rr,δr,E,e,kq⟩:=h;obtain⟨⟨ds,δ1⟩,h1,e⟩:=gk e;obtain⟨args,ha,e⟩:=gk e;dsimp only at e ha;split at e
 case isFalse=>cases e
 rename_i nd;obtain⟨⟨acc,δ'⟩,h2,e⟩:=gk e;obtain⟨rfl,rfl⟩:=gJ e;refine⟨δ,T,ds,δ1,E,h1,fun J H1 K1 E1 ok d hd=>?_⟩;obtain⟨hl,hg⟩:=kQ ha;have fF:args.length=caps.length:=by simpa using hl
 let vs:List V:=caps.map fun j=>((σ[j]?).join).getD .non
 have there: ∀(i j:Nat),caps[i]?=some j-> ∃v,σ[j]?=some (some v):=fun i j hj=>by
  have hi:i<args.length:=by have:=(pQ.mp hj).1;omega
  obtain⟨o,q1,q2⟩:=hg i _ (iM hi);rw[iO,hj] at q1;cases q1;have q3:=mI q2;generalize args[i]=y at q3;obtain⟨x,b⟩:=y
  cases b with
  |false=>obtain⟨v,h,_⟩:=E1.val j x q3;exact⟨v,h⟩
  |true=>obtain⟨a,h,_⟩:=E1.own j x q3;exact⟨_,h⟩
 have dE: ∀(i j:Nat),caps[i]?=some j-> ∃v,vs[i]?=some v/\σ[j]?=some (some v):=fun i j hj=>by
  obtain⟨v,hv⟩:=there i j hj;refine⟨v,?_,hv⟩;show(caps.map fun j=>((σ[j]?).join).getD .non)[i]?=some v;rw[iO,hj];simp[hv]
 have ak:uU caps k σ=vs.map some++List.replicate k none:=by
  unfold uU
  congr 1
  apply rO;intro i;show _=((caps.map fun j=>((σ[j]?).join).getD .non).map some)[i]?;rw[iO,iO,iO]
  cases hj:caps[i]? with
  |none=>rfl
  |some j=>obtain⟨v,hv⟩:=there i j hj;simp[hv]
 have B0:Ops K T σ δ1 H1 (caps.map Opd.slot) vs δ1 H1 T:=by
  refine⟨by simp[vs],.refl,E1,fun _ z=>z,fun j x v hj=>?_,fun j x v hj=>?_,fun j i v hj hv=>?_⟩
  ·rw[iO] at hj;obtain⟨_,_,z⟩:=hZ hj;cases z
  ·rw[iO] at hj;obtain⟨_,_,z⟩:=hZ hj;cases z
  ·rw[iO] at hj;obtain⟨c,hc,z⟩:=hZ hj;cases z;obtain⟨v',q1,q2⟩:=dE j i hc;rw[hv] at q1;cases q1;exact q2
 have Ec:=ug E1 B0 ha nd
 have hA: ∀(i:Nat) x,args[i]?=some (x,true)-> ¬(caps.length<=i):=fun i x hx=>by
  have:=(pQ.mp hx).1;omega
 rw[ak];have hx:=kM (o:= .set (fun _=>false) 0) hd
 have nz: ∀a,H1 a≠none->upd H1 d (.set (fun _=>false) 0) a≠none:=fun a z=>by
  cases hh:H1 a with
  |none=>exact absurd hh z
  |some o=>rw[hx a o hh];simp
 have b0:BSs K d (fun a=>Tc T σ δ1 vs args a\/a=d) (vs.map some++List.replicate k none) (args.map some++List.replicate k none) [] (upd H1 d (.set (fun _=>false) 0)):=by
  refine⟨(Ec.pad).mono (fun b o eb _=>hx b o eb) (fun b hb z=>z.elim id fun z=>by subst z;exact absurd hd hb) (fun a z=>?_),.inr rfl,gU⟩;rcases z with z|z
  ·exact(Ec.dom a z).up (hx a)
  ·subst z;rw[gU];trivial
 refine J2 (fun _ _ _ _ h=>h) (fun _ _ _ h=>h) (fun _ _ _ h=>h) b0 _ _ ok (fun a o ea _=>hx a o ea) (fun a cN z=>?_) (fun a cN z=>?_) nz h2 fun σ' H2 S2 B2=>?_
 ·rcases z with z|z
  ·obtain⟨j,x,g1,g2⟩:=GY.mp z;obtain⟨i,_,q1,_,q3⟩:=zt B0 ha ⟨x,g1,g2⟩;refine .inl ⟨i,fun n=>n ?_,q3⟩;rw[iO] at q1;obtain⟨c,hc,e⟩:=hZ q1;cases e;exact kF hc
  ·subst z;exact absurd hd cN
 ·rcases z with z|z|z
  ·exact .inl (Ce B0 ha (GY.mp z))
  ·rcases z with z|z
   ·exact .inr z
   ·exact .inl z.1
  ·subst z;exact absurd hd cN
 ·have SS:SK (fun i=>caps.length<=i) (vs.map some++List.replicate k none) (args.map some++List.replicate k none) H1 σ' δ' H2:=
   ⟨fun a o ea n=>S2.kp a o (hx a o ea) n (by intro z;subst z;rw[ea] at hd;cases hd),fun i a z=>(S2.owi i a z).imp id fun z=>by
    cases hh:H1 a with
    |none=>rfl
    |some o=>exact absurd z (nz a (by rw[hh];simp)),fun a z=>S2.dm a (nz a z),S2.as⟩
  have P:=qK (r:=(.int (lZ acc).2,false)) (v:= .int (lZ acc).2) Ec SS hA ⟨B2.er.mono (fun _ _ e _=>e) (fun b _ z=> .inl z) (fun a z=>B2.er.dom a (.inl z)),Rep.mkInt⟩;exact⟨_,_,d,rfl,B2.at',kq (.int (lZ acc).2) H2 ((yw E1 B0 ha nd P).pre K1)⟩
section
variable {X:Cx}{elt:gx}{c:pI}{hG:pj}{scope:ip}{pos pos' p:Pos}{N':gT}{caps:hJ}{k:Nat}{fi:FIt}{tg:Tg}{ti:FT}{fb:FB}
theorem Hv:ju X (.builtin "len") (fun xs H Q=> ∃S n,∃a,xs=[.ref a]/\H a=some (.set S n)/\Q (.int n) H):=by
 intro pins s σ H xs us Q I r h;obtain⟨S,n,a,rfl,e,q⟩:=h;obtain⟨u,rfl,ru⟩:=rh r;cases ru;obtain⟨o,es,ep,t,ho,hex,hd,_,_,hb,hf,hn⟩:=(show s.heap.SetOf (intKind X.prog X.w) a S n from I.hok a _ e)
 have h63:(es.size:Int)<2^63:=by
  have:scanBound=4096:=rfl;omega
 refine call_len_set ho hex hd hf h63 ⟨.int n,H,?_,⟨_,by rw[hn]⟩,q⟩;exact(I.tok _)
theorem GN{z:Str}(C:CompOk X N' scope caps k)(hc:X.calm=true)(ha:c.is_async=0)(x9: ∀g',hG[0]?=some g'->g'.is_async=0)
  (hs: ∀x,foldedSetIterable c.iter X.env x=pure x)(pi:PIX X (fun i=>i∉caps) c.target c.iter fi)
  (ay: ∀(cl:ji) (C:gm) (s3:gu) (H3:Hp) (fp:jo) (pins:gZ),let X':=X.comp N' scope cl C s3 H3 fp pins
   PGX X' (fun i=>caps.length<=i) c.target tg/\PIf X' c.ifs (tT X.K ti)/\ ∀d,PB X' (iQ (.SetComp elt (c::hG) scope pos) 0 (.ref d) X'.env) (DQ X.K (fun i=>caps.length<=i) d fb))
  (hg:Gl X z)(hm:X.mg z=none)(hv:bootBuiltins z=some (.builtin "len"))(hn:z≠"__name__")(m9:(z==("__debug__":Str))=false)
  (h1:starEach [.SetComp elt (c::hG) scope pos] X.env=(false,eval (.SetComp elt (c::hG) scope pos) X.env)::starEach [] X.env)(j5:(backTo pos' (starEach [] X.env)).any (·.1)=false):
  PX X (.Call (.Name z p) [.SetComp elt (c::hG) scope pos] [] pos') (qJ caps k fi tg ti fb):=
 PX.imp (tK Hv hg hm hv (kN (JC (g:=tG X.K (fun i=>caps.length<=i) tg) (ti:=tT X.K ti) (tb:=fun d=>DQ X.K (fun i=>caps.length<=i) d fb) C.sco hc ha x9 hs pi ay) nW h1) hn m9 h1 j5) fun σ H Q h=>by
  have q:=Hq h
  have mono: ∀{Q1 Q2:VK},(∀v H,Q1 v H->Q2 v H)->Au (tI X.K (fun i=>i∉caps) fi) (tG X.K (fun i=>caps.length<=i) tg) (tT X.K ti) (fun d=>DQ X.K (fun i=>caps.length<=i) d fb) (uU caps k) σ H Q1->Au (tI X.K (fun i=>i∉caps) fi) (tG X.K (fun i=>caps.length<=i) tg) (tT X.K ti) (fun d=>DQ X.K (fun i=>caps.length<=i) d fb) (uU caps k) σ H Q2:=by
   rintro Q1 Q2 hq ⟨δ,T,ds,δ1,E,h1,kk⟩;refine⟨δ,T,ds,δ1,E,h1,fun J H1 K1 E1 ok d hd=>?_⟩;obtain⟨W,w0,step⟩:=kk J H1 K1 E1 ok d hd;refine⟨W,w0,fun i m σ2 H2 w=>?_⟩;rcases step i m σ2 H2 w with⟨s1,s2⟩|s
   ·exact .inl ⟨s1,hq _ _ s2⟩
   ·exact .inr s
  exact mono (fun v H1 ⟨S,n,a,e,h2,h3⟩=>⟨S,n,a,by rw[e],h2,h3⟩) q
end
end PX
namespace HT
open PySem PySem.Spec PyProof.Rows L2
section
variable {prog:gM}{w:gE}{A:gG}{E:hV}{s:gu}
theorem E6(n:Nat):Builtin.Slice.sliceAdjust none none (-1) (n:Int)=((n:Int)-1, -1):=by
 unfold Builtin.Slice.sliceAdjust;rfl
theorem D5(n:Nat):Builtin.Slice.slicePlaces ((n:Int)-1) (-1) (-1)=n:=by
 unfold Builtin.Slice.slicePlaces;rw[gC (by decide)];by_cases h:n=0
 ·subst h;rfl
 ·rw[gz (by omega)];simp only[Int.neg_neg,Int.ediv_one];omega
theorem Km{α β:Type}{f:α->Option β}{g:α->β}: ∀{l:List α},(∀m∈l,f m=some (g m))->l.filterMap f=l.map g
 |[],_=>rfl
 |x::l,h=>by rw[List.filterMap_cons_some (h x (iN ..)),iY,Km fun m hm=>h m (iK _ hm)]
theorem Jy(xs:kg):((List.range xs.size).filterMap fun(m:Nat)=>xs[((xs.size:Int)-1+(m:Int)*(-1)).toNat]?).toArray=xs.toList.reverse.toArray:=by
 congr 1
 have e:(List.range xs.size).filterMap (fun(m:Nat)=>xs[((xs.size:Int)-1+(m:Int)*(-1)).toNat]?)=(List.range xs.size).map fun m=>xs.toList.reverse.getD m .none:=by
  refine Km fun m hm=>?_;have hm:=sQ.1 hm;have:((xs.size:Int)-1+(m:Int)*(-1)).toNat=xs.size-1-m:=by omega
  rw[this];have h2:xs.size-1-m<xs.size:=by omega
  simp[hm,h2,List.getElem_reverse]
 rw[e];apply rO;intro i;by_cases hi:i<xs.size
 ·simp[hi]
 ·simp[hi]
theorem uS{sl:gm}{t:Tok}{n:Nat}{Q:Int×Int×Nat->Shared->Prop}(hs:s.heap.IsSliceOf sl .none .none (.int (-1) t))
  (h:Q ((n:Int)-1, -1,n) s):wpAny (model prog w) A (Builtin.Slice.sliceApplied (.ref sl) (pure (n:Int))) Q E s:=by
 obtain⟨os,aG,cK,bB⟩:=id hs;unfold Builtin.Slice.sliceApplied Builtin.Slice.sliceFields;refine gw (gw (uJ aG bB (x:= .none) rfl (gw (uJ aG bB (x:= .none) rfl (gw (uJ aG bB (x:= .int (-1) t) rfl (gA ?_)))))));refine gw (slicePart_int ?_);show wpAny _ _ (if((-1:Int)==0)=true then _ else _) _ _ s;rw[gC (by decide)];refine gw (Am (gw (Am (gw (gA ?_)))));show wpAny _ _ (match Builtin.Slice.sliceAdjust none none (-1) (n:Int) with|(lo,hi)=>pure (lo,(-1:Int),Builtin.Slice.slicePlaces lo hi (-1))) _ _ s;rw[E6 n];show wpAny _ _ (pure ((n:Int)-1,(-1:Int),Builtin.Slice.slicePlaces ((n:Int)-1) (-1) (-1))) _ _ s;rw[D5];exact gA h
theorem EA(ht:IsTup s.heap t items)(hs:s.heap.IsSliceOf sl .none .none (.int (-1) u))
  (h:Q (.ref s.heap.objs.size) {s with heap:=s.heap.push {cls:= .type "tuple",data:= .seq items.toList.reverse.toArray}})
  (cU:items.size<=sizeLine):wpAny (model prog w) A (getItem (.ref t) (.ref sl)) Q E s:=by
 have o6:sizeOk (.seq items.toList.reverse.toArray):=by
  show items.toList.reverse.toArray.size<=sizeLine;rw[jc,C8,jv];exact cU
 obtain⟨os,aG,cK,bB⟩:=id hs;have dM:s.TypeIs (.ref sl) "slice":=⟨os,aG,cK⟩
 unfold getItem
 try with_reducible refine lY ?_
 first|refine gw (gA ?_)|skip
 refine gw (Dx ht.typeIs (by decide) ?_)
 refine gw (wC (name:=Str.ofString "__getitem__") ht.typeIs vZ
  (pO vZ ht.typeIs Dw ?_ (Dv _ _)))
 show wpAny _ _ (Builtin.Tuple.tupleItemsOf (.ref t)>>=_) _ _ s;refine gw (Du ht ?_);refine gw (vq dM ?_);rw[gz (by decide)];refine gw (uS hs ?_);show wpAny _ _ (if((((items.size:Int)-1)==0&&(-1:Int)==1&&items.size==items.size)=true) then _ else _) _ _ s;rw[gC (by simp),Jy]
 first
  |exact gw (m:=Builtin.Tuple.tupleExact _) (mB (gA ⟨_,rfl,gA h⟩) o6)
  |exact gw (m:=Builtin.Tuple.tupleExact _) (mB (gw (gA (gA ⟨_,rfl,gA h⟩))) o6)
  |exact gw (gw (m:=Builtin.Tuple.tupleExact _) (mB (gA (gA ⟨_,rfl,gA h⟩)) o6))
  |exact gw (gw (m:=Builtin.Tuple.tupleExact _) (mB (gA ⟨_,rfl,gA h⟩) o6))
end
end HT
namespace L2
open PySem PySem.Spec PyProof.Rows
section
variable {X:Cx}{e st:gx}{te ts:TE}{pos p2:Pos}
def Sk(K:gQ)(te ts:TE):TE:=fun σ H Q=>te σ H fun x H1=>ts σ H1 fun y H2=>y= .int (-1)/\ ∃a xs,x= .ref a/\SqT K H2 a xs/\ ∀p,H2 p=none->Q (.ref p) (upd H2 p (.tup xs.reverse))
theorem BX(he:PE X e te)(u9:PE X st ts):PE X (.Subscript e (.Slice none none (some st) p2) pos) (Sk X.K te ts):=by
 intro pins s σ H Q I h;refine Subscript_ (thn (he pins s σ H _ I h) fun v s1 ⟨x,H1,I1,r1,q1⟩=>?_);refine wpAny_Slice ?_;rw[Dt];refine gA (gA ?_);rw[evalPart_some];refine thn (u9 pins s1 σ H1 _ I1 q1) fun u s3 ⟨y,H3,I3,ry,ey,a,xs,ex,hx,q⟩=>?_;subst ey ex;obtain⟨t,rfl⟩:=ry;cases r1;have I4:Inv X pins σ H3 {s3 with heap:=s3.heap.push {cls:= .type "slice",data:= .fields #[.none,.none,.int (-1) t]}}:=I3.kept (t':=s3.toks) fun b ob q=>iB _ q;obtain⟨b6,r,ht,hz⟩:=I4.tuple hx;have hlen:b6.toArray.size=xs.length:=by rw[jc];exact r.length.symm
 show wpAny (model X.prog X.w) X.A (subscriptTail e (.Slice none none (some st) p2) (.ref a) (.ref s3.heap.objs.size)) (EP X pins σ Q) X.xe {s3 with heap:=s3.heap.push {cls:= .type "slice",data:= .fields #[.none,.none,.int (-1) t]}};refine tail_any (ops:=[.ref a,.ref s3.heap.objs.size]) ht.typeIs vZ.lookup (HT.EA ht (Heap.IsSliceOf.new ..) ?_ (by rw[hlen];exact hz)) (by with_unfolding_all rfl);refine⟨.ref _,_,I4.laid (t':=s3.toks) (o:= .tup xs.reverse) (fun b ob q=>iB _ q) (ic _) ?_,rfl,q _ (I4.hok.fresh (ic _))⟩;exact⟨by rw[C8];exact hz,_,r.reverse,uN _ _⟩
end
end L2
namespace PX
open PySem PySem.Spec PyProof.Rows L2 PySem.SeqAt
def Rm:D->Option (D×Bool)
 | .tup l=>some (.tup l.reverse,false)
 |_=>none
theorem RepL.reverse{K H}{O:AP'}: ∀{l:List D} {vs:List V},RepL K H O l vs->RepL K H O l.reverse vs.reverse
 |[],vs,h=>by rw[RepL] at h;subst h;exact RepL.nil
 |d::l,vs,h=>by
  rw[RepL] at h;obtain⟨v,r,rfl,h1,h2⟩:=h;rw[wB,wB];exact(RepL.reverse h2).append (RepL.one h1)
def Ks(fa fs:FO):F:=fun δ=>(fa δ).bind fun p=>(fs p.2).bind fun q=>match res q.2 q.1 with
 |some (.int i)=>if i= -1 then(res q.2 p.1).bind fun x=>(Rm x).bind fun z=>some (z,q.2) else none
 |_=>none
section
variable {X:Cx}{a st:gx}{fa fs:FO}{pos p2:Pos}
theorem N6(ha:PO X a fa)(hs:PO X st fs):PX X (.Subscript a (.Slice none none (some st) p2) pos) (Ks fa fs):=
 PX.imp (BX ha hs) fun σ H Q hw=>by
  obtain⟨δ,T,rr,δ',E,e,k⟩:=hw;unfold Ks at e;obtain⟨⟨o1,δ1⟩,h1,e⟩:=gk e;obtain⟨⟨o2,δ2⟩,h2,e⟩:=gk e;dsimp only at e;split at e
  ·rename_i i hi;split at e
   case isFalse=>cases e
   rename_i hi1;subst hi1;obtain⟨x,hx,e⟩:=gk e;obtain⟨z,hz,e⟩:=gk e;obtain⟨rfl,rfl⟩:=gJ e;refine⟨δ,T,o1,δ1,E,h1,fun v H1 P1=>⟨δ1,vO T o1 v,o2,δ2,P1.er E,h2,fun u H2 P2=>?_⟩⟩;have B:=Ops.cons E P1 (Ops.cons (P1.er E) P2 (Ops.nil (P2.er (P1.er E))));have hv:=B.view (j:=0) rfl rfl hx;refine⟨gS (B.view (j:=1) rfl rfl hi),?_⟩
   cases x with
   |tup l=>
    cases hz;rcases hv with hv|⟨_,_,hv⟩
    ·obtain⟨p,xs,rfl,q,r⟩:=hv.tup;exact⟨p,xs,rfl,q.sq,fun p' hp=>(B.done k).tup hp (B.np (nOw hp)) r.reverse⟩
    ·exact hv.elim
   |_=>cases hz
  ·cases e
end
section
variable {es:jf}{env:Env}
end
end PX
namespace TT
open PySem
def S:Nat->Nat
 |0=>0
 |n+1=>5*S n+1
theorem Gv(m:Nat): ∀n:Nat,S (m+n)=5^n*S m+S n
 |0=>by simp[S]
 |n+1=>by
  rw[<-Nat.add_assoc,S,Gv m n,S,sC,rL,<-sA,uy 5 (5^n)];lia
theorem yi: ∀n:Nat,∃c,5^n=4*c+1
 |0=>⟨0,rfl⟩
 |n+1=>by
  obtain⟨c,e⟩:=yi n;exact⟨5*c+1,by rw[sC,e];lia⟩
theorem KO: ∀k:Nat,∃c,S (2^k)=2^k*(2*c+1)
 |0=>⟨0,rfl⟩
 |k+1=>by
  obtain⟨c,e⟩:=KO k;obtain⟨d,f⟩:=yi (2^k)
  have h:S (2^(k+1))=(5^2^k+1)*S (2^k):=by
   rw[sC,Nat.mul_two,Gv,C7,C6]
  refine⟨2*(d*c)+d+c,?_⟩;rw[h,f,e,sC];have:4*d+1+1=2*(2*d+1):=by lia
  rw[this,sA 2,uy (2*d+1),sA (2^k),sA (2^k),<-sA 2 (2^k),uy 2 (2^k),sA (2^k) 2]
  congr 2
  rw[C7,rL,C6,ux,sA 2 c,Aa c 2 d,uy c d]
  lia
theorem KP(k n:Nat):S (2^k+n)%2^k=S n%2^k:=by
 obtain⟨c,e⟩:=KO k;rw[Gv,e,Aa,Nat.mul_add_mod]
theorem Bc: ∀(k e:Nat),e<2^k-> ∃n,n<2^k/\S n%2^k=e
 |0,e,h=>⟨0,by simp,by simp at h;subst h;rfl⟩
 |k+1,e,h=>by
  have hP:0<2^k:=Nat.two_pow_pos k;obtain⟨n,hn,hs⟩:=Bc k (e%2^k) (uw _ hP);obtain⟨c,e1⟩:=KO k;obtain⟨d,e2⟩:=yi n
  have h2:S (2^k+n)=2^(k+1)*(4*d*c+2*d+c)+2^k+S n:=by
   rw[Gv,e1,e2,sC,Aa,sA (2^k) 2]
   have:(4*d+1)*(2*c+1)=2*(4*d*c+2*d+c)+1:=by
    rw[C7,rL,C6,ux,Aa (4*d) 2 c];lia
   rw[this,rL,ux]
  rw[sC] at h h2 ⊢;generalize 2^k=P at*;have d1:=Nat.div_add_mod (S n) P;have d2:=Nat.div_add_mod e P;rw[hs] at d1;have hq:e / P<2:=Nat.div_lt_of_lt_mul (by rw[uy] at h;lia)
  have mk: ∀a q x,a=P*2*q+x->x<P*2->a%(P*2)=x:=fun a q x h1 h2=>by
   rw[h1,Nat.mul_add_mod,Nat.mod_eq_of_lt h2]
  have hm:=uw e hP;have q2:S n / P=2*(S n / P / 2)+S n / P%2:=by lia
  have sn:S n=P*2*(S n / P / 2)+(P*(S n / P%2)+e%P):=by
   rw[sA,<-Nat.add_assoc,<-rL,<-q2];exact d1.symm
  generalize S n / P / 2=q at sn;have r2:S n / P%2<2:=uw _ (by decide);generalize S n / P%2=r at sn r2;generalize e / P=f at*;by_cases hr:r=f
  ·exact⟨n,by lia,mk _ q _ (by rw[sn,hr,d2]) h⟩
  ·refine⟨P+n,by lia,mk _ (4*d*c+2*d+c+q+r) _ ?_ h⟩;rw[h2,sn,rL (P*2) _ r,rL (P*2) _ q];rcases(show r=0\/r=1 by lia) with rfl|rfl
   ·have:f=1:=by lia
    subst this;rw[C5,C5];rw[ux] at d2;lia
   ·have:f=0:=by lia
    subst this;rw[ux,ux];rw[C5] at d2;lia
def ls(mask:Nat)(h:Int):Nat->Nat×Nat
 |0=>(SetTable.bits h%(mask+1),SetTable.bits h)
 |k+1=>SetTable.leap mask (ls mask h k).1 (ls mask h k).2
theorem MK(h:Int):SetTable.bits h<2^64:=by
 unfold SetTable.bits;have:=C4 h (show(0:Int)<2^64 by decide);have:=C3 h (show(2^64:Int)≠0 by decide)
 lia
theorem F1(mask:Nat)(h:Int): ∀k,(ls mask h k).1<=mask
 |0=>by have:=uw (SetTable.bits h) (show 0<mask+1 by lia);show _%(mask+1)<=_;lia
 |k+1=>by
  show(_%(mask+1))<=_;have:=uw ((ls mask h k).1*5+1+(ls mask h k).2 / 32) (show 0<mask+1 by lia);lia
theorem FZ(mask:Nat)(h:Int): ∀k,(ls mask h k).2=SetTable.bits h / 32^k
 |0=>by simp[ls]
 |k+1=>by
  show(ls mask h k).2 / 32=_;rw[FZ mask h k,sC,Nat.div_div_eq_div_mul]
theorem Mo(mask:Nat)(h:Int)(k:Nat)(hk:13<=k):(ls mask h k).2=0:=by
 rw[FZ];refine Nat.div_eq_of_lt (lK (MK h) ?_);exact ll (show 2^64<=32^13 by decide) (wg (by decide) hk)
theorem J1(mask:Nat)(h:Int)(m:Nat)(h0:(ls mask h 13).1=S m%(mask+1)): ∀n,(ls mask h (13+n)).1=S (m+n)%(mask+1)
 |0=>h0
 |n+1=>by
  show(((ls mask h (13+n)).1*5+1+(ls mask h (13+n)).2 / 32)%(mask+1))=_;rw[Mo mask h _ (by lia),J1 mask h m h0 n,Nat.zero_div,Df,<-Nat.add_assoc m n 1,S,Nat.add_mod,Nat.mod_mul_mod,<-Nat.add_mod,uy 5]
theorem Cd(hk:mask+1=2^k)(h:Int)(he:e<=mask): ∃n,n<mask+14/\(ls mask h n).1=e:=by
 have hl:=F1 mask h 13;obtain⟨m,hm,em⟩:=Bc k (ls mask h 13).1 (by lia);obtain⟨q,hq,eq⟩:=Bc k e (by lia);rw[<-hk] at em eq hm hq;have far:=J1 mask h m em.symm;by_cases hqm:m<=q
 ·exact⟨13+(q-m),by lia,by rw[far,show m+(q-m)=q by lia];exact eq⟩
 ·refine⟨13+(q+(mask+1)-m),by lia,?_⟩;rw[far,show m+(q+(mask+1)-m)=2^k+q by lia,hk,KP,<-hk];exact eq
theorem DY(mask i:Nat)(h:i<=mask):i<=SetTable.runEnd mask i/\SetTable.runEnd mask i<=mask/\SetTable.runEnd mask i<=i+9:=by
 unfold SetTable.runEnd;split<;>lia
def tm(mask:Nat)(h:Int):Nat->Nat
 |0=>0
 |k+1=>tm mask h k+(SetTable.runEnd mask (ls mask h k).1-(ls mask h k).1)+1
theorem M5(mask:Nat)(h:Int): ∀k,tm mask h k<=10*k
 |0=>ic _
 |k+1=>by
  have:=M5 mask h k;have:=DY mask _ (F1 mask h k);unfold tm;lia
def at_(mask:Nat)(h:Int)(k t:Nat):SetTable.Probe:=⟨(ls mask h k).1+t,SetTable.runEnd mask (ls mask h k).1-(ls mask h k).1-t,(ls mask h k).1,(ls mask h k).2,none⟩
theorem rX(mask:Nat)(h:Int): ∀k t,t<=SetTable.runEnd mask (ls mask h k).1-(ls mask h k).1->pr mask h (tm mask h k+t)=at_ mask h k t
 |0,0,_=>rfl
 |k+1,0,_=>by
  have e:=rX mask h k (SetTable.runEnd mask (ls mask h k).1-(ls mask h k).1) (ic _);show adv mask (pr mask h (tm mask h k+(SetTable.runEnd mask (ls mask h k).1-(ls mask h k).1)))=_;rw[e];unfold adv at_;simp only[Nat.sub_self,pP,iX,gt_iff_lt];rfl
 |k,t+1,ht=>by
  have e:=rX mask h k t (by lia);show adv mask (pr mask h (tm mask h k+t))=_;rw[e];unfold adv at_;rw[gz (show SetTable.runEnd mask (ls mask h k).1-(ls mask h k).1-t>0 by lia)];simp only[SetTable.Probe.mk.injEq,and_true,true_and]
  lia
theorem Jt(hk:mask+1=2^k)(h:Int)(he:e<=mask): ∃n,n<10*(mask+14)/\(pr mask h n).j=e:=by
 obtain⟨r,hr,er⟩:=Cd hk h he;have:=M5 mask h r;refine⟨tm mask h r,by lia,?_⟩;have:=rX mask h r 0 (lI _);rw[Df] at this;rw[this];exact er
theorem Js(mask:Nat)(h:Int): ∀n,(pr mask h n).dummy=none
 |0=>rfl
 |n+1=>by
  show(adv mask (pr mask h n)).dummy=none;unfold adv;split<;>exact Js mask h n
theorem BV(mask:Nat)(h:Int): ∀n,∃k t,n=tm mask h k+t/\t<=SetTable.runEnd mask (ls mask h k).1-(ls mask h k).1
 |0=>⟨0,0,rfl,lI _⟩
 |n+1=>by
  obtain⟨k,t,e,ht⟩:=BV mask h n;by_cases hq:t+1<=SetTable.runEnd mask (ls mask h k).1-(ls mask h k).1
  ·exact⟨k,t+1,by lia,hq⟩
  ·exact⟨k+1,0,by unfold tm;lia,lI _⟩
theorem Jr(mask:Nat)(h:Int)(n:Nat):(pr mask h n).j<=mask:=by
 obtain⟨k,t,e,ht⟩:=BV mask h n;rw[e,rX mask h k t ht];have:=DY mask _ (F1 mask h k);show(ls mask h k).1+t<=mask;lia
theorem AD{xs:jB}(hr:xs.toList.Pairwise (· < ·)){i j:Nat}{a b:Nat}(o4:i<j)(h1:xs[i]?=some a)(h2:xs[j]?=some b):a<b:=by
 rw[<-lj] at h1 h2;obtain⟨hi,rfl⟩:=pQ.mp h1;obtain⟨hj,rfl⟩:=pQ.mp h2;exact Fc.mp hr i j hi hj o4
theorem yz{xs:jB}(hr:xs.toList.Pairwise (· < ·))(j:Nat): ∀(fuel lo hi:Nat),lo<=hi->hi<=xs.size->hi-lo<=fuel->
  (∀i a,i<lo->xs[i]?=some a->a<j)->(∀i a,hi<=i->xs[i]?=some a->j<=a)->
  let p:=SetTable.below.go xs j fuel lo hi
  p<=xs.size/\(∀i a,i<p->xs[i]?=some a->a<j)/\(∀i a,p<=i->xs[i]?=some a->j<=a)
 |0,lo,hi,h1,h2,h3,h4,h5=>by
  have:lo=hi:=by lia
  subst this;exact⟨h2,h4,h5⟩
 |fuel+1,lo,hi,h1,h2,h3,h4,h5=>by
  unfold SetTable.below.go;by_cases k6:lo<hi
  ·rw[gz k6];have hm:(lo+hi) / 2<xs.size:=by lia
   have hg:xs[(lo+hi) / 2]?=some xs[(lo+hi) / 2]:=mO hm;have hd:xs.getD ((lo+hi) / 2) j=xs[(lo+hi) / 2]:=by simp[Array.getD,hm]
   dsimp only;rw[hd];by_cases hc:xs[(lo+hi) / 2]<j
   ·rw[gz hc];refine yz hr j fuel ((lo+hi) / 2+1) hi (by lia) h2 (by lia) (fun i a cZ ha=>?_) h5;by_cases e:i=(lo+hi) / 2
    ·subst e;rw[hg] at ha;cases ha;exact hc
    ·exact wy (AD hr (by lia) ha hg) hc
   ·rw[gC hc];refine yz hr j fuel lo ((lo+hi) / 2) (by lia) (by lia) (by lia) h4 (fun i a cZ ha=>?_);by_cases e:i=(lo+hi) / 2
    ·subst e;rw[hg] at ha;cases ha;lia
    ·have:=AD hr (show(lo+hi) / 2<i by lia) hg ha;lia
  ·rw[gC k6];have:lo=hi:=by lia
   subst this;exact⟨h2,h4,h5⟩
theorem nk{xs:jB}(hr:xs.toList.Pairwise (· < ·))(j:Nat):SetTable.below xs j<=xs.size/\(∀i a,i<SetTable.below xs j->xs[i]?=some a->a<j)/\(∀i a,SetTable.below xs j<=i->xs[i]?=some a->j<=a):=
 yz hr j xs.size 0 xs.size (lI _) (ic _) (by lia) (fun i a h=>by lia) (fun i a h1 h2=>by
  have:=(K0.mp h2).1;lia)
theorem yA{xs:jB}(hr:xs.toList.Pairwise (· < ·)){i j:Nat}(h:xs[i]?=some j):SetTable.below xs j=i:=by
 obtain⟨h1,h2,h3⟩:=nk hr j;by_cases hl:i<SetTable.below xs j
 ·exact absurd (h2 i j hl h) (pP _)
 ·by_cases hg:SetTable.below xs j<i
  ·have hi:=(K0.mp h).1;have hb:xs[SetTable.below xs j]?=some xs[SetTable.below xs j]:=mO (by lia);have:=h3 _ _ (ic _) hb;have:=AD hr hg hb h
   lia
  ·lia
theorem AV(j:Nat):SetTable.has #[] j=false:=rfl
theorem ou{t:kE}(hr:t.place.toList.Pairwise (· < ·)){i j:Nat}(h:t.place[i]?=some j):t.slot j= .live i:=by
 unfold SetTable.slot;dsimp only;rw[yA hr h,h];simp
theorem DS{t:kE}(hd:t.dummies= #[]){j:Nat}(h:j∉t.place.toList):t.slot j= .empty:=by
 unfold SetTable.slot;dsimp only
 have:(t.place[SetTable.below t.place j]?==some j)=false:=by
  rw[yK];intro e;rw[<-lj] at e;exact h (kF e)
 rw[this,hd,AV];rfl
theorem KJ(t:kE)(p:SetTable.Probe):t.advance p=adv t.mask p:=by
 unfold SetTable.advance adv;split<;>rfl
theorem BU{hs:ie}{t:kE}(ok:TabOk hs t)(hashAt:Nat->Int)(h:Int): ∀(fuel n:Nat),(∃M,n<=M/\M<n+fuel/\(pr t.mask h M).j∉t.place.toList)->
    ∃m,n<=m/\(∀q,n<=q->q<m-> ∃i,t.place[i]?=some (pr t.mask h q).j/\hashAt i≠h)/\
      (((pr t.mask h m).j∉t.place.toList/\SetTable.probe.go t hashAt h fuel (pr t.mask h n)=some (.empty (pr t.mask h m).j none))\/
       (∃i,t.place[i]?=some (pr t.mask h m).j/\hashAt i=h/\SetTable.probe.go t hashAt h fuel (pr t.mask h n)=some (.candidate (pr t.mask h m).j i (pr t.mask h (m+1)))))
  |0,n,⟨M,h1,h2,h3⟩=>by lia
  |fuel+1,n,⟨M,h1,h2,h3⟩=>by
    unfold SetTable.probe.go;by_cases hm:(pr t.mask h n).j∈t.place.toList
    · obtain⟨i,hi⟩:=qX hm
      rw[lj] at hi;rw[ou ok.ris hi];dsimp only;by_cases hh:hashAt i=h
      · refine⟨n,ic _,fun q h1 h2=>by lia,.inr ⟨i,hi,hh,?_⟩⟩
        rw[gz (by simpa using hh),KJ];rfl
      · rw[gC (by simpa using hh),KJ]
        have hn:M≠n:=fun e=>h3 (e▸hm);obtain⟨m,g1,g2,g3⟩:=BU ok hashAt h fuel (n+1) ⟨M,by lia,by lia,h3⟩;refine⟨m,by lia,fun q k1 k2=>?_,g3⟩;by_cases e:q=n
        · subst e;exact⟨i,hi,hh⟩
        · exact g2 q (by lia) k2
    · rw[DS ok.dum hm]
      dsimp only;rw[Js];exact⟨n,ic _,fun q h1 h2=>by lia,.inl ⟨hm,rfl⟩⟩
theorem xQ: ∀(n:Nat) (l:hJ),l.length<=n-> ∃e,e<=n/\e∉l
 |0,l,h=>⟨0,ic _,by cases l with|nil=>simp|cons _ _=>simp at h⟩
 |n+1,l,h=>by
  by_cases hm:n+1∈l
  ·obtain⟨e,h1,h2⟩:=xQ n (l.erase (n+1)) (by rw[List.length_erase_of_mem hm];lia);exact⟨e,by lia,fun z=>h2 ((CZ (by lia)).mpr z)⟩
  ·exact⟨n+1,ic _,hm⟩
theorem TabOk.free(ok:TabOk hs t)(h:Int): ∃M,M<10*(t.mask+14)/\(pr t.mask h M).j∉t.place.toList:=by
 obtain⟨k,_,_,hk⟩:=ok.pow
 have h1:t.place.toList.length<=t.mask:=by
  have:=ok.len;have:=ok.room;rw[jv];lia
 obtain⟨e,he,hn⟩:=xQ t.mask _ h1;obtain⟨n,h2,h3⟩:=Jt hk h he;exact⟨n,h2,by rw[h3];exact hn⟩
theorem kn{α:Type}(xs:Array α)(p:Nat)(x:α):(SetTable.insertAt xs p x).toList=xs.toList.take p++x::xs.toList.drop p:=by
 unfold SetTable.insertAt;simp[Array.toList_extract,List.extract];rw[rN (by simp)]
theorem DZ(hr:xs.toList.Pairwise (· < ·))(hj:j∉xs.toList):(SetTable.insertAt xs (SetTable.below xs j) j).toList.Pairwise (· < ·):=by
 obtain⟨h1,h2,h3⟩:=nk hr j;rw[kn,nv];refine⟨hr.sublist (ny _ _),?_,?_⟩
 ·rw[pE];refine⟨fun a ha=>?_,hr.sublist (og _ _)⟩;obtain⟨i,hi⟩:=qX ha;rw[uA] at hi;have h4:=h3 _ _ (show SetTable.below xs j<=SetTable.below xs j+i by lia) (by rw[<-lj];exact hi);have:a≠j:=fun e=>hj (e▸kF hi)
  lia
 ·intro a ha b hb
  have haj:a<j:=by
   obtain⟨i,hi⟩:=qX ha;rw[List.getElem?_take] at hi;split at hi
   ·rename_i k6;exact h2 i a k6 (by rw[<-lj];exact hi)
   ·cases hi
  rcases lq.mp hb with rfl|hb
  ·exact haj
  ·obtain⟨i,hi⟩:=qX hb;rw[uA] at hi;have h4:=h3 _ _ (show SetTable.below xs j<=SetTable.below xs j+i by lia) (by rw[<-lj];exact hi)
   lia
theorem TabOk.fresh(finger moves:Nat)(led:Bool):TabOk [] (SetTable.fresh finger moves led) where
 pow:=⟨3,by lia,by lia,rfl⟩
 dum:=rfl
 len:=rfl
 room:=by show 5*0<3*7;lia
 ris:= .nil
 bd:=fun j h=>by simp[SetTable.fresh] at h
 road:=fun i h j h1=>by simp at h1
theorem TabOk.put(ok:TabOk hs t)(he:(pr t.mask h n).j∉t.place.toList)(hb: ∀m,m<n->(pr t.mask h m).j∈t.place.toList)(hr:5*(hs.length+1)<3*t.mask)(hj:j=(pr t.mask h n).j)(hp:p=SetTable.below t.place j):
  TabOk (hs.take p++h::hs.drop p) (t.put j).1/\(t.put j).2=p:=by
 subst hj;subst hp
 have e1:(t.put (pr t.mask h n).j).1={t with place:=SetTable.insertAt t.place (SetTable.below t.place (pr t.mask h n).j) (pr t.mask h n).j,dummies:= #[]}:=by
  unfold SetTable.put;dsimp only;rw[ok.dum,AV];rfl
 obtain⟨h1,_,_⟩:=nk ok.ris (pr t.mask h n).j;have hl:=ok.len
 have mem: ∀x,x∈t.place.toList->x∈(SetTable.insertAt t.place (SetTable.below t.place (pr t.mask h n).j) (pr t.mask h n).j).toList:=fun x hx=>by
  rw[kn];rw[<-lh (SetTable.below t.place (pr t.mask h n).j) t.place.toList] at hx;rcases nu.mp hx with hx|hx
  ·exact nu.mpr (.inl hx)
  ·exact nu.mpr (.inr (iK _ hx))
 refine⟨?_,rfl⟩;rw[e1];generalize hP:SetTable.below t.place (pr t.mask h n).j=P at*;refine⟨ok.pow,rfl,?_,?_,?_,fun x hx=>?_,fun i h' j' g1 g2=>?_⟩
 ·show(SetTable.insertAt t.place P (pr t.mask h n).j).size=_;rw[<-jv,kn];simp only[mz,jq,pk,rS,jv];lia
 ·show 5*_<3*t.mask;simp only[mz,jq,pk,rS];lia
 ·have:=DZ ok.ris he;rw[hP] at this;exact this
 ·have bx:x∈(SetTable.insertAt t.place P (pr t.mask h n).j).toList:=hx;rw[kn] at bx;show x<=t.mask;rcases nu.mp bx with hx|hx
  ·exact ok.bd x (mx hx)
  ·rcases lq.mp hx with rfl|hx
   ·exact Jr _ _ _
   ·exact ok.bd x (kT hx)
 ·have v9:(SetTable.insertAt t.place P (pr t.mask h n).j).toList[i]?=some j':=by rw[lj];exact g2
  rw[kn] at v9;show ∃n',(pr t.mask h' n').j=j'/\ ∀m,m<n'->(pr t.mask h' m).j∈(SetTable.insertAt t.place P (pr t.mask h n).j).toList;have eW:(t.place.toList.take P).length=P:=by rw[pk,jv];lia
  have lt2:(hs.take P).length=P:=by rw[pk];lia
  by_cases hi:i<P
  ·rw[wD (by lia),Ij hi] at g1 v9;rw[lj] at v9;obtain⟨q,q1,q2⟩:=ok.road i h' j' g1 v9;exact⟨q,q1,fun m hm=>mem _ (q2 m hm)⟩
  ·rw[uK (by lia),eW] at v9;rw[uK (by lia),lt2] at g1
   cases hd:i-P with
   |zero=>
    rw[hd] at g1 v9;simp at g1 v9;subst g1;subst v9;exact⟨n,rfl,fun m hm=>mem _ (hb m hm)⟩
   |succ d=>
    rw[hd] at g1 v9;simp only[List.getElem?_cons_succ,uA] at g1 v9;rw[lj] at v9;obtain⟨q,q1,q2⟩:=ok.road _ h' j' g1 v9;exact⟨q,q1,fun m hm=>mem _ (q2 m hm)⟩
def occ(ow:sx)(j:Nat):Prop:= ∃i,ow.getD j none=some i
theorem AW{ow:sx}{j:Nat}{d:Option Nat}(h:j<ow.size):ow.getD j d=ow.getD j none:=by simp[Array.getD,h]
theorem zB{mask:Nat}{ow:sx}(hz:ow.size=mask+1)(h:Int): ∀(fuel k:Nat),(∃r,k<=r/\r<k+fuel/\ ¬occ ow (ls mask h r).1)->(∀m,m<tm mask h k->occ ow (pr mask h m).j)->
  ∃n,SetTable.layClean.free mask ow fuel (ls mask h k).1 (ls mask h k).2=some (pr mask h n).j/\ ¬occ ow (pr mask h n).j/\ ∀m,m<n->occ ow (pr mask h m).j
 |0,k,⟨r,h1,h2,_⟩,_=>by lia
 |fuel+1,k,⟨r,h1,h2,h3⟩,hb=>by
  unfold SetTable.layClean.free;have hl:=F1 mask h k;have hrn:=DY mask _ hl
  cases hf:(List.range (SetTable.runEnd mask (ls mask h k).1+1-(ls mask h k).1)).find? fun t=>(ow.getD ((ls mask h k).1+t) (some 0)).isNone with
  |some t=>
   rw[List.find?_range_eq_some] at hf;obtain⟨a1,a2,a3⟩:=hf;rw[sQ] at a2;have ht:t<=SetTable.runEnd mask (ls mask h k).1-(ls mask h k).1:=by lia
   have e:=rX mask h k t ht;refine⟨tm mask h k+t,by rw[e];rfl,?_,fun m hm=>?_⟩
   ·rw[e];rintro⟨i,hi⟩;rw[AW (by show(ls mask h k).1+t<_;lia)] at a1;have cZ:ow.getD ((ls mask h k).1+t) none=some i:=hi;rw[cZ] at a1;simp at a1
   ·by_cases k6:m<tm mask h k
    ·exact hb m k6
    ·have e2:=rX mask h k (m-tm mask h k) (by lia);rw[show tm mask h k+(m-tm mask h k)=m by lia] at e2;rw[e2];have:=a3 (m-tm mask h k) (by lia);rw[AW (by show(ls mask h k).1+(m-tm mask h k)<_;lia)] at this;show occ ow ((ls mask h k).1+(m-tm mask h k));unfold occ
     cases hq:ow.getD ((ls mask h k).1+(m-tm mask h k)) none with
     |none=>rw[hq] at this;simp at this
     |some i=>exact⟨i,rfl⟩
  |none=>
   rw[List.find?_range_eq_none] at hf
   have all: ∀t,t<=SetTable.runEnd mask (ls mask h k).1-(ls mask h k).1->occ ow ((ls mask h k).1+t):=fun t ht=>by
    have:=hf t (by lia);rw[AW (by lia)] at this;unfold occ
    cases hq:ow.getD ((ls mask h k).1+t) none with
    |none=>rw[hq] at this;simp at this
    |some i=>exact⟨i,rfl⟩
   have hr:r≠k:=fun e=>h3 (by subst e;have:=all 0 (lI _);simpa using this)
   have:=zB hz h fuel (k+1) ⟨r,by lia,by lia,h3⟩ (fun m hm=>by
    by_cases k6:m<tm mask h k
    ·exact hb m k6
    ·unfold tm at hm;have e2:=rX mask h k (m-tm mask h k) (by lia);rw[show tm mask h k+(m-tm mask h k)=m by lia] at e2;rw[e2];exact all _ (by lia))
   exact this
theorem yh{α β:Type}{f g:α->Option β}: ∀{l:List α},(∀x∈l,f x=g x)->l.filterMap f=l.filterMap g
 |[],_=>rfl
 |x::l,h=>by rw[rf,rf,h x iN,yh fun y hy=>h y (iK _ hy)]
def mY(mask:Nat)(ow:sx):List (Nat×Nat):=(List.range (mask+1)).filterMap fun j=>(ow.getD j none).map (j,·)
theorem KW:(j,i)∈mY mask ow↔j<=mask/\ow.getD j none=some i:=by
 unfold mY;simp only[List.mem_filterMap,sQ,Option.map_eq_some_iff,Prod.mk.injEq];constructor
 ·rintro⟨a,h1,b,h2,rfl,rfl⟩;exact⟨by lia,h2⟩
 ·rintro⟨h1,h2⟩;exact⟨j,by lia,i,h2,rfl,rfl⟩
theorem J5(mask:Nat)(ow:sx):((mY mask ow).map (·.1)).Pairwise (· < ·):=by
 unfold mY;rw[List.map_filterMap,List.pairwise_filterMap];refine KY.imp fun {a b} hab x hx y hy=>?_;simp only[Option.mem_def,Option.map_map,Option.map_eq_some_iff,Function.comp] at hx hy;obtain⟨_,_,rfl⟩:=hx;obtain⟨_,_,rfl⟩:=hy;exact hab
theorem J3{mask:Nat}{ow:sx}(hz:ow.size=mask+1){j k:Nat}(hj:j<=mask)(hn:ow.getD j none=none):(mY mask (ow.setIfInBounds j (some k))).Perm ((j,k)::mY mask ow):=by
 have g: ∀i,(ow.setIfInBounds j (some k)).getD i none=if i=j then some k else ow.getD i none:=fun i=>by
  simp only[vo,zZ];by_cases e:i=j
  ·subst e;simp[show i<ow.size by lia]
  ·rw[gC (fun z=>e z.symm),gC e]
 have split:List.range (mask+1)=List.range j++j::(List.range (mask-j)).map (fun x=>j+1+x):=by
  rw[show mask+1=j+(mask-j+1) by lia,List.range_add,List.range_succ_eq_map];simp[Function.comp_def,Nat.add_assoc,Nat.add_comm 1]
 unfold mY;rw[split,HQ,HQ,rf,rf];simp only[g,hn,gz rfl,Option.map_none,Option.map_some]
 have a1:(List.range j).filterMap (fun i=>(if i=j then some k else ow.getD i none).map (i,·))=(List.range j).filterMap (fun i=>(ow.getD i none).map (i,·)):=
  yh fun i hi=>by rw[sQ] at hi;rw[gC (by lia)]
 have a2:((List.range (mask-j)).map (fun x=>j+1+x)).filterMap (fun i=>(if i=j then some k else ow.getD i none).map (i,·))=((List.range (mask-j)).map (fun x=>j+1+x)).filterMap (fun i=>(ow.getD i none).map (i,·)):=
  yh fun i hi=>by
   obtain⟨x,_,rfl⟩:=oI.mp hi;rw[gC (by lia)]
 rw[a1,a2];exact Bj
structure LayOk(mask:Nat)(hs:ie)(ow:sx):Prop where
 size:ow.size=mask+1
 perm:((mY mask ow).map (·.2)).Perm (List.range hs.length)
 road: ∀j i h,ow.getD j none=some i->hs[i]?=some h-> ∃n,(pr mask h n).j=j/\ ∀m,m<n->occ ow (pr mask h m).j
theorem FU(h:occ ow x):occ (ow.setIfInBounds j (some k)) x:=by
 obtain⟨i,hi⟩:=h;unfold occ;simp only[vo,zZ] at hi ⊢;by_cases e:j=x
 ·subst e;rw[gz rfl];split
  ·exact⟨k,rfl⟩
  ·rename_i hz;rw[CY (by lia)] at hi;simp at hi
 ·rw[gC e];exact⟨i,hi⟩
theorem LayOk.step{mask k:Nat}(hk:mask+1=2^k){hs:ie}{ow:sx}(ok:LayOk mask hs ow)(h:Int)(hr:hs.length<=mask):
  ∃j,SetTable.layClean.free mask ow (SetTable.turns mask) (SetTable.bits h%(mask+1)) (SetTable.bits h)=some j/\LayOk mask (hs++[h]) (ow.setIfInBounds j (some hs.length)):=by
 have hlen:(mY mask ow).length=hs.length:=by have:=ok.perm.length_eq;simpa using this
 obtain⟨e,he,hn⟩:=xQ mask ((mY mask ow).map (·.1)) (by rw[jk];lia)
 have aK: ¬occ ow e:=by
  rintro⟨i,hi⟩;exact hn (oI.mpr ⟨(e,i),KW.mpr ⟨he,hi⟩,rfl⟩)
 obtain⟨r,hr1,fv⟩:=Cd hk h he;obtain⟨n,f1,f2,f3⟩:=zB ok.size h (SetTable.turns mask) 0 ⟨r,lI _,by unfold SetTable.turns;lia,by rw[fv];exact aK⟩ (fun m hm=>by simp[tm] at hm);have hj:=Jr mask h n
 have aY:ow.getD (pr mask h n).j none=none:=by
  cases hq:ow.getD (pr mask h n).j none with
  |none=>rfl
  |some i=>exact absurd ⟨i,hq⟩ f2
 refine⟨_,f1,⟨by rw[Array.size_setIfInBounds];exact ok.size,?_,fun j i h' g1 g2=>?_⟩⟩
 ·refine((J3 ok.size hj aY).map _).trans ?_;rw[iY,mz,uH,List.range_succ];exact(List.Perm.cons _ ok.perm).trans (HP _ _).symm
 ·by_cases hjj:j=(pr mask h n).j
  ·subst hjj
   have:i=hs.length:=by
    simp only[vo,zZ,gz rfl] at g1;rw[gz True.intro,gz (by rw[ok.size];lia)] at g1;exact(iC g1).symm
   subst this;rw[uK (ic _)] at g2;simp at g2;subst g2;exact⟨n,rfl,fun m hm=>FU (f3 m hm)⟩
  ·have dk:ow.getD j none=some i:=by
    simp only[vo,zZ] at g1 ⊢;rw[gC (fun z=>hjj z.symm)] at g1;exact g1
   have hi:i<hs.length:=by
    have hjm:j<=mask:=by
     by_cases q:j<ow.size
     ·have:=ok.size;lia
     ·rw[vo,CY (by lia)] at dk;simp at dk
    have:=ok.perm.mem_iff.mp (oI.mpr ⟨(j,i),KW.mpr ⟨hjm,dk⟩,rfl⟩);exact sQ.mp this
   rw[wD hi] at g2;obtain⟨q,q1,q2⟩:=ok.road j i h' dk g2;exact⟨q,q1,fun m hm=>FU (q2 m hm)⟩
theorem LayOk.start(mask:Nat):LayOk mask [] (Array.replicate (mask+1) none) where
 size:=by simp
 perm:=by
  have:mY mask (Array.replicate (mask+1) none)=[]:=by
   unfold mY;refine List.filterMap_eq_nil_iff.mpr fun j hj=>?_;rw[vo,HN];split<;>rfl
  rw[this];exact vn _
 road:=fun j i h h1=>by
  rw[vo,HN] at h1;split at h1<;>cases h1
def tP(mask:Nat)(acc:Option (Array (Option Nat)×Nat))(h:Int):Option (Array (Option Nat)×Nat):=do
 let(owner,k) <-acc
 let j <-SetTable.layClean.free mask owner (SetTable.turns mask) (SetTable.bits h%(mask+1)) (SetTable.bits h)
 pure (owner.setIfInBounds j (some k),k+1)
theorem Cg{mask k:Nat}(hk:mask+1=2^k): ∀(l hs:ie) (ow:sx),LayOk mask hs ow->hs.length+l.length<=mask+1->
  ∃dZ,l.foldl (tP mask) (some (ow,hs.length))=some (dZ,hs.length+l.length)/\LayOk mask (hs++l) dZ
 |[],hs,ow,ok,_=>⟨ow,rfl,by rw[sN];exact ok⟩
 |h::l,hs,ow,ok,hl=>by
  rw[jq] at hl;obtain⟨j,e,ok'⟩:=ok.step hk h (by lia);obtain⟨dZ,e',ok''⟩:=Cg hk l (hs++[h]) _ ok' (by rw[mz,uH];lia);refine⟨dZ,?_,by rw[jF] at ok'';exact ok''⟩;rw[List.foldl_cons]
  have:tP mask (some (ow,hs.length)) h=some (ow.setIfInBounds j (some hs.length),hs.length+1):=by
   unfold tP;show(SetTable.layClean.free mask ow (SetTable.turns mask) (SetTable.bits h%(mask+1)) (SetTable.bits h)>>=_)=_;rw[e];rfl
  rw[this];rw[mz,uH] at e';rw[e',jq]
  congr 2;lia
theorem Ci(hk:mask+1=2^k)(hs:ie)(hl:hs.length<=mask): ∃ow,SetTable.layClean mask hs.toArray=some ow/\LayOk mask hs ow:=by
 obtain⟨ow,e,ok⟩:=Cg hk hs [] _ (LayOk.start mask) (by simp;lia);refine⟨ow,?_,by simpa using ok⟩;unfold SetTable.layClean;rw[<-Array.foldl_toList];show Option.map _ (List.foldl (tP mask) _ hs)=_;have e':List.foldl (tP mask) (some (Array.replicate (mask+1) none,0)) hs=some (ow,hs.length):=by simpa using e
 rw[e'];rfl
theorem Mt(hk:mask+1=2^k)(h3:3<=k)(h11:k<=11)(finger moves:Nat)(led plain:Bool)(hs:ie)(hl:5*hs.length<3*mask):
  ∃t order,SetTable.laid mask finger moves led plain hs.toArray=some (t,order)/\order.toList.Perm (List.range hs.length)/\TabOk (order.toList.map fun i=>hs.getD i 0) t/\t.plain=plain/\t.led=led:=by
 obtain⟨ow,e,ok⟩:=Ci hk hs (by lia);refine⟨{mask,place:=((mY mask ow).map (·.1)).toArray,dummies:= #[],finger,led,moves,plain},((mY mask ow).map (·.2)).toArray,?_,by simpa using ok.perm,?_,rfl,rfl⟩
 ·unfold SetTable.laid;rw[e];rfl
 ·have hlen:(mY mask ow).length=hs.length:=by have:=ok.perm.length_eq;simpa using this
  refine⟨⟨k,h3,h11,hk⟩,rfl,by simp,by simp[hlen];lia,by simpa using J5 mask ow,fun j hj=>?_,fun i h j g1 g2=>?_⟩
  ·have fI:j∈(mY mask ow).map (·.1):=by simpa using hj
   obtain⟨⟨a,b⟩,hm,rfl⟩:=oI.mp fI;exact(KW.mp hm).1
  ·have dk:((mY mask ow).map (·.2)).map (fun i=>hs.getD i 0)=(((mY mask ow).map (·.2)).toArray).toList.map fun i=>hs.getD i 0:=by simp
   rw[<-dk,iO,iO] at g1;have v9:((mY mask ow).map (·.1))[i]?=some j:=by simpa using g2
   rw[iO] at v9
   cases hq:(mY mask ow)[i]? with
   |none=>rw[hq] at v9;cases v9
   |some p=>
    obtain⟨a,b⟩:=p;rw[hq] at g1 v9;simp at g1 v9;subst v9;have hm:=KW.mp (kF hq)
    have hb:b<hs.length:=by
     have:=ok.perm.mem_iff.mp (oI.mpr ⟨(a,b),kF hq,rfl⟩);exact sQ.mp this
    have hh:hs[b]?=some h:=by rw[iM hb] at g1 ⊢;simpa using g1
    obtain⟨n,q1,q2⟩:=ok.road a b h hm.2 hh;refine⟨n,q1,fun m eI=>?_⟩;obtain⟨i',cZ⟩:=q2 m eI;show(pr mask h m).j∈(((mY mask ow).map (·.1)).toArray).toList;have:(pr mask h m).j∈(mY mask ow).map (·.1):=oI.mpr ⟨(_,i'),KW.mpr ⟨Jr mask h m,cZ⟩,rfl⟩;simpa using this
theorem Ax: ∀n,n<2048-> ∃k,3<=k/\k<=11/\SetTable.sizeAbove n=2^k/\n<2^k:=by
 intro n hn
 have step: ∀(f k:Nat),3<=k->k<=11->11<k+f-> ∃k',3<=k'/\k'<=11/\SetTable.sizeAbove.go n f (2^k)=2^k'/\n<2^k':=by
  intro f
  induction f with
  |zero=>intro k h1 h2 h3;lia
  |succ f ih=>
   intro k h1 h2 h3;unfold SetTable.sizeAbove.go;by_cases hle:2^k<=n
   ·rw[gz hle,<-sC];have:k≠11:=fun e=>by subst e;lia
    exact ih (k+1) (by lia) (by lia) (by lia)
   ·rw[gC hle];exact⟨k,h1,h2,rfl,by lia⟩
 exact step 64 3 (by lia) (by lia) (by lia)
open PyProof.Rows PySem.SeqAt
theorem GU{hs:ie}{t:kE}(ok:TabOk hs t){hashAt:Nat->Int}{h:Int}{p:SetTable.Probe}{n:Nat}(hp:p=pr t.mask h n)(hn: ∀m,m<n->(pr t.mask h m).j∈t.place.toList):
    ∃m,n<=m/\m<10*(t.mask+14)/\(∀q,n<=q->q<m-> ∃i,t.place[i]?=some (pr t.mask h q).j/\hashAt i≠h)/\
      (((pr t.mask h m).j∉t.place.toList/\t.probe hashAt h p=some (.empty (pr t.mask h m).j none))\/
       (∃i,t.place[i]?=some (pr t.mask h m).j/\hashAt i=h/\t.probe hashAt h p=some (.candidate (pr t.mask h m).j i (pr t.mask h (m+1))))):=by
  subst hp;obtain⟨M,h1,h2⟩:=ok.free h
  have hM:n<=M:=by
    by_cases hq:M<n
    · exact absurd (hn M hq) h2
    · lia
  obtain⟨m,g1,g2,g3⟩:=BU ok hashAt h (10*SetTable.turns t.mask) n ⟨M,hM,by unfold SetTable.turns;lia,h2⟩
  have hm:m<=M:=by
    by_cases hq:M<m
    · obtain⟨i,hi,_⟩:=g2 M hM hq
      rw[<-lj] at hi;exact absurd (kF hi) h2
    · lia
  exact⟨m,g1,by lia,g2,g3⟩
section
variable {prog:gM}{w:gE}{A:gG}{E:hV}{s:gu}
structure Srch(A:gG)(s:gu)(a:gm)(es:mv)(n:Nat)(t:kE)(x:gy)(h:Int)(eqs:Nat->Bool):Prop where
 at_: ∃o,s.heap.get? a=some o/\o.data= .set es n t
 tab:TabOk (es.toList.map (·.1)) t
 refs: ∀(i:Nat) (e:Int×Value),es[i]?=some e-> ∃b,e.2= .ref b
 eq: ∀(i:Nat) (e:Int×Value),es[i]?=some e->EqAt A s e.2 x (eqs i)
 hash: ∀(i:Nat) (e:Int×Value),es[i]?=some e->eqs i=true->e.1=h
 quiet: ∀(l:ir) (prog:gM) (w:gE) (E:hV) (Q:sy),(∀v∈l,∃e∈es.toList,e.2=v)->Q false s->wpAny (model prog w) A (searchCouldBeSeen x l) Q E s
theorem JS(ok:TabOk hs t):t.gaveWay=false:=by
 obtain⟨k,h1,_,h3⟩:=ok.pow;obtain⟨k',rfl⟩: ∃k',k=k'+1:=⟨k-1,by lia⟩
 rw[sC] at h3;unfold SetTable.gaveWay;rw[yK];lia
theorem F9(ok:TabOk hs t)(h:hs.length=n):t.fits n=true:=by
 have:=ok.len;have:=ok.room;unfold SetTable.fits SetTable.fill;rw[ok.dum];simp only[jY,beq_iff_eq,pK];exact⟨by lia,by show _+0<=_;lia⟩
theorem Srch.fits{a es n t x h eqs}(S:Srch A s a es n t x h eqs):t.fits es.size=true:=F9 S.tab (by simp)
theorem nC{a:gm}{es:mv}{nn:Nat}{t:kE}{x:gy}{h:Int}{eqs:Nat->Bool}{adding:Bool}(S:Srch A s a es nn t x h eqs){Q:SetFound->Shared->Prop}
  (o9: ∀i r,eqs i=true->i<es.size->(r=none\/r=some i)->(adding=false->r=some i)->Q (.there r) s)
  (m8:(∀i,i<es.size->eqs i=false)-> ∀n,(pr t.mask h n).j∉t.place.toList->(∀m,m<n->(pr t.mask h m).j∈t.place.toList)->Q (.free (pr t.mask h n).j false) s):
  ∀(fuel n:Nat) (ag:Option SetTable.Probe),ag.getD (t.probeStart h)=pr t.mask h n->(∀q,q<n-> ∃i,t.place[i]?=some (pr t.mask h q).j/\eqs i=false)->10*(t.mask+14)<n+fuel->n<=10*(t.mask+14)->
   wpAny (model prog w) A (setSearchFrom a x h adding fuel ag) Q E s
 |0,n,ag,_,_,hf,hn=>by lia
 |fuel+1,n,ag,u9,hb,hf,hn=>by
  obtain⟨o,ho,hd⟩:=S.at_
  have occ: ∀m,m<n->(pr t.mask h m).j∈t.place.toList:=fun m hm=>by
   obtain⟨i,hi,_⟩:=hb m hm;rw[<-lj] at hi;exact kF hi
  unfold setSearchFrom;refine gw (pJ ho hd S.fits ?_);dsimp only;rw[JS S.tab];simp only[iJ,↓reduceIte];generalize hP:t.probe _ h _=P;obtain⟨m,m1,m2,m3,m4⟩:=GU S.tab u9 occ (hashAt:=fun i=>(es[i]?.map (·.1)).getD 0);have hP':t.probe (fun i=>(es[i]?.map (·.1)).getD 0) h (ag.getD (t.probeStart h))=P:=hP;rw[hP'] at m4
  have eD: ∀(i:Nat) (j:Nat),t.place[i]?=some j-> ∃e,es[i]?=some e/\(es[i]?.map (·.1)).getD 0=e.1:=fun i j hi=>by
   have h1:=(K0.mp hi).1;have h2:=S.tab.len;rw[jk,jv] at h2;exact⟨es[i],mO (by lia),by rw[mO (by lia)];rfl⟩
  have ne: ∀(i:Nat) (j:Nat),t.place[i]?=some j->(es[i]?.map (·.1)).getD 0≠h->eqs i=false:=fun i j hi w9=>by
   obtain⟨e,he,hh⟩:=eD i j hi
   cases hq:eqs i with
   |false=>rfl
   |true=>exact absurd (hh.trans (S.hash i e he hq)) w9
  have seen: ∀q,q<m-> ∃i,t.place[i]?=some (pr t.mask h q).j/\eqs i=false:=fun q hq=>by
   by_cases k6:q<n
   ·exact hb q k6
   ·obtain⟨i,hi,w9⟩:=m3 q (by lia) hq;exact⟨i,hi,ne i _ hi w9⟩
  rcases m4 with⟨a1,a2⟩|⟨i,a1,a2,a3⟩
  ·subst a2;dsimp only;refine gA (m8 (fun i hi=>?_) m a1 fun q hq=>?_)
   ·cases hq:eqs i with
    |false=>rfl
    |true=>
     exfalso;have he:es[i]?=some es[i]:=mO hi;have h1:=S.hash i _ he hq;have h2:=S.tab.len;rw[jk,jv] at h2;have j5:t.place[i]?=some t.place[i]:=mO (by lia);obtain⟨n',r1,r2⟩:=S.tab.road i h t.place[i] (by rw[iO,lj,he];exact oj some h1) j5
     have:n'<m:=by
      by_cases k6:n'<m
      ·exact k6
      ·exfalso;rcases Nat.lt_or_eq_of_le (MV.mp k6) with k6|heq
       ·exact a1 (r2 m k6)
       ·subst heq;rw[<-lj] at j5;rw[r1] at a1;exact a1 (kF j5)
     obtain⟨i',g1,g2⟩:=seen n' this;rw[r1] at g1;have:i'=i:=by rw[<-yA S.tab.ris g1,yA S.tab.ris j5]
     rw[this,hq] at g2;cases g2
   ·obtain⟨i,hi,_⟩:=seen q hq;rw[<-lj] at hi;exact kF hi
  ·subst a3;dsimp only;obtain⟨e,he,hh⟩:=eD i _ a1;obtain⟨h',y⟩:=e;obtain⟨b,hy⟩:=S.refs i _ he;dsimp only at hy;subst hy;have sm:t.sameMemory t.moves t.mask=some true:=by simp[SetTable.sameMemory]
   have eu:i<es.size:=(K0.mp he).1;cases hl:t.led
   ·simp only[Bool.not_false,↓reduceIte];refine gw (S.quiet _ _ _ _ _ (fun v hv=>?_) ?_)
    ·obtain⟨e,bT,rfl⟩:=oI.mp hv;exact⟨e,(P5.mp (by simpa using(Array.mem_filter.mp (P5.mp bT)).1) |> fun z=>by simpa using z),rfl⟩
    simp only[iJ,↓reduceIte];rw[he];dsimp only;refine gw (lY (S.eq i _ he _ _ _ _ ?_));refine gw (pJ ho hd S.fits ?_);dsimp only
    cases hq:eqs i with
    |true=>
     cases adding with
     |true=>simp only[Bool.and_self,↓reduceIte];exact gA (o9 i none hq eu (.inl rfl) (fun z=>by cases z))
     |false=>
      simp only[Bool.false_and,iJ,↓reduceIte,sm,ou S.tab.ris a1,he];refine gw (zY ?_);simp only[↓reduceIte];exact gw (gA (gA (o9 i _ hq eu (.inr rfl) fun _=>rfl)))
    |false=>
     simp only[Bool.and_false,iJ,↓reduceIte,sm,ou S.tab.ris a1,he];refine gw (zY ?_);simp only[↓reduceIte];refine gw (gA ?_)
     exact nC S o9 m8 fuel (m+1) _ rfl (fun q hq'=>by
      by_cases e:q=m
      ·subst e;exact⟨i,a1,hq⟩
      ·exact seen q (by lia)) (by lia) (by lia)
   ·simp only[lH,iJ,↓reduceIte];rw[he];dsimp only;refine gw (lY (S.eq i _ he _ _ _ _ ?_));refine gw (pJ ho hd S.fits ?_);dsimp only
    cases hq:eqs i with
    |true=>
     cases adding with
     |true=>simp only[Bool.and_self,↓reduceIte];exact gA (o9 i none hq eu (.inl rfl) (fun z=>by cases z))
     |false=>
      simp only[Bool.false_and,iJ,↓reduceIte,sm,ou S.tab.ris a1,he];refine gw (zY ?_);simp only[↓reduceIte];exact gw (gA (gA (o9 i _ hq eu (.inr rfl) fun _=>rfl)))
    |false=>
     simp only[Bool.and_false,iJ,↓reduceIte,sm,ou S.tab.ris a1,he];refine gw (zY ?_);simp only[↓reduceIte];refine gw (gA ?_)
     exact nC S o9 m8 fuel (m+1) _ rfl (fun q hq'=>by
      by_cases e:q=m
      ·subst e;exact⟨i,a1,hq⟩
      ·exact seen q (by lia)) (by lia) (by lia)
end
abbrev ly(es:mv)(n:Nat)(t:kE):Obj:={cls:= .type "set",data:= .set es n t}
section
variable {prog:gM}{w:gE}{A:gG}{E:hV}{s:gu}
theorem Bx{h:gL}{a:gm}{es es':mv}{n:Nat}{t t':kE}(ho:h.get? a=some (ly es n t)):(h.update a (Obj.putSet es' t')).get? a=some (ly es' (n+1) t'):=by
 have:=uI (Obj.putSet es' t') ho (by rw[putSet_of es' t' rfl];rfl);rw[putSet_of es' t' rfl] at this;exact this
theorem Jd{α:Type}(es:Array α):(List.range es.size).filterMap (fun i=>es[i]?)=es.toList:=by
 have: ∀(l:List α),(List.range l.length).filterMap (fun i=>l[i]?)=l:=by
  intro l
  induction l with
  |nil=>rfl
  |cons x l ih=>
   rw[jq,List.range_succ_eq_map,rf];simp only[List.getElem?_cons_zero,List.filterMap_map,Function.comp_def,List.getElem?_cons_succ,ih]
 have h:=this es.toList;simpa using h
theorem F8{es:mv}: ∀(l:hJ),(∀i∈l,i<es.size)->(l.filterMap (fun i=>es[i]?)).map (·.1)=l.map fun i=>(es.toList.map (·.1)).getD i 0
 |[],_=>rfl
 |i::l,h=>by
  have hi:=h i iN;rw[rf,mO hi];simp only[iY];rw[F8 l fun j hj=>h j (iK _ hj)]
  congr 1
  simp[hi]
theorem I0{a:gm}{es:mv}{n:Nat}{t:kE}(ho:s.heap.get? a=some (ly es n t))(hf:t.fits es.size=true)(h5:5<=es.size)(hz:es.size<=500){Q:Unit->Shared->Prop}
  (h: ∀h' es' n' t',Heap.SameBut a s.heap h'->h'.get? a=some (ly es' n' t')->es'.toList.Perm es.toList->TabOk (es'.toList.map (·.1)) t'->t'.plain=t.plain->t'.led=t.led->Q () {s with heap:=h'}):
  wpAny (model prog w) A (setRelay a (SetTable.grown es.size)) Q E s:=by
 have hg:SetTable.grown es.size=es.size*4:=by unfold SetTable.grown;rw[gC (by lia)]
 obtain⟨k,k3,cS,ek,lk⟩:=Ax (es.size*4) (by lia);have hm:SetTable.sizeAbove (es.size*4)-1+1=2^k:=by have:=Nat.two_pow_pos k;lia
 obtain⟨t',order,e1,e2,e3,e4,e5⟩:=Mt hm k3 cS t.finger (t.movedTo (SetTable.sizeAbove (es.size*4)-1)) t.led t.plain (es.toList.map (·.1)) (by rw[jk,jv];lia);rw[jk,jv] at e2
 have er:t.relaid (es.map (·.1)) (es.size*4)=some (t',order):=by
  unfold SetTable.relaid;rw[<-e1,<-Array.toList_map]
 have hmem: ∀i∈order.toList,i<es.size:=fun i hi=>sQ.mp (e2.mem_iff.mp hi);have pl:(order.filterMap (es[·]?)).toList=order.toList.filterMap (fun i=>es[i]?):=by simp
 have perm:(order.filterMap (es[·]?)).toList.Perm es.toList:=by
  rw[pl];refine(e2.filterMap _).trans ?_;rw[Jd]
 have sz:(order.filterMap (es[·]?)).size=es.size:=by rw[<-jv,perm.length_eq,jv]
 rw[hg];unfold setRelay;refine gw (pJ ho rfl hf ?_);dsimp only
 have hs:2^k<=sizeLine:=by
  have:2^k<=2^11:=wg (by decide) cS;rw[iZ];lia
 rw[gC (by rw[ek];lia),er];refine gw ?_;change wpAny _ _ (if((order.filterMap (es[·]?)).size !=es.size)=true then _ else _) _ _ _;rw[gC (by rw[sz];simp)];refine gA ?_;dsimp only;refine wpAny_storeSet_of ho rfl ?_ (by rw[sz,iZ];lia);refine h _ (order.filterMap (es[·]?)) (n+1) t' (we s.heap a _) (Bx ho) perm ?_ e4 e5;rw[pl,F8 _ hmem];exact e3
theorem nN{α:Type}(xs:Array α)(p:Nat)(x:α):(SetTable.insertAt xs p x).toList.Perm (x::xs.toList):=by
 rw[kn];refine Bj.trans ?_;rw[lh]
theorem RZ{a b:gm}{es:mv}{n:Nat}{t:kE}{h:Int}{eqs:Nat->Bool}(S:Srch A s a es n t (.ref b) h eqs)(ho:s.heap.get? a=some (ly es n t))(j5:t.plain=true)(hz:es.size+1<=500)
  (hbv: ∀(Q':sy),Q' true s->wpAny (model prog w) A (hashByValue 8 (.ref b)) Q' E s){Q:sy}
  (hold:(∃i,i<es.size/\eqs i=true)->Q false s)
  (hnew:(∀i,i<es.size->eqs i=false)-> ∀h' es' n' t',Heap.SameBut a s.heap h'->h'.get? a=some (ly es' n' t')->es'.toList.Perm ((h,.ref b)::es.toList)->TabOk (es'.toList.map (·.1)) t'->t'.plain=true->t'.led=t.led->Q true {s with heap:=h'}):
  wpAny (model prog w) A (setAddHashed a (.ref b) h) Q E s:=by
 unfold setAddHashed setAddHashedIn;refine lY (gw (pJ ho rfl S.fits ?_));dsimp only;have fS:byScan (.ref b) es=false:=rfl;rw[fS];simp only[iJ,↓reduceIte]
 have hm:t.mask+1<=2048:=by
  obtain⟨k,_,cS,ek⟩:=S.tab.pow;have:2^k<=2^11:=wg (by decide) cS
  lia
 refine gw (nC S (adding:=true) (fun i r h1 h2 _ _=>?_) (fun aK m h1 h2=>?_) 100000 0 none rfl (fun q hq=>by lia) (by lia) (by lia))
 ·dsimp only;exact gA (hold ⟨i,h2,h1⟩)
 ·dsimp only;refine gw (pJ ho rfl S.fits ?_);dsimp only
  have e1:(t.put (pr t.mask h m).j).1={t with place:=SetTable.insertAt t.place (SetTable.below t.place (pr t.mask h m).j) (pr t.mask h m).j,dummies:= #[]}:=by
   unfold SetTable.put;dsimp only;rw[S.tab.dum,AV];rfl
  have e2:(t.put (pr t.mask h m).j).2=SetTable.below t.place (pr t.mask h m).j:=rfl;have cw:(t.put (pr t.mask h m).j).1.plain=true:=by rw[e1];exact j5
  rw[gz cw];refine gw (hbv _ ?_);simp only[↓reduceIte]
  have du:(SetTable.insertAt es (t.put (pr t.mask h m).j).2 (h,Value.ref b)).size=es.size+1:=by
   rw[<-jv,(nN es _ _).length_eq,jq,jv]
  refine gw (wpAny_storeSet_of ho rfl ?_ (by rw[du,iZ];lia));have y4:=Bx (es':=SetTable.insertAt es (t.put (pr t.mask h m).j).2 (h,Value.ref b)) (t':=(t.put (pr t.mask h m).j).1) ho;have sb1:=we s.heap a (Obj.putSet (SetTable.insertAt es (t.put (pr t.mask h m).j).2 (h,Value.ref b)) (t.put (pr t.mask h m).j).1);have hlen:es.toList.length=es.size:=jv;have tlen:=S.tab.len;rw[jk,hlen] at tlen
  have hpsz:(t.put (pr t.mask h m).j).1.place.size=es.size+1:=by
   rw[e1];show(SetTable.insertAt t.place _ _).size=_;rw[<-jv,(nN t.place _ _).length_eq,jq,jv,tlen]
  have bf:(t.put (pr t.mask h m).j).1.fill=es.size+1:=by
   unfold SetTable.fill;rw[hpsz,e1];rfl
  have aZ:(t.put (pr t.mask h m).j).1.mask=t.mask:=by rw[e1]
  have hled:(t.put (pr t.mask h m).j).1.led=t.led:=by rw[e1]
  by_cases htf:(t.put (pr t.mask h m).j).1.tooFull=true
  ·rw[htf];simp only[Bool.not_false,Bool.and_self,↓reduceIte];have hroom:=S.tab.room;rw[jk,hlen] at hroom
   have hbig:3*t.mask<=5*(es.size+1):=by
    unfold SetTable.tooFull at htf;rw[bf,aZ] at htf;have:=of_decide_eq_true htf;lia
   have m7:7<=t.mask:=by
    obtain⟨k,k3,_,ek⟩:=S.tab.pow;have:2^3<=2^k:=wg (by decide) k3
    lia
   have hfit:(t.put (pr t.mask h m).j).1.fits (SetTable.insertAt es (t.put (pr t.mask h m).j).2 (h,Value.ref b)).size=true:=by
    unfold SetTable.fits;rw[hpsz,du,bf,aZ];simp only[BEq.rfl,Bool.true_and,pK];lia
   rw[<-du];refine gw (I0 y4 hfit (by rw[du];lia) (by rw[du];lia) fun h' es' n' t' g1 g2 g3 g4 g5 g6=>?_);exact gA (hnew aK h' es' n' t' (sb1.trans g1) g2 (g3.trans (nN es _ _)) g4 (by rw[g5];exact cw) (by rw[g6];exact hled))
  ·have htf':(t.put (pr t.mask h m).j).1.tooFull=false:=by simpa using htf
   rw[htf'];simp only[Bool.and_false,iJ,↓reduceIte]
   have hsm:5*(es.size+1)<3*t.mask:=by
    unfold SetTable.tooFull at htf;rw[bf,aZ] at htf;have: ¬(es.size+1)*5>=t.mask*3:=fun z=>htf (Aj z)
    lia
   obtain⟨p1,p2⟩:=S.tab.put h1 h2 (by rw[jk,hlen];exact hsm) rfl rfl;refine gA (hnew aK _ _ _ _ sb1 y4 (nN es _ _) ?_ cw hled);rw[kn,wm,iY,<-List.map_take,<-List.map_drop] at*;rw[e2];exact p1
theorem Ro(S:Srch A s a es n t (.ref b) h eqs)(ho:s.heap.get? a=some (ly es n t)) 
  (h1: ∀i,i<es.size->eqs i=true->Q (some i) s)(h2:(∀i,i<es.size->eqs i=false)->Q none s):wpAny (model prog w) A (setFind a (.ref b) h) Q E s:=by
 unfold setFind setFindIn;refine gw (pJ ho rfl S.fits ?_);dsimp only;have fS:byScan (.ref b) es=false:=rfl;rw[fS];simp only[iJ,↓reduceIte]
 have hm:t.mask+1<=2048:=by
  obtain⟨k,_,cS,ek⟩:=S.tab.pow;have:2^k<=2^11:=wg (by decide) cS
  lia
 refine gw (nC S (adding:=false) (fun i r g1 g2 _ g3=>?_) (fun aK m _ _=>?_) 100000 0 none rfl (fun q hq=>by lia) (by lia) (by lia))
 ·rw[g3 rfl];exact gA (h1 i g2 g1)
 ·exact gA (h2 aK)
end
theorem yt:entryFor table "set.__iter__"=some Builtin.«frozenset.__iter__»:=entryFor_alias (id':="frozenset.__iter__") (by kernel_rfl) rfl (by decide+kernel) (by kernel_rfl)
theorem ml:Slot "set_iterator" "__next__" "set_iterator.__next__":= .of (owner:="set_iterator") (n:="__next__") (by rw[typeLookup_type,HM];kernel_rfl) (by decide+kernel) (by decide+kernel) (by decide+kernel) (by first|exact .inl (by decide+kernel)|exact .inr (by decide+kernel)) (by rw[CW];kernel_rfl)
theorem tj:Slot "set_iterator" "__iter__" "set_iterator.__iter__":= .of (owner:="set_iterator") (n:="__iter__") (by rw[typeLookup_type,HM];kernel_rfl) (by decide+kernel) (by decide+kernel) (by decide+kernel) (by first|exact .inl (by decide+kernel)|exact .inr (by decide+kernel)) (by rw[CW];kernel_rfl)
theorem rF:entryFor table "set_iterator.__next__"=some Builtin.«set_iterator.__next__»:=entryFor_of_fast (by kernel_rfl)
theorem yU:entryFor table "set_iterator.__iter__"=some Builtin.«dict_keyiterator.__iter__»:=entryFor_alias (id':="dict_keyiterator.__iter__") (by kernel_rfl) rfl (by decide+kernel) (by kernel_rfl)
theorem uj(a:gy):argsOk "set_iterator.__next__" ⟨[a],[]⟩:=by unfold argsOk;kernel_rfl
theorem Ba(a:gy):argsOk "set_iterator.__iter__" ⟨[a],[]⟩:=by unfold argsOk;kernel_rfl
theorem pC{α:Type}: ∀(l:List α) {i:Nat} (h:i<l.length),(l[i]::l.eraseIdx i).Perm l
 |x::l,0,_=>by simp
 |x::l,i+1,h=>by
  have:=pC l (i:=i) (by simpa using h);simp only[List.getElem_cons_succ,List.eraseIdx_cons_succ];exact(List.Perm.swap x _ _).trans (List.Perm.cons x this)
theorem tJ{α:Type}(next:Nat->Nat): ∀(fuel k:Nat) (left:List α) (out:Array α),left.length<=fuel->(pickOrder.go next fuel k left out).toList.Perm (out.toList++left)
 |0,k,left,out,h=>by
  have:left=[]:=MU.mp (by omega);subst this;unfold pickOrder.go;simp
 |fuel+1,k,left,out,h=>by
  unfold pickOrder.go
  cases left with
  |nil=>simp
  |cons y l=>
   have k6:next k%(y::l).length<(y::l).length:=uw _ (by simp);rw[iM k6];dsimp only;refine(tJ next fuel (k+1) _ _ (by rw[wd,gz k6];simp at h ⊢;omega)).trans ?_;rw[Array.toList_push,jF];refine qV _ ?_;exact pC _ k6
theorem xp{α:Type}(next:Nat->Nat)(xs:Array α):(pickOrder next xs).toList.Perm xs.toList:=by
 unfold pickOrder;have:=tJ next xs.size 0 xs.toList #[] (by simp);simpa using this
def mh(w:gE)(a:gm)(n:Nat)(es:mv):Array (Int×Value):=if w.params.followText "set-order"=true then pickOrder (w.params.setOrder a n) es else es
theorem CN(w:gE)(a:gm)(n:Nat)(es:mv):(mh w a n es).toList.Perm es.toList:=by
 unfold mh;split
 ·exact xp _ _
 ·exact vn _
theorem mS(w:gE)(a:gm)(n:Nat)(es:mv):(mh w a n es).size=es.size:=by
 rw[<-jv,(CN w a n es).length_eq,jv]
def Fp(t:kE):Nat->Nat
 |0=>0
 |i+1=>t.place.getD i 0+1
def kB(w:gE)(t:kE)(i:Nat):Nat:=if w.params.followText "set-order"=true then 0 else Fp t i
structure SetIs(w:gE)(h:gL)(a:gm)(es:mv)(n:Nat)(t:kE):Prop where
 at_:h.get? a=some (ly es n t)
 tab:TabOk (es.toList.map (·.1)) t
 plain:t.plain=true
 led:t.led=!w.params.followText "set-order"
def SetIter(w:gE)(h:gL)(it a:gm)(t:kE)(size n i:Nat):Prop:= ∃o,h.get? it=some o/\o.cls= .type "set_iterator"/\o.data= .fields #[.int (kB w t i) 0,.int i 0,.ref a,.int size 0,.int n 0]
section
variable {prog:gM}{w:gE}{A:gG}{E:hV}{s:gu}
theorem SetIs.fits{h a es n t}(S:SetIs w h a es n t):t.fits es.size=true:=F9 S.tab (by simp)
theorem EU(hr:t.place.toList.Pairwise (· < ·))(hi:i<=t.place.size):SetTable.below t.place (Fp t i)=i:=by
 cases i with
 |zero=>
  obtain⟨h1,h2,_⟩:=nk hr 0
  cases hb:SetTable.below t.place 0 with
  |zero=>exact hb
  |succ k=>
   have hz:0<t.place.size:=by omega
   have:=h2 0 _ (by omega) (mO hz);omega
 |succ i=>
  have hd:t.place.getD i 0=t.place[i]:=by simp[Array.getD,show i<t.place.size by omega]
  show SetTable.below t.place (t.place.getD i 0+1)=i+1;rw[hd];have hg:t.place[i]?=some t.place[i]:=mO (by omega);obtain⟨h1,h2,h3⟩:=nk hr (t.place[i]+1);by_cases k6:SetTable.below t.place (t.place[i]+1)<i+1
  ·have:=h3 i _ (by omega) hg;omega
  ·by_cases hgt:i+1<SetTable.below t.place (t.place[i]+1)
   ·have dc:t.place[i+1]?=some t.place[i+1]:=mO (by omega);have:=h2 (i+1) _ hgt dc;have:=AD hr (Dk i) hg dc;omega
   ·omega
theorem wW{a:gm}{es:mv}{n:Nat}{t:kE}(S:SetIs w s.heap a es n t){i:Nat}(hi:i<=es.size){Q:Option (Value×Nat)->Shared->Prop}
  (h1: ∀e,(mh w a n es)[i]?=some e->Q (some (e.2,kB w t (i+1))) s)(h2:i=es.size->Q none s):wpAny (model prog w) A (setNext a (kB w t i) i n) Q E s:=by
 have tl:=S.tab.len;rw[jk,jv] at tl;unfold setNext;refine gw (pJ S.at_ rfl S.fits ?_);dsimp only;unfold setsByText;refine gw (gw (uG (gA ?_)));by_cases hb:w.params.followText "set-order"=true
 ·have s9:(model prog w).w.params.followText "set-order"=true:=hb;rw[gz s9,gC (by simp)];unfold setWalk setsByText;refine gw (gw (pJ S.at_ rfl S.fits ?_));dsimp only;refine gw (gw (uG (gA ?_)));rw[gz s9];refine gw (uG (gA (gA ?_)));have e1:mh w a n es=pickOrder (w.params.setOrder a n) es:=by unfold mh;rw[gz hb]
  have e2: ∀k,kB w t k=0:=fun k=>by unfold kB;rw[gz hb]
  show Q (((pickOrder (w.params.setOrder a n) es)[i]?).map fun e=>(e.2,kB w t i)) s;rw[<-e1];rw[e2] at h1;rw[e2]
  cases hg:(mh w a n es)[i]? with
  |some e=>exact h1 e hg
  |none=>
   have:=Array.getElem?_eq_none_iff.mp hg;rw[mS] at this;exact h2 (by omega)
 ·have s9: ¬(model prog w).w.params.followText "set-order"=true:=hb;rw[gC s9];change wpAny _ _ (if(!t.plain&&decide (es.size>1))=true then _ else _) _ _ _;rw[gC (by rw[S.plain];simp)];have hl:t.led=true:=by rw[S.led];simpa using hb
  refine gw ?_;change wpAny _ _ (if(!t.led&&!es.isEmpty)=true then _ else _) _ _ _;rw[gC (by rw[hl];simp)];refine gA ?_;have e1:mh w a n es=es:=by unfold mh;rw[gC hb]
  have e2: ∀k,kB w t k=Fp t k:=fun k=>by unfold kB;rw[gC hb]
  have e3:SetTable.below t.place (kB w t i)=i:=by rw[e2];exact EU S.tab.ris (by omega)
  rw[e3];rw[e1] at h1;by_cases k6:i<es.size
  ·have g1:es[i]?=some es[i]:=mO k6;have g2:t.place[i]?=some t.place[i]:=mO (by omega);rw[g1,g2];have:=h1 es[i] g1;rw[e2] at this;rw[show Fp t (i+1)=t.place.getD i 0+1 from rfl] at this;have hd:t.place.getD i 0=t.place[i]:=by simp[Array.getD,show i<t.place.size by omega]
   rw[hd] at this;exact gA this
  ·rw[CY (by omega)];exact gA (h2 (by omega))
theorem SetIs.typeIs{a es n t}(S:SetIs w s.heap a es n t):s.TypeIs (.ref a) "set":=⟨_,S.at_,rfl⟩
theorem SetIter.typeIs{it a t z n i}(S:SetIter w s.heap it a t z n i):s.TypeIs (.ref it) "set_iterator":=let⟨o,ho,hc,_⟩:=S;⟨o,ho,hc⟩
theorem Ka(S:SetIs w s.heap a es n t) 
  (hQ: ∀h',SetIter w h' s.heap.objs.size a t es.size n 0->(∀b o,s.heap.get? b=some o->h'.get? b=some o)->h'.objs.size=s.heap.objs.size+1->Q (.ref s.heap.objs.size) {s with heap:=h'}):
  wpAny (model prog w) A (pyIter (.ref a)) Q E s:=by
 refine wpAny_pyIter_slot S.typeIs HL (pO HL S.typeIs yt ?_ (PySem.F.args_set_iter_1 _));unfold Builtin.«frozenset.__iter__» Builtin.Frozenset.slot0 slotArgs;simp only[uv,lH,iJ,↓reduceIte,qY,pM,sL];unfold Builtin.Frozenset.addrOf Builtin.Frozenset.sizeOf;refine gw (gA ?_);dsimp only;refine gw (gA ?_);refine gw (gw (CV S.at_ rfl S.fits (gA ?_)));unfold setDrawn setsByText;refine gw (gw (pJ S.at_ rfl S.fits ?_));dsimp only;refine gw (gw (uG (gA ?_)));refine gA ?_;change wpAny _ _ (if(!w.params.followText "set-order"&&(!t.plain&&decide (es.size>1)))=true then _ else _) _ _ _;rw[gC (by rw[S.plain];simp)];refine gw (gA ?_);unfold setEpoch;refine gw (gw (pJ S.at_ rfl S.fits (gA ?_)));refine gw (mB (gA ⟨_,rfl,"set_iterator",_,⟨_,kU _ rfl,rfl⟩,ml.lookup,?_⟩));refine hQ _ ⟨_,kU _ rfl,rfl,?_⟩ (fun b o e=>iB _ e) (rQ _ _);have:kB w t 0=0:=by unfold kB;split<;>rfl
 rw[this];rfl
theorem yQ{it a:gm}{es:mv}{n:Nat}{t:kE}(S:SetIs w s.heap a es n t){i:Nat}(hI:SetIter w s.heap it a t es.size n i)(w9:it≠a){e:Int×Value}(he:(mh w a n es)[i]?=some e){Q:Option Value->Shared->Prop}
  (hQ: ∀h',SetIter w h' it a t es.size n (i+1)->Heap.SameBut it s.heap h'->Q (some e.2) {s with heap:=h'}):wpAny (model prog w) A (pyNext (.ref it)) Q E s:=by
 obtain⟨o,ho,hc,hd⟩:=id hI;have hi:i<es.size:=by have:=(K0.mp he).1;rw[mS] at this;exact this
 unfold pyNext;refine gw (wt (wC (name:=Str.ofString "__next__") hI.typeIs ml (pO ml hI.typeIs rF ?_ (uj _))));unfold Builtin.«set_iterator.__next__» slotArgs;simp only[uv,lH,iJ,↓reduceIte,qY,pM,sL];refine gw (gA ?_);unfold fieldsOf;simp only[qY];refine gw (wG ho ?_);rw[hd];refine gw (gA ?_);dsimp only;refine gw (CV S.at_ rfl S.fits ?_);rw[gC (by simp)];have h1:((kB w t i:Nat):Int).toNat=kB w t i:=ur _;have h2:((i:Nat):Int).toNat=i:=ur _;have h3:((n:Nat):Int).toNat=n:=ur _;rw[h1,h2,h3];refine gw (wW S (vt hi) (fun e' bT=>?_) fun z=>by omega);rw[he] at bT;cases bT;dsimp only;refine gw (CU ho hd (by simp) ?_);have y4:=uI (Obj.mapFields fun vs=>vs.setIfInBounds 0 (rawInt (kB w t (i+1)))) ho (HK (uq hd _));refine gw (CU y4 (uq hd _) (by simp) (gA ⟨_,rfl,gA (hQ _ ?_ ((we ..).trans (we ..)))⟩));refine⟨_,uI _ y4 (HK (uq (uq hd _) _)),?_,?_⟩
 ·rw[Obj.cls_mapFields,Obj.cls_mapFields];exact hc
 ·rw[uq (uq hd _)];simp[rawInt]
theorem AM(hh:A.handled=none)(S:SetIs w s.heap a es n t)(hI:SetIter w s.heap it a t es.size n es.size)(w9:it≠a) 
  (hQ: ∀h',Heap.ExtBut it s.heap h'->Q none {s with heap:=h'}):wpAny (model prog w) A (pyNext (.ref it)) Q E s:=by
 obtain⟨o,ho,hc,hd⟩:=id hI;unfold pyNext;refine gw (wt (wC (name:=Str.ofString "__next__") hI.typeIs ml (pO ml hI.typeIs rF ?_ (uj _))));unfold Builtin.«set_iterator.__next__» slotArgs;simp only[uv,lH,iJ,↓reduceIte,qY,pM,sL];refine gw (gA ?_);unfold fieldsOf;simp only[qY];refine gw (wG ho ?_);rw[hd];refine gw (gA ?_);dsimp only;refine gw (CV S.at_ rfl S.fits ?_);rw[gC (by simp)];have h1:((kB w t es.size:Nat):Int).toNat=kB w t es.size:=ur _;have h2:((es.size:Nat):Int).toNat=es.size:=ur _;have h3:((n:Nat):Int).toNat=n:=ur _;rw[h1,h2,h3];refine gw (wW S (ic _) (fun e' bT=>?_) fun _=>?_)
 ·have:=(K0.mp bT).1;rw[mS] at this;omega
 dsimp only;refine gw (CU ho hd (by simp) ?_);show wpAny _ _ (newExc (.type "StopIteration") []>>=_) _ _ _;refine gw ?_;simp only[newExc,newTuple];refine gw (mB ?_ (by size_fits));refine gw (m:=firstArgMember _ _) (sG (a:=Value.none) (by first|rfl|(simp only[firstArgMember];rfl)) ?_);refine mB ?_ (by size_fits);simp only[raiseNew];refine gw (wpAny_handled ?_);rw[show A.in1.handled=none from hh];refine gw (gA (wpAny_throw ?_));refine gw (CS (T:="StopIteration") (b:=true) ⟨_,kU _ rfl,rfl⟩ isSubtype_stop ?_);exact gA (hQ _ (((we ..).extBut.push _).push _))
theorem Hd(hI:SetIter w s.heap it a t z n i)(hQ:Q (.ref it) s):wpAny (model prog w) A (pyIter (.ref it)) Q E s:=by
 refine wpAny_pyIter_slot hI.typeIs tj (pO tj hI.typeIs yU ?_ (Ba _));unfold Builtin.«dict_keyiterator.__iter__» slotArgs;simp only[uv,lH,iJ,↓reduceIte,qY,pM,sL];exact gw (gA (gA ⟨_,rfl,"set_iterator",_,hI.typeIs,ml.lookup,hQ⟩))
theorem SetIs.stay{a es n t}(S:SetIs w h a es n t)(k: ∀o,h.get? a=some o->h'.get? a=some o):SetIs w h' a es n t:=⟨k _ S.at_,S.tab,S.plain,S.led⟩
theorem GH(hh:A.handled=none)(I a:gm)(w9:I≠a)(es:mv)(n:Nat)(t:kE):
  Walks prog w A I [I,a] [I] es.size (fun i v=> ∃e,(mh w a n es)[i]?=some e/\v=e.2) (fun i h=>SetIter w h I a t es.size n i/\SetIs w h a es n t) where
 sub:=fun b hb=>by simp at hb;simp[hb]
 frame:=fun _ _ _ st hk=>⟨(by obtain⟨o,h1,h2⟩:=st.1;exact⟨o,hk I (by simp) o h1,h2⟩),st.2.stay fun o e=>hk a (by simp) o e⟩
 item:=fun i s Q E hi st hQ=>by
  have k6:i<(mh w a n es).size:=by rw[mS];exact hi
  have hg:(mh w a n es)[i]?=some (mh w a n es)[i]:=mO k6;refine yQ st.2 st.1 w9 hg fun h' hit' cV=>?_;exact hQ _ h' s.toks ⟨_,hg,rfl⟩ ⟨hit',st.2.stay fun o e=>cV.extBut a o (fun h=>w9 h.symm) e⟩ fun b o hb e=>cV.extBut b o (fun h=>hb (by simp[h])) e
 done:=fun s Q E st hQ=>AM hh st.2 st.1 w9 fun h' bT=>hQ h' s.toks fun b o hb e=>bT b o (fun h=>hb (by simp[h])) e
 self:=fun _ _ _ _ st hQ=>Hd st.1 hQ
theorem MF(hh:A.handled=none)(S:SetIs w s.heap a es n t)(hn:es.size<=sizeLine) 
  (hQ: ∀h' tk,(∀b o,s.heap.get? b=some o->h'.get? b=some o)->Q ((mh w a n es).toList.map (·.2)) {s with heap:=h',toks:=tk}):wpAny (model prog w) A (collect (.ref a)) Q E s:=by
 have dG:a<s.heap.objs.size:=iq S.at_;have fw:a≠s.heap.objs.size:=jy dG;have hna1:a≠s.heap.objs.size+1:=jy (Ai dG);have hss:s.heap.objs.size≠s.heap.objs.size+1:=jy (Dk _);unfold collect;refine gw (wpAny_runValue (vp PySem.F.entry_proto_collect ?_));rw[uF PySem.F.plain_proto_collect _];show wpAny _ A.in1 (newList []>>=fun l=>again (.builtin "list.__iadd__" ⟨[l,.ref a],[]⟩)) _ _ s;refine gw (mB ?_);refine gA ⟨wu HJ _,vp PySem.F.entry_list_iadd ?_⟩;rw[uF HJ _];show wpAny _ A.in1 (Builtin.List.listExtendWith (.ref s.heap.objs.size) (.ref a) (.ref s.heap.objs.size)) _ _ _;generalize hl0:({cls:= .type "list",data:= .seq ([]:List Value).toArray}:Obj)=l0;have S1:SetIs w (s.heap.push l0) a es n t:=S.stay fun o e=>iB _ e;unfold Builtin.List.listExtendWith;refine gw (vq (T:="set") (s:={s with heap:=s.heap.push l0}) S1.typeIs ?_);have h1:Builtin.List.listSameRef (.ref s.heap.objs.size) (.ref a)=false:=by simp only[Builtin.List.listSameRef,yK];exact fw.symm
 have h2:(Value.type "set"==Value.type "list")=false:=by decide
 have h3:(Value.type "set"==Value.type "tuple")=false:=by decide
 simp only[h1,h2,h3,Bool.or_false,iJ,iX];refine gw (Ka (s:={s with heap:=s.heap.push l0}) S1 fun h2 it2 k2 z2=>?_);have sz1:(s.heap.push l0).objs.size=s.heap.objs.size+1:=rQ _ _;have S2:SetIs w h2 a es n t:=S1.stay fun o e=>k2 _ _ e;refine gw (lY ?_);unfold Builtin.List.listLengthHint;refine gw (uo (T:="set") (s:={s with heap:=h2}) S2.typeIs PySem.F.slot_set_len.lookup ?_);generalize hid:("set.__len__":String)=id0;dsimp only;rw[show splitId id0=some ("set","__len__") from by subst hid;decide+kernel];dsimp only;refine gw (CS (T:="set") (s:={s with heap:=h2}) (b:=true) S2.typeIs (by rw[CW];kernel_rfl) ?_);simp only[lH,iJ,iX];change wpAny _ _ (if _=true then _ else _) _ _ _;rw[gz (by subst hid;decide+kernel)];refine gw (vq (T:="set") (s:={s with heap:=h2}) S2.typeIs ?_);dsimp only;refine gA ?_;change wpAny _ _ (if _=true then _ else _) _ _ _;rw[gz (by decide+kernel)];refine gw (uO ?_);have hS₁:h2.get? s.heap.objs.size=some l0:=k2 _ _ (kU _ (by subst hl0;rfl));subst hl0;refine gw ?_;show wpAny _ A.in1 (updateSeq s.heap.objs.size (·.push .none)>>=fun _=>updateSeq s.heap.objs.size (·.pop)) _ _ _;refine gw (wpAny_updateSeq (s:={s with heap:=h2}) hS₁ rfl ?_);have hS₂:=uI (Obj.mapSeq (·.push Value.none)) hS₁ rfl;refine wpAny_updateSeq hS₂ rfl ?_;have hS₃:=uI (Obj.mapSeq (·.pop)) hS₂ rfl
 have oth: ∀b o,b≠s.heap.objs.size->h2.get? b=some o->((h2.update s.heap.objs.size (Obj.mapSeq (·.push Value.none))).update s.heap.objs.size (Obj.mapSeq (·.pop))).get? b=some o:=
  fun b o hb e=>(Al _ _ (mC hb)).trans ((Al _ _ (mC hb)).trans e)
 have W:=(GH (prog:=prog) (w:=w) (A:=A.in1) (by show A.handled=none;exact hh) (s.heap.objs.size+1) a hna1.symm es n t).toS;rw[sz1] at it2;refine gA ⟨wu PySem.F.plain_extend_loop _,?_⟩;rw[sz1];refine codeAny_extend_loopS W hn s.heap.objs.size (by simp only[lq,mP,pR,not_or];exact⟨hss,fw.symm⟩) _ es.size 0 _ _ _ rfl (lI _) ?_ hS₃ (ItemsOf.nil _) fun s' k7 c' hm bV v8=>?_
 ·refine⟨?_,S2.stay fun o e=>oth a o fw e⟩;obtain⟨o,g1,g2⟩:=it2;exact⟨o,oth _ o hss.symm g1,g2⟩
 show wpAny _ A (load s.heap.objs.size>>=_) _ _ s';refine gw (wG bV ?_);obtain⟨h',g',d',dW,eU⟩:=s';have eg:g'=s.gens:=hm.gens;have ed:d'=s.drawn:=hm.drawn;have eo:eU=s.os:=hm.os;subst eg;subst ed;subst eo
 have eacc:k7.toList=(mh w a n es).toList.map (·.2):=by
  obtain⟨a1,a2⟩:=v8;apply Dl
  ·rw[jk,jv,jv,a1,mS]
  ·intro j g1 g2;have gj:k7[j]?=some k7.toList[j]:=by rw[<-lj];exact iM g1
   obtain⟨e,he,hv⟩:=a2 j _ gj;rw[hv];rw[jk,jv] at g2;rw[List.getElem_map];rw[<-lj,iM (by rw[jv];exact g2)] at he;cases he;rfl
 refine gA ?_;show Q k7.toList _;rw[eacc];refine hQ h' dW fun b o e=>?_;have hb:=iq e;exact hm.heap b o (by simp only[lq,mP,pR,not_or];exact⟨jy hb,jy (Ai hb)⟩) (oth b o (jy hb) (k2 _ _ (iB _ e)))
end
section
variable {prog:gM}{w:gE}{A:gG}{R:Result->Shared->Prop}{I:gm}{fp wr:jo}{G:Array GenState->Array GenState->Prop}{n:Nat}{P:Nat->Value->Prop}{St:Nat->Shared->Prop}
end
section
variable {prog:gM}{w:gE}{A:gG}{E:hV}{s:gu}
abbrev vd(w:gE):SetTable:= .fresh 0 0 (!w.params.followText "set-order")
end
open PySem.Spec
section
variable {prog:gM}{w:gE}{A:gG}{E:hV}{s:gu}
theorem JV(h:Q₁ (.ref s.heap.objs.size) {s with heap:=s.heap.push (ly #[] 0 (vd w))}):
  codeAny (model prog w) A (.call (.builtin "set.__new__") ⟨[.type "set"],[]⟩) (wants Q₁ E) s:=by
 refine wz ?_;change wpAny _ A.in1 (checkBuiltinCall "set.__new__" ⟨[.type "set"],[]⟩>>=fun _=>again (.builtin "set.__new__" ⟨[.type "set"],[]⟩)) _ _ s;refine gw (sG PySem.F.newCall_set_0 (gA ⟨wu HI _,vp PySem.F.entry_set_new ?_⟩));rw[uF HI _];unfold Builtin.«set.__new__» Builtin.Frozenset.newClass;have hsub:=sub_set_self;obtain⟨hp,g,d,tk,os⟩:=s;dsimp only
 wp_walk
 refine uG (gA ?_);dsimp only;simp only[newObj];refine gw (wpAny_alloc (gA ?_));exact gA h
set_option maxHeartbeats 8000000 in
theorem PL{Q:hV}(h:Q (.ref s.heap.objs.size) {s with heap:=s.heap.push (ly #[] 0 (vd w))}):wpAny (model prog w) A (call (.type "set") []) Q E s:=by
 obtain⟨c,tl,hmro⟩:=Iq.mro;have hmade:=Iq.made;have hsub:=Iq.sub;refine wF (wz ?_);change wpAny _ _ (callAny (.type "set") ⟨[],[]⟩) _ _ s;refine gA ⟨Code.quiet_builtin _ (by decide+kernel),vp PySem.F.entry_type_call ?_⟩;rw[Around.under_plain (weight_type_call_type "set" ([]:List Value) []) rfl];have h1:=Iq.notType;have h2:=Iq.canCreate;have hct:=PySem.F.typeCall_set_0
 repeat (any_goals (first|assumption|wp_step))
 refine rd (JV (E:=E) (Q₁:=fun obj s₁=>obj= .ref s.heap.objs.size/\s₁={s with heap:=s.heap.push (ly #[] 0 (vd w))}) ⟨rfl,rfl⟩) fun r s₁ hr=>?_
 cases r with
 |error e=>exact hr
 |ok fl=>
  cases fl with
  |ret obj=>
   obtain⟨rfl,rfl⟩:=hr;have hS:(s.heap.push (ly #[] 0 (vd w))).get? s.heap.objs.size=some (ly #[] 0 (vd w)):=kU _ rfl;have hT:Shared.TypeIs {s with heap:=s.heap.push (ly #[] 0 (vd w))} (.ref s.heap.objs.size) "set":=⟨_,hS,rfl⟩
   have hli:=Iq.init.lookup;have hbi:=Iq.init.bind (.ref s.heap.objs.size)
   repeat (any_goals (first|assumption|wp_step))
   refine rd (CQ (R:=wants (fun r z=>r= .none/\Q (.ref s.heap.objs.size) z) E) Iq.init.plain PySem.F.entry_set_init (check_set_init hT ?_)) fun r₂ s₂ fq=>?_
   ·unfold Builtin.«set.__init__» noKeywords
    wp_walk
    exact⟨rfl,h⟩
   ·cases r₂ with
    |error e=>exact fq
    |ok fl₂=>
     cases fl₂ with
     |ret r=>
      obtain⟨rfl,hq⟩:=fq
      repeat (any_goals (first|assumption|wp_step))
     |_=>exact fq.elim
  |_=>exact hr.elim
end
end TT
namespace PX
open PySem PySem.Spec PyProof.Rows L2 PySem.SeqAt TS
theorem D.hashL_map: ∀l:List D,D.hashL l=l.map D.hash
 |[]=>by rw[D.hashL];rfl
 |d::l=>by rw[D.hashL,D.hashL_map l];rfl
theorem xl: ∀{l:List D} {d:D},D.prL l=true->d∈l->D.pr d=true
 |[],d,_,h=>by simp at h
 |e::l,d,hp,h=>by
  rw[D.prL,jY] at hp;rcases lq.mp h with rfl|h
  ·exact hp.1
  ·exact xl hp.2 h
theorem oZ: ∀{l:List D} {d:D},d∈l->d.dep<=D.depL l:=fun {l d} h=>by
 obtain⟨j,hj⟩:=qX h;exact D.dep_mem hj
section
variable {X:Cx}{pins:gZ}{σ:L2.St}{H:Hp}{s:gu}
def RepV(X:Cx)(H:Hp)(O:AP')(ds:List D)(b6:ir):Prop:= ∃xs,RepL X.K H O ds xs/\Vals xs b6
theorem RepV.cons(h:RepV X H O (d::ds) (v::b6)):(∃x,Rep X.K H O d x/\RelV x v)/\RepV X H O ds b6:=by
 obtain⟨xs,r,vs⟩:=h;rw[RepL] at r;obtain⟨x,xr,rfl,r1,r2⟩:=r
 cases vs with
 |cons a b=>exact⟨⟨x,r1,a⟩,xr,r2,b⟩
theorem RepV.nil_of{O:AP'}{ds:List D}(h:RepV X H O ds []):ds=[]:=by
 obtain⟨xs,r,vs⟩:=h;cases vs
 cases ds with
 |nil=>rfl
 |cons d ds=>rw[RepL] at r;obtain⟨_,_,e,_⟩:=r;cases e
theorem RepV.cons_of(h:RepV X H O ds (v::b6)): ∃d ds',ds=d::ds':=by
 cases ds with
 |nil=>obtain⟨xs,r,vs⟩:=h;rw[RepL] at r;subst r;cases vs
 |cons d ds=>exact⟨d,ds,rfl⟩
theorem Ke: ∀(n:Nat) {s:gu} (I:Inv X pins σ H s) (d:D) (v:V) (u:gy) (O:AP') (A:gG) (E:hV) (Q:Int->Shared->Prop),Rep X.K H O d v->RelV v u->D.pr d=true->d.dep<=n->A.units+n<cLine->(∀tk,s.toks<=tk->Q d.hash {s with toks:=tk})->
  wpAny (model X.prog X.w) A (pyHash u) Q E s:=by
 intro n
 induction n with
 |zero=>
  intro s I d v u O A E Q hr rv hp hd hA hQ
  cases d with
  |int i=>
   have:=hr.int;subst this;obtain⟨t,rfl⟩:=rv;have:=hQ (s.toks+1) (wA _);rw[D.hash] at this;exact DJ this
  |tup l=>rw[D.dep] at hd;omega
  |_=>simp[D.pr] at hp
 |succ n ih=>
  intro s I d v u O A E Q hr rv hp hd hA hQ
  cases d with
  |int i=>
   have:=hr.int;subst this;obtain⟨t,rfl⟩:=rv;have:=hQ (s.toks+1) (wA _);rw[D.hash] at this;exact DJ this
  |tup l=>
   rw[D.pr] at hp;rw[D.dep] at hd;obtain⟨a,xs,rfl,q,r⟩:=hr.tup;cases rv;obtain⟨b6,vs,⟨o,ho,hc,nn,cG⟩,_⟩:=I.tuple q.sq;have hT:s.TypeIs (.ref a) "tuple":=⟨o,ho,hc⟩
   have hu:A.units<cLine:=by omega
   unfold pyHash;unfold pyHashByItsType;refine gw (wpAny_cRoomFor_or (.inr hu) ?_);refine gw (uo hT Fb.lookup ?_);show wpAny _ _ (if(some (Value.builtin "tuple.__hash__")==some Value.none)=true then _ else _) Q E s;rw[gC (by rw[beq_builtin_none];exact jl)];refine gw (uo hT Fb.lookup ?_);show wpAny _ _ (callSpecialIfBoundUnlessNone? (.ref a) "__hash__" _>>=_) Q E s;refine gw (wpAny_callSpecialIfBoundUnlessNone?_slot hT Fb (pO Fb hT PySem.F.entry_tuple_hash ?_ (PySem.F.args_tuple_hash_1 _)));show wpAny _ _ (Builtin.Tuple.tupleItemsOf (.ref a)>>=_) _ _ s;refine gw (wpAny_tupleItemsOf ho cG ?_);refine gw ?_;rw[<-zW]
   refine sD _
    (fun hG (b:Array Int) s'=> ∃done left,l=done++left/\RepV X H (fun a=>O a) left hG/\b.toList=done.map D.hash/\ ∃tk,s.toks<=tk/\s'={s with toks:=tk})
    _ ?_ ?_ _ _ ⟨[],l,rfl,⟨xs,r,by simpa using vs⟩,rfl,s.toks,ic _,rfl⟩
   ·rintro x hG b s' ⟨done,left,rfl,hl,hb,tk,bQ,rfl⟩;obtain⟨d,left,rfl⟩:=hl.cons_of;obtain⟨⟨y,h1,h2⟩,h3⟩:=hl.cons;have hm:d∈done++d::left:=by simp
    have fP:=oZ hm;refine gw (ih (I.kept (h':=s.heap) (t':=tk) fun _ _ e=>e) d y x O A.in1 E _ h1 h2 (xl hp hm) (by omega) (by show A.units+1+n<cLine;omega) fun dW htk'=>?_)
    first
     |exact gA ⟨done++[d],left,by simp,h3,by simp[hb],dW,ll bQ htk',rfl⟩
     |exact gw (gA (gA ⟨done++[d],left,by simp,h3,by simp[hb],dW,ll bQ htk',rfl⟩))
   ·rintro b s' ⟨done,left,rfl,hl,hb,tk,bQ,rfl⟩;have:=hl.nil_of;subst this;have h:=hQ (tk+1) (Nat.le_succ_of_le bQ);rw[D.hash,D.hashL_map,sN] at h;show wpAny _ _ (retInt (Builtin.Tuple.tupleHashOf b.toList)) _ _ _;rw[hb];refine wpAny_ret_mkInt ?_;show wpAny _ _ (if(decide (-(2:Int)^63<=Builtin.Tuple.tupleHashOf (done.map D.hash))&&decide (Builtin.Tuple.tupleHashOf (done.map D.hash)<2^63))=true then _ else _) Q E _;unfold reduceHash at h;by_cases hr:(decide (-(2:Int)^63<=Builtin.Tuple.tupleHashOf (done.map D.hash))&&decide (Builtin.Tuple.tupleHashOf (done.map D.hash)<2^63))=true
    ·rw[gz hr];rw[gz hr] at h;exact gA h
    ·rw[gC hr];rw[gC hr] at h;exact gw (uO (gA h))
  |_=>simp[D.pr] at hp
theorem Rl(I:Inv X pins σ H s): ∀(n:Nat) (d:D) (v:V) (u:gy) (O:AP') (A:gG) (E:hV) (Q:sy),Rep X.K H O d v->RelV v u->D.pr d=true->d.dep<=n->Q true s->wpAny (model X.prog X.w) A (hashByValue n u) Q E s:=by
 intro n
 induction n with
 |zero=>
  intro d v u O A E Q hr rv hp hd hQ
  cases d with
  |int i=>
   have:=hr.int;subst this;obtain⟨t,rfl⟩:=rv;exact sG (show hashByValue 0 (.int i t)=pure true by simp[hashByValue]) hQ
  |tup l=>rw[D.dep] at hd;omega
  |_=>simp[D.pr] at hp
 |succ n ih=>
  intro d v u O A E Q hr rv hp hd hQ
  cases d with
  |int i=>
   have:=hr.int;subst this;obtain⟨t,rfl⟩:=rv;exact sG (show hashByValue (n+1) (.int i t)=pure true by simp[hashByValue]) hQ
  |tup l=>
   rw[D.pr] at hp;rw[D.dep] at hd;obtain⟨a,xs,rfl,q,r⟩:=hr.tup;cases rv;obtain⟨b6,vs,⟨o,ho,hc,nn,cG⟩,_⟩:=I.tuple q.sq;have hT:s.TypeIs (.ref a) "tuple":=⟨o,ho,hc⟩
   unfold hashByValue;refine gw (uo hT Fb.lookup ?_);dsimp only;refine gw (CP ho cG ?_);refine gw ?_;show wpAny _ _ (forIn b6.toArray _ _) _ _ s;rw[<-zW];refine sD _ (fun hG rr s'=>rr.1=none/\s'=s/\ ∃left,(∀d∈left,d∈l)/\RepV X H O left hG) _ ?_ ?_ _ _ ⟨rfl,rfl,l,fun d h=>h,xs,r,by simpa using vs⟩
   ·rintro x hG rr s' ⟨h0,rfl,left,hm,hl⟩;obtain⟨d,left,rfl⟩:=hl.cons_of;obtain⟨⟨y,h1,h2⟩,h3⟩:=hl.cons;have bR:=hm d iN;have fP:=oZ bR;refine gw (ih d y x O A E _ h1 h2 (xl hp bR) (by omega) ?_);simp only[lH,iJ,iX];exact gA ⟨rfl,rfl,left,fun d h=>hm d (iK _ h),h3⟩
   ·rintro⟨r1,r2⟩ s' ⟨h0,rfl,_⟩;simp only at h0;subst h0;exact gA hQ
  |_=>simp[D.pr] at hp
theorem Lw{P:gM}{W:gE}(I:Inv X pins σ H s): ∀(n:Nat) (d:D) (v:V) (u:gy) (O:AP') (A:gG) (E:hV) (Q:sy),Rep X.K H O d v->RelV v u->D.pr d=true->d.dep<=n->Q true s->wpAny (model P W) A (eqIsQuiet n u) Q E s:=by
 intro n
 induction n with
 |zero=>
  intro d v u O A E Q hr rv hp hd hQ
  cases d with
  |int i=>
   have:=hr.int;subst this;obtain⟨t,rfl⟩:=rv;exact sG (eqIsQuiet_byValue 0 rfl) hQ
  |tup l=>rw[D.dep] at hd;omega
  |_=>simp[D.pr] at hp
 |succ n ih=>
  intro d v u O A E Q hr rv hp hd hQ
  cases d with
  |int i=>
   have:=hr.int;subst this;obtain⟨t,rfl⟩:=rv;exact sG (eqIsQuiet_byValue (n+1) rfl) hQ
  |tup l=>
   rw[D.pr] at hp;rw[D.dep] at hd;obtain⟨a,xs,rfl,q,r⟩:=hr.tup;cases rv;obtain⟨b6,vs,⟨o,ho,hc,nn,cG⟩,_⟩:=I.tuple q.sq;have hT:s.TypeIs (.ref a) "tuple":=⟨o,ho,hc⟩
   unfold eqIsQuiet;refine gw (uo hT PySem.F.slot_tuple_eq.lookup ?_);show wpAny _ _ (isInstance (.ref a) (.type "tuple")>>=_) _ _ s;refine gw (CS hT isSubtype_tuple_tuple ?_);simp only[lH,iJ,iX];refine gw (CP ho cG ?_);refine gw ?_;show wpAny _ _ (forIn b6.toArray _ _) _ _ s;rw[<-zW];refine sD _ (fun hG rr s'=>rr.1=none/\s'=s/\ ∃left,(∀d∈left,d∈l)/\RepV X H O left hG) _ ?_ ?_ _ _ ⟨rfl,rfl,l,fun d h=>h,xs,r,by simpa using vs⟩
   ·rintro x hG rr s' ⟨h0,rfl,left,hm,hl⟩;obtain⟨d,left,rfl⟩:=hl.cons_of;obtain⟨⟨y,h1,h2⟩,h3⟩:=hl.cons;have bR:=hm d iN;have fP:=oZ bR;refine gw (ih d y x O A E _ h1 h2 (xl hp bR) (by omega) ?_);simp only[lH,iJ,iX];exact gA ⟨rfl,rfl,left,fun d h=>hm d (iK _ h),h3⟩
   ·rintro⟨r1,r2⟩ s' ⟨h0,rfl,_⟩;simp only at h0;subst h0;exact gA hQ
  |_=>simp[D.pr] at hp
theorem G6{P:gM}{W:gE}(I:Inv X pins σ H s): ∀(n:Nat) (d:D) (v:V) (u:gy) (O:AP') (A:gG) (E:hV) (Q:sy),Rep X.K H O d v->RelV v u->D.pr d=true->d.dep<=n->Q false s->wpAny (model P W) A (ofAClassStatement n u) Q E s:=by
 intro n
 induction n with
 |zero=>
  intro d v u O A E Q hr rv hp hd hQ
  cases d with
  |int i=>
   have:=hr.int;subst this;obtain⟨t,rfl⟩:=rv;exact sG (show ofAClassStatement 0 (.int i t)=pure false by simp[ofAClassStatement]) hQ
  |tup l=>rw[D.dep] at hd;omega
  |_=>simp[D.pr] at hp
 |succ n ih=>
  intro d v u O A E Q hr rv hp hd hQ
  cases d with
  |int i=>
   have:=hr.int;subst this;obtain⟨t,rfl⟩:=rv;exact sG (show ofAClassStatement (n+1) (.int i t)=pure false by simp[ofAClassStatement]) hQ
  |tup l=>
   rw[D.pr] at hp;rw[D.dep] at hd;obtain⟨a,xs,rfl,q,r⟩:=hr.tup;cases rv;obtain⟨b6,vs,⟨o,ho,hc,nn,cG⟩,_⟩:=I.tuple q.sq;have hT:s.TypeIs (.ref a) "tuple":=⟨o,ho,hc⟩
   unfold ofAClassStatement;refine gw (vq hT ?_);dsimp only;rw[gz (by decide)];refine gw (gA ?_);simp only[lH,iJ,iX];refine gw (CP ho cG ?_);dsimp only;refine gw ?_;show wpAny _ _ (forIn b6.toArray _ _) _ _ s;rw[<-zW];refine sD _ (fun hG rr s'=>rr.1=none/\s'=s/\ ∃left,(∀d∈left,d∈l)/\RepV X H O left hG) _ ?_ ?_ _ _ ⟨rfl,rfl,l,fun d h=>h,xs,r,by simpa using vs⟩
   ·rintro x hG rr s' ⟨h0,rfl,left,hm,hl⟩;obtain⟨d,left,rfl⟩:=hl.cons_of;obtain⟨⟨y,h1,h2⟩,h3⟩:=hl.cons;have bR:=hm d iN;have fP:=oZ bR;refine gw (ih d y x O A E _ h1 h2 (xl hp bR) (by omega) ?_);simp only[iJ,iX];exact gA ⟨rfl,rfl,left,fun d h=>hm d (iK _ h),h3⟩
   ·rintro⟨r1,r2⟩ s' ⟨h0,rfl,_⟩;simp only at h0;subst h0;exact gA hQ
  |_=>simp[D.pr] at hp
end
def okS:D->Bool
 | .tup l=>D.prL l&&decide (D.depL l<=6)
 |_=>false
theorem nI(h:okS d=true): ∃l,d= .tup l:=by cases d<;>first|exact⟨_,rfl⟩|(simp[okS] at h)
theorem pZ(h:okS d=true):D.pr d=true:=by
 obtain⟨l,rfl⟩:=nI h;simp only[okS,jY] at h;rw[D.pr];exact h.1
theorem oP(h:okS d=true):d.dep<=7:=by
 obtain⟨l,rfl⟩:=nI h;simp only[okS,jY,pK] at h;rw[D.dep];omega
mutual
theorem yy: ∀x y:D,D.pr x=true->D.pr y=true->cT x y= .eq->x=y
 | .int i,.int j,_,_,h=>by
  rw[cT] at h;by_cases h1:i<j
  ·rw[gz h1] at h;cases h
  ·rw[gC h1] at h;by_cases h2:i=j
   ·rw[h2]
   ·rw[gC h2] at h;cases h
 | .tup l,.tup m,h1,h2,h=>by rw[D.pr] at h1 h2;rw[cT] at h;rw[CD l m h1 h2 h]
 | .int _,.tup _,_,_,h=>by simp[cT] at h
 | .tup _,.int _,_,_,h=>by simp[cT] at h
 | .non,_,h,_,_=>by simp[D.pr] at h
 | .bl _,_,h,_,_=>by simp[D.pr] at h
 | .str _,_,h,_,_=>by simp[D.pr] at h
 | .lst _,_,h,_,_=>by simp[D.pr] at h
 | .oth _ _ _,_,h,_,_=>by simp[D.pr] at h
 |_,.non,_,h,_=>by simp[D.pr] at h
 |_,.bl _,_,h,_=>by simp[D.pr] at h
 |_,.str _,_,h,_=>by simp[D.pr] at h
 |_,.lst _,_,h,_=>by simp[D.pr] at h
 |_,.oth _ _ _,_,h,_=>by simp[D.pr] at h
theorem CD: ∀l m:List D,D.prL l=true->D.prL m=true->cL l m= .eq->l=m
 |[],[],_,_,_=>rfl
 |[],_::_,_,_,h=>by simp[cL] at h
 |_::_,[],_,_,h=>by simp[cL] at h
 |x::l,y::m,h1,h2,h=>by
  rw[D.prL,jY] at h1 h2;rw[cL] at h
  cases hc:cT x y with
  |lt=>rw[hc] at h;cases h
  |gt=>rw[hc] at h;cases h
  |eq=>
   rw[hc] at h;rw[yy x y h1.1 h2.1 hc,CD l m h1.2 h2.2 h]
end
theorem EJ(h1:D.pr x=true)(h2:D.pr y=true):D.eqb x y=true↔x=y:=by
 rw[EK x y h1 h2];constructor
 ·intro h;exact yy x y h1 h2 (by simpa using h)
 ·rintro rfl;rw[A5];rfl
def Bb(vs:List D)(d:D):List D:=if vs.any (D.eqb · d)=true then vs else vs++[d]
theorem lV{α β:Type}(f:α->β){zs m:List β}(h:zs.Perm m): ∀l:List α,m=l.map f-> ∃l':List α,l'.Perm l/\zs=l'.map f:=by
 induction h with
 |nil=>
  intro l e;have:l=[]:=by simpa using e.symm
  subst this;exact⟨[],.refl _,rfl⟩
 |cons x _ ih=>
  intro l e
  cases l with
  |nil=>simp at e
  |cons y l=>
   simp only[iY,List.cons.injEq] at e;obtain⟨l',p,q⟩:=ih l e.2;exact⟨y::l',p.cons y,by rw[q,e.1];rfl⟩
 |swap x y l0=>
  intro l e
  cases l with
  |nil=>simp at e
  |cons a l=>
   cases l with
   |nil=>simp at e
   |cons b l=>
    simp only[iY,List.cons.injEq] at e;exact⟨b::a::l,.swap a b l,by rw[e.1,e.2.1,e.2.2];rfl⟩
 |trans _ _ eY eX=>
  intro l e;obtain⟨l1,p1,q1⟩:=eX l e;obtain⟨l2,p2,q2⟩:=eY l1 q1;exact⟨l2,p2.trans p1,q2⟩
theorem vA{α β:Type}{F:α->β->Prop}{es m:List β}(h:es.Perm m): ∀{z:List α},Paired F z m-> ∃z':List α,Paired F z' es/\z'.Perm z:=by
 induction h with
 |nil=>intro z p;exact⟨z,p,.refl _⟩
 |cons x _ ih=>
  intro z p
  cases p with
  |cons r t=>
   obtain⟨z',h1,h2⟩:=ih t;exact⟨_::z',.cons r h1,h2.cons _⟩
 |swap x y l0=>
  intro z p
  cases p with
  |cons r t=>
   cases t with
   |cons r' t=>exact⟨_,.cons r' (.cons r t),.swap _ _ _⟩
 |trans _ _ eY eX=>
  intro z p;obtain⟨z1,p1,q1⟩:=eX p;obtain⟨z2,p2,q2⟩:=eY p1;exact⟨z2,p2,q2.trans q1⟩
theorem RepL.zip{K H}{O:AP'}: ∀{l:List D} {vs:List V},RepL K H O l vs-> ∀p∈l.zip vs,Rep K H O p.1 p.2
 |[],vs,h,p,hp=>by simp at hp
 |d::l,vs,h,p,hp=>by
  rw[RepL] at h;obtain⟨v,r,rfl,h1,h2⟩:=h;rw[uz] at hp;rcases lq.mp hp with rfl|hp
  ·exact h1
  ·exact RepL.zip h2 p hp
theorem RepL.ofZip{K H}{O:AP'}: ∀{l:List (D×V)},(∀p∈l,Rep K H O p.1 p.2)->RepL K H O (l.map (·.1)) (l.map (·.2))
 |[],_=>RepL.nil
 |p::l,h=>RepL.cons (h p iN) (RepL.ofZip fun q hq=>h q (iK _ hq))
abbrev hv(p:D×V):Int×V:=(D.hash p.1,p.2)
theorem wJ: ∀(vs:List D) (us:List V),(D.hashL vs).zip us=(vs.zip us).map hv
 |[],us=>by simp[D.hashL]
 |d::vs,[]=>by simp
 |d::vs,u::us=>by rw[D.hashL,uz,uz,iY,wJ vs us]
section
variable {X:Cx}{pins:gZ}{σ:L2.St}{H:Hp}{s:gu}
structure SetV(X:Cx)(H:Hp)(O:AP')(h:gL)(a:gm)(vs:List D)(es:mv)(n:Nat)(t:kE)(l:List (D×V)):Prop where
 is:TT.SetIs X.w h a es n t
 perm:(l.map (·.1)).Perm vs
 rep: ∀p∈l,Rep X.K H O p.1 p.2
 par:Paired (fun(z:Int×V) (e:Int×Value)=>z.1=e.1/\RelV z.2 e.2) (l.map hv) es.toList
theorem xu{α β:Type}{F:α->β->Prop}: ∀{l:List α} {m:List β},Paired F l m-> ∀{i:Nat} {b:β},m[i]?=some b-> ∃a,l[i]?=some a/\F a b
 |_,_,.nil,i,b,h=>by simp at h
 |_,_,.cons r t,0,b,h=>by simp at h;subst h;exact⟨_,rfl,r⟩
 |_,_,.cons r t,i+1,b,h=>by
  obtain⟨a,h1,h2⟩:=xu t (i:=i) (b:=b) (by simpa using h);exact⟨a,by simpa using h1,h2⟩
theorem xt{α β:Type}{F:α->β->Prop}: ∀{l:List α} {m:List β},Paired F l m->l.length=m.length
 |_,_,.nil=>rfl
 |_,_,.cons r t=>by simp[xt t]
theorem rY: ∀{l:List (Int×V)} {m:List (Int×Value)},Paired (fun(z:Int×V) (e:Int×Value)=>z.1=e.1/\RelV z.2 e.2) l m->l.map (·.1)=m.map (·.1)
 |_,_,.nil=>rfl
 |_,_,.cons r t=>by rw[iY,iY,r.1,rY t]
theorem SetV.srch(I:Inv X pins σ H s){O O':AP'}{a:gm}{vs:List D}{es n t l}(S:SetV X H O s.heap a vs es n t l)(hok:vs.all okS=true){d:D}{v:V}{u:gy}(hd:iW X.K H O' d v)(ru:RelV v u)(ae:okS d=true){A:gG}(hA:A.units+60<cLine):
  ∃b,u= .ref b/\TT.Srch A s a es n t u d.hash (fun i=>match l[i]? with|some p=>D.eqb p.1 d|none=>false):=by
 obtain⟨ld,rfl⟩:=nI ae;obtain⟨b,xs,rfl,q,r⟩:=kG hd;cases ru;have hdp:=oP ae;have eG:=pZ ae;have mem: ∀p∈l,okS p.1=true:=fun p hp=>kZ.mp hok _ (S.perm.mem_iff.mp (wc hp))
 have at_: ∀(i:Nat) (e:Int×Value),es[i]?=some e-> ∃p,l[i]?=some p/\p∈l/\D.hash p.1=e.1/\RelV p.2 e.2:=fun i e he=>by
  obtain⟨z,h1,h2,h3⟩:=xu S.par (i:=i) (b:=e) (by rw[lj];exact he);rw[iO] at h1
  cases hl:l[i]? with
  |none=>rw[hl] at h1;cases h1
  |some p=>rw[hl] at h1;cases h1;exact⟨p,rfl,kF hl,h2,h3⟩
 have hqu: ∀(e:D) (y:V) (uu:gy) (OO:AP') (B:gG) (P:gM) (W:gE) (Q:sy) (E:hV),okS e=true->iW X.K H OO e y->RelV y uu->Q true s->wpAny (model P W) B (eqIsQuiet 8 uu) Q E s:=fun e y uu OO B P W Q E ho hv hr hq=>by
  obtain⟨le,rfl⟩:=nI ho;rcases hv with hv|⟨_,_,hv⟩
  ·exact Lw I 8 _ _ _ OO B E Q hv hr (pZ ho) (by have:=oP ho;omega) hq
  ·exact hv.elim
 have af: ∀(e:D) (y:V) (uu:gy) (OO:AP') (B:gG) (P:gM) (W:gE) (Q:sy) (E:hV),okS e=true->iW X.K H OO e y->RelV y uu->Q false s->wpAny (model P W) B (ofAClassStatement 8 uu) Q E s:=fun e y uu OO B P W Q E ho hv hr hq=>by
  obtain⟨le,rfl⟩:=nI ho;rcases hv with hv|⟨_,_,hv⟩
  ·exact G6 I 8 _ _ _ OO B E Q hv hr (pZ ho) (by have:=oP ho;omega) hq
  ·exact hv.elim
 refine⟨b,rfl,⟨_,S.is.at_,rfl⟩,S.is.tab,fun i e he=>?_,fun i e he=>?_,fun i e he hq=>?_,fun ls prog w E Q hls hq=>?_⟩
 ·obtain⟨p,h1,h2,h3,h4⟩:=at_ i e he;obtain⟨lp,hp⟩:=nI (mem p h2);have:=S.rep p h2;rw[hp] at this;obtain⟨c,xs,e1,_⟩:=this.tup;rw[e1] at h4;exact⟨c,h4⟩
 ·obtain⟨p,h1,h2,h3,h4⟩:=at_ i e he;rw[h1];have:=oP (mem p h2);exact yp I 50 p.1 (.tup ld) p.2 (.ref b) _ _ O O' A (.inl (S.rep p h2)) hd h4 rfl (by omega) (by omega) (by omega)
 ·obtain⟨p,h1,h2,h3,h4⟩:=at_ i e he;rw[h1] at hq;rw[(EJ (pZ (mem p h2)) eG).mp hq] at h3;exact h3.symm
 ·unfold searchCouldBeSeen;refine gw ?_;refine sD _ (fun hG rr s'=>rr.1=none/\s'=s/\ ∀v∈hG,∃e∈es.toList,e.2=v) _ ?_ ?_ _ _ ⟨rfl,rfl,hls⟩
  ·rintro y hG rr s' ⟨h0,rfl,hm⟩;have hrest: ∀v∈hG,∃e∈es.toList,e.2=v:=fun v hv=>hm v (iK _ hv);obtain⟨e,he,rfl⟩:=hm y iN;obtain⟨i,hi⟩:=qX he;rw[lj] at hi;obtain⟨p,h1,h2,h3,h4⟩:=at_ i e hi;obtain⟨lp,hp⟩:=nI (mem p h2);have eE:=S.rep p h2
   obtain⟨c,ec⟩: ∃c,e.2= .ref c:=by
    rw[hp] at eE;obtain⟨c,xs,e1,_⟩:=eE.tup;rw[e1] at h4;exact⟨c,h4⟩
   rw[ec] at h4 ⊢;dsimp only;split
   ·exact gA ⟨rfl,rfl,hrest⟩
   ·refine gw (hqu _ _ _ O' A prog w _ _ ae hd rfl ?_);simp only[lH,iJ,iX];refine gw (hqu _ _ _ O A prog w _ _ (mem p h2) (.inl eE) h4 ?_);simp only[lH,iJ,iX];refine gw (af _ _ _ O' A prog w _ _ ae hd rfl ?_);simp only[iJ,iX];refine gw (af _ _ _ O A prog w _ _ (mem p h2) (.inl eE) h4 ?_);simp only[iJ,iX];exact gA ⟨rfl,rfl,hrest⟩
  ·rintro⟨r1,r2⟩ s' ⟨h0,rfl,_⟩;simp only at h0;subst h0;exact gA hq
theorem OthB.setV(I:Inv X pins σ H s)(h:OthB X.K (H a) .set ks vs us)(r:RepL X.K H O vs us): ∃es n t l,SetV X H O s.heap a vs es n t l:=by
 obtain⟨_,zs,e,p⟩:=h;obtain⟨es,n,t,h1,h2,h3,h4,h5⟩:=(show ObjOk X.prog X.w H s.heap a (.stt zs) from I.hok a _ e)
 rw[wJ] at p;obtain⟨l,p1,rfl⟩:=lV hv p _ rfl;refine⟨es,n,t,l,⟨h1,by rw[<-rY h2];exact h3,h4,h5⟩,?_,fun q hq=>r.zip q (p1.mem_iff.mp hq),h2⟩;have:=p1.map (·.1);rw[List.map_fst_zip (by rw[r.length];exact ic _)] at this;exact this
theorem SetV.objOk{es n t l}(S:SetV X H O h a vs es n t l):ObjOk X.prog X.w H' h a (.stt (l.map hv)):=
 ⟨es,n,t,S.is.at_,S.par,by rw[rY S.par];exact S.is.tab,S.is.plain,S.is.led⟩
theorem SetV.lens{es n t l}(S:SetV X H O h a vs es n t l):es.size=vs.length/\l.length=vs.length:=by
 have h1:=xt S.par;have h2:=S.perm.length_eq;simp only[jk,jv] at h1 h2;omega
theorem SetV.oth{O:AP'}{h:gL}{a:gm}{vs:List D}{es n t l}(S:SetV X H O h a vs es n t l){K H'}{O':AP'}(hr: ∀p∈l,Rep K H' O' p.1 p.2)(hH:H' a=some (.stt (l.map hv))): ∃us,OthB K (H' a) .set [] vs us/\RepL K H' O' vs us:=by
 obtain⟨l',p1,p2⟩:=lV (·.1) S.perm.symm l rfl;refine⟨l'.map (·.2),⟨rfl,l.map hv,hH,?_⟩,?_⟩
 ·rw[p2,wJ]
  have:(l'.map (·.1)).zip (l'.map (·.2))=l':=by
   clear p1 p2
   induction l' with
   |nil=>rfl
   |cons x l ih=>rw[iY,iY,uz,ih]
  rw[this];exact(p1.map hv).symm
 ·rw[p2];exact RepL.ofZip fun p hp=>hr p (p1.mem_iff.mp hp)
theorem SetV.add(I:Inv X pins σ H s){es n t l}(S:SetV X H O s.heap a vs es n t l)(hok:vs.all okS=true)(hd:iW X.K H O' d v)(cJ:Rep X.K H O d v)(ru:RelV v u)(ae:okS d=true)(hz:vs.length<500)
  (hA:A.units+60<cLine) 
  (h: ∀r h' tk es' n' t' l',s.toks<=tk->Heap.SameBut a s.heap h'->SetV X H O h' a (Bb vs d) es' n' t' l'->Q r {s with heap:=h',toks:=tk}):wpAny (model X.prog X.w) A (setAdd a u) Q E s:=by
 obtain⟨bS,aL⟩:=S.lens;unfold setAdd;refine lY (gw (Ke 50 I d v u O A E _ cJ ru (pZ ae) (by have:=oP ae;omega) (by omega) fun tk bQ=>?_));have I1:Inv X pins σ H {s with toks:=tk}:=I.kept (h':=s.heap) (t':=tk) fun _ _ e=>e;obtain⟨b,rfl,Sr⟩:=SetV.srch (s:={s with toks:=tk}) I1 S hok hd ru ae hA;have mem: ∀p∈l,p.1∈vs:=fun p hp=>S.perm.mem_iff.mp (wc hp);refine TT.RZ Sr S.is.at_ S.is.plain (by omega) (fun Q' hq=>Rl I1 8 d v _ O A E Q' cJ ru (pZ ae) (by have:=oP ae;omega) hq) (fun⟨i,hi,hq⟩=>?_) (fun aK h' es' n' t' g1 g2 g3 g4 g5 g6=>?_)
 ·have:Bb vs d=vs:=by
   unfold Bb
   cases hl:l[i]? with
   |none=>rw[hl] at hq;cases hq
   |some p=>
    rw[hl] at hq;rw[gz (List.any_eq_true.mpr ⟨p.1,mem p (kF hl),hq⟩)]
  exact h false s.heap tk es n t l bQ (Heap.SameBut.refl a s.heap) (by rw[this];exact S)
 ·have aY:vs.any (D.eqb · d)=false:=by
   rw[List.any_eq_false];intro x hx;have bx:=S.perm.mem_iff.mpr hx;obtain⟨p,hp,rfl⟩:=oI.mp bx;obtain⟨i,hi⟩:=qX hp;have:=aK i (by have:=(pQ.mp hi).1;omega);rw[hi] at this;simpa using this
  have hadd:Bb vs d=vs++[d]:=by unfold Bb;rw[aY,gC jl]
  have par:Paired (fun(z:Int×V) (e:Int×Value)=>z.1=e.1/\RelV z.2 e.2) (((d,v)::l).map hv) ((d.hash,Value.ref b)::es.toList):= .cons ⟨rfl,ru⟩ S.par;obtain⟨z',p1,p2⟩:=vA g3 par;obtain⟨l',p3,rfl⟩:=lV hv p2 _ rfl;refine h true h' tk es' n' t' l' bQ g1 ⟨⟨g2,g4,g5,g6.trans S.is.led⟩,?_,fun p hp=>?_,p1⟩
  ·rw[hadd];refine(p3.map (·.1)).trans ?_;rw[iY];exact(S.perm.cons d).trans (HP d vs).symm
  ·rcases lq.mp (p3.mem_iff.mp hp) with rfl|hp
   ·exact cJ
   ·exact S.rep p hp
theorem PM:bootBuiltins "set"=some (.type "set"):=by decide+kernel
theorem Po(I:Inv X pins σ H s){es n t l}(S:SetV X H O s.heap a vs es n t l)(hok:vs.all okS=true)(hd:iW X.K H O d v)(ru:RelV v u)(ae:okS d=true)(hA:A.units+60<cLine) 
  (h: ∀tk,Q (vs.any (D.eqb · d)) {s with toks:=tk}):wpAny (model X.prog X.w) A (setContains a u) Q E s:=by
 obtain⟨bS,aL⟩:=S.lens
 have cJ:Rep X.K H O d v:=by
  obtain⟨ld,rfl⟩:=nI ae;rcases hd with hd|⟨_,_,hd⟩
  ·exact hd
  ·exact hd.elim
 unfold setContains;refine lY (gw (Ke 50 I d v u O A E _ cJ ru (pZ ae) (by have:=oP ae;omega) (by omega) fun tk bQ=>?_));have I1:Inv X pins σ H {s with toks:=tk}:=I.kept (h':=s.heap) (t':=tk) fun _ _ e=>e;obtain⟨b,rfl,Sr⟩:=SetV.srch (s:={s with toks:=tk}) I1 S hok hd ru ae hA;have mem: ∀p∈l,p.1∈vs:=fun p hp=>S.perm.mem_iff.mp (wc hp);refine gw (TT.Ro Sr S.is.at_ (fun i hi hq=>?_) fun aK=>?_)
 ·have:vs.any (D.eqb · d)=true:=by
   cases hl:l[i]? with
   |none=>rw[hl] at hq;cases hq
   |some p=>rw[hl] at hq;exact List.any_eq_true.mpr ⟨p.1,mem p (kF hl),hq⟩
  have hh:=h tk;rw[this] at hh;exact gA hh
 ·have:vs.any (D.eqb · d)=false:=by
   rw[List.any_eq_false];intro x hx;have bx:=S.perm.mem_iff.mpr hx;obtain⟨p,hp,rfl⟩:=oI.mp bx;obtain⟨i,hi⟩:=qX hp;have:=aK i (by have:=(pQ.mp hi).1;omega);rw[hi] at this;simpa using this
  have hh:=h tk;rw[this] at hh;exact gA hh
theorem EL(I:Inv X pins σ H s){es n t l}(S:SetV X H O s.heap a vs es n t l)(hok:vs.all okS=true)(hd:iW X.K H O d v)(ru:RelV v u)(ae:okS d=true)(hA:A.units+61<cLine) 
  (h: ∀tk,Q (vs.any (D.eqb · d)) {s with toks:=tk}):wpAny (model X.prog X.w) A (contains (.ref a) u) Q E s:=by
 have hT:=S.is.typeIs;unfold contains;refine lY (gw (uo hT HB.lookup ?_));change wpAny _ _ (if(some (Value.builtin "set.__contains__")==some Value.none)=true then _ else _) _ E s;rw[gC (by rw[beq_builtin_none];exact jl)];refine gw (wpAny_callSpecialUnlessNone?_slot (name:=Str.ofString "__contains__") hT HB (pO HB hT entry_set_contains ?_ (PySem.F.args_set_contains_2 _ _)));unfold Builtin.«frozenset.__contains__» Builtin.Frozenset.oneOther;simp only[uv,qY];unfold Builtin.Frozenset.addrOf Builtin.Frozenset.withSetAsKey;refine gw (gA ?_);dsimp only;refine gw (gA ?_);dsimp only;refine gw (wpAny_tryCatch ?_);refine Po I S hok hd ru ae (by show A.units+1+60<cLine;omega) fun tk=>?_;exact gA ⟨_,rfl,vr (h tk)⟩
def inX(d e:D):Option Bool:=match e with
 | .oth .set [] vs=>if vs.all okS=true/\okS d=true then some (vs.any (D.eqb · d)) else none
 |_=>inD d e
def tR(d e:D):Option (D×Bool):=(inX d e).map fun b=>(.bl (!b),false)
theorem D9(hu:X.A.units+62<cLine):OpR X (compareOp .NotIn) (rD X.K tR):=by
 intro pins s σ H x y v u Q I rx ry h;obtain⟨O,d,e,z,np,h1,h2,hg,G⟩:=h;obtain⟨b,hb,rfl⟩:=hZ hg;by_cases hs: ∃vs,e= .oth .set [] vs
 ·obtain⟨vs,rfl⟩:=hs;obtain⟨⟨ho,hd⟩,rfl⟩:=gY (show(if vs.all okS=true/\okS d=true then some (vs.any (D.eqb · d)) else none)=some b from hb);obtain⟨a,us,rfl,q,r⟩:=sV h2;cases ry;obtain⟨es,n,t,l,S⟩:=q.setV I r;change wpAny _ _ (contains (.ref a) v>>=fun b=>pure (Value.bool (!b))) _ _ s;refine gw (EL I S ho h1 rx hd (by omega) fun tk=>?_);exact gA ⟨.bl _,H,I.kept (h':=s.heap) (t':=tk) fun _ _ e=>e,rfl,G.bl⟩
 ·have:inD d e=some b:=by
   unfold inX at hb;split at hb
   ·exact absurd ⟨_,rfl⟩ hs
   ·exact hb
  exact G2 (by omega) pins s σ H x y v u Q I rx ry ⟨O,d,e,b,h1,h2,this,G.bl⟩
end
theorem Cm{x:D}: ∀{l:List D},l.Pairwise (fun a b=>ltT b a=false)->(vM ltT x l).Pairwise (fun a b=>ltT b a=false)
 |[],_=>Af _ _
 |y::l,h=>by
  rw[pE] at h;have W:=NB fun i:Nat=>match i with|0=>x|1=>y|_=>x
  rw[vM]
  cases hl:ltT y x with
  |true=>
   rw[gz rfl,pE];refine⟨fun z hz=>?_,Cm h.2⟩;rcases lq.mp ((qG ltT x l).mem_iff.mp hz) with rfl|hz
   ·rw[Es] at hl;rw[kX,kP,hl];simp
   ·exact h.1 z hz
  |false=>
   rw[gC jl,pE];refine⟨fun z hz=>?_,pE.mpr h⟩;rcases lq.mp hz with rfl|hz
   ·exact hl
   ·have h1:=h.1 z hz;rw[kX] at h1 hl ⊢;have a1:cT x y≠ .gt:=by rw[kP y x];cases hc:cT y x<;>simp_all
    have a2:cT y z≠ .gt:=by rw[kP z y];cases hc:cT z y<;>simp_all
    have a3:=qi x y z a1 a2;rw[kP x z];cases hc:cT x z<;>simp_all
theorem qu: ∀l:List D,(lu ltT l).Pairwise (fun a b=>ltT b a=false)
 |[]=> .nil
 |x::l=>by rw[lu];exact Cm (qu l)
theorem IV(hp:l.Perm m)(eG: ∀x∈l,D.pr x=true):lu ltT l=lu ltT m:=by
 refine C9 (fun x y hx hy h1 h2=>?_) (qu l) (qu m) ((jd ltT l).trans (hp.trans (jd ltT m).symm));have px:=eG x ((jd ltT l).mem_iff.mp hx);have py:=eG y (hp.mem_iff.mpr ((jd ltT m).mem_iff.mp hy));rw[kX] at h1 h2;refine yy x y px py ?_;rw[kP x y] at h1;cases hc:cT x y<;>simp_all
theorem GF{k:Nat}{l:List D}(h:SortsBy k l):lN l=true:=by
 unfold lN;rw[wj];right
 cases l with
 |nil=>rfl
 |cons x m=>
  simp only[jY,kZ,pK];refine⟨⟨by rw[h.hd x iN];rfl,fun y hy=>⟨⟨?_,h.pr y hy⟩,h.dp y hy⟩⟩,fun y hy z hz=>h.cm y hy z hz⟩;rw[h.hd x iN,h.hd y hy];simp
theorem BE(hp:l.Perm m)(h:lN m=true):lN l=true:=by
 rcases zf h with hl|⟨k,B⟩
 ·unfold lN;rw[wj];left;rw[hp.length_eq];simpa using hl
 ·exact GF (k:=k) ⟨fun x hx=>B.hd x (hp.mem_iff.mp hx),fun x hx=>B.pr x (hp.mem_iff.mp hx),fun x hx=>B.dp x (hp.mem_iff.mp hx),fun x hx y hy=>B.cm x (hp.mem_iff.mp hx) y (hp.mem_iff.mp hy)⟩
def qb(d:D):Option (D×Bool):=match d with
 | .oth .set [] vs=>if vs.all okS=true then kb vs else none
 |_=>nO d
section
variable {X:Cx}
theorem A4(hc:X.calm=true)(hu:X.A.units+62<cLine):ju X (.builtin "sorted") (rDn X.K (g1 qb)):=ph fun pins s σ H x u Q O d z I ru np hd hg G=>by
 by_cases hs: ∃vs,d= .oth .set [] vs
 ·obtain⟨vs,rfl⟩:=hs;have aO:(if vs.all okS=true then kb vs else none)=some z:=hg;split at aO
  ·rename_i hok;obtain⟨a,us,rfl,q,r⟩:=sV hd;cases ru;obtain⟨es,n,t,l,S⟩:=q.setV I r;obtain⟨bS,aL⟩:=S.lens;have wp:=TT.CN X.w a n es;obtain⟨z',p1,p2⟩:=vA wp S.par;obtain⟨l',p3,rfl⟩:=lV hv p2 _ rfl;have rr:RepL X.K H O (l'.map (·.1)) (l'.map (·.2)):=RepL.ofZip fun p hp=>S.rep p (p3.mem_iff.mp hp)
   have vv:Vals (l'.map (·.2)) ((TT.mh X.w a n es).toList.map (·.2)):=by
    clear p2 p3 rr wp;generalize (TT.mh X.w a n es).toList=m at p1;revert p1;generalize hz:l'.map hv=zz;intro p1
    induction p1 generalizing l' with
    |nil=>
      have:l'=[]:=by simpa using hz
      subst this;exact .nil
    |cons r t ih=>
     cases l' with
     |nil=>simp at hz
     |cons p l'=>
      simp only[iY,List.cons.injEq] at hz;rw[iY,iY];refine .cons ?_ (ih l' hz.2);have:=r.2;rw[<-hz.1] at this;exact this
   have aB:(l'.map (·.1)).Perm vs:=(p3.map (·.1)).trans S.perm
   have da:kb (l'.map (·.1))=some z:=by
    unfold kb at aO ⊢;obtain⟨⟨h1,h2⟩,rfl⟩:=gY aO;rw[gz ⟨BE aB h1,by rw[aB.length_eq];exact h2⟩,IV aB fun x hx=>pZ (kZ.mp hok x (aB.mem_iff.mp hx))]
   have hh:X.A.handled=none:=I.ok.hd hc
   have hz:es.size<=sizeLine:=by
    unfold kb at aO;rw[bS];exact(gY aO).1.2
   exact uR hu I rr vv da G fun Q' E' A' hA' hQ=>TT.MF (by rw[hA'];exact hh) S.is hz fun h' tk k=>hQ h' tk k
  ·cases aO
 ·have aO:g1 nO [d]=some z:=by
   have:qb d=nO d:=by
    unfold qb;split
    ·exact absurd ⟨_,rfl⟩ hs
    ·rfl
   show nO d=some z;rw[<-this];exact hg
  exact ud hu pins s σ H [x] [u] Q I (.cons ru .nil) ⟨O,[d],z,np,rfl,(fun j d' v' a b=>by
   cases j with
   |zero=>simp at a b;subst a;subst b;exact hd
   |succ j=>simp at a),aO,G⟩
end
section
variable {K:gQ}{H:Hp}{O:AP'}
end
section
variable {P:gM}{w:gE}{H H':Hp}{h:gL}{a:gm}
end
section
variable {X:Cx}{pins:gZ}{σ:L2.St}{H:Hp}{s:gu}
end
section
variable {X:Cx}
def Np:F:=fun δ=>some ((.oth .dct [] [],true),δ)
theorem LM{pos:Pos}:PX X (.Dict [] [] pos) Np:=PX.imp JF fun σ H Q hw=>by
 obtain⟨δ,T,rr,δ',E,e,k⟩:=hw;cases e;intro p hp;have B:=Ops.nil E;exact(B.done k) p _ hp (kM hp) ⟨[],.inl ⟨[],gU,rfl,rfl⟩,RepL.nil⟩
end
section
variable {K:gQ}{T:AP'}{σ:L2.St}{δ:Dn}{H:Hp}{i:Nat}{d0 d':D}{a:gm}{o:HO}
theorem OwnI.writeG{j:Nat}{b:gm}(hd:δ[i]?=some (some (d0,true)))(h:OwnI σ (δ.set i (some (d',true))) j b):OwnI σ δ j b:=by
 obtain⟨e,h1,h2⟩:=h;rcases kh h1 with⟨rfl,_,_⟩|⟨_,q⟩
 ·exact⟨_,hd,h2⟩
 ·exact⟨e,q,h2⟩
theorem ER.writeG(E:ER K H T σ δ)(hd:δ[i]?=some (some (d0,true)))(hs:σ[i]?=some (some (.ref a)))(r:OwnOk K (upd H a o) (fun b=>OwnA σ δ b\/T b) d' a):
  ER K (upd H a o) T σ (δ.set i (some (d',true)))/\Keep σ δ H (δ.set i (some (d',true))) (upd H a o):=by
 have hi:i<δ.length:=(pQ.mp hd).1;have oa:OwnA σ δ a:=⟨i,_,hd,hs⟩
 have aD: ∀b,OwnA σ (δ.set i (some (d',true))) b->OwnA σ δ b:=fun b ⟨j,e,h1,h2⟩=>by
  obtain⟨e',q1,q2⟩:=OwnI.writeG hd ⟨e,h1,h2⟩;exact⟨j,e',q1,q2⟩
 have kp: ∀b u,H b=some u-> ¬(OwnA σ δ b\/T b)->upd H a o b=some u:=fun b u e n=>by rw[gR (by intro z;subst z;exact n (.inl oa))];exact e
 have dm: ∀b,H b≠none->upd H a o b≠none:=fun b z=>by
  by_cases hb:b=a
  ·subst hb;rw[gU];simp
  ·rw[gR hb];exact z
 have sub: ∀b,(OwnA σ (δ.set i (some (d',true))) b\/T b)->OwnA σ δ b\/T b:=fun b z=>z.imp (aD b) id;refine⟨⟨by rw[pN];exact E.len,fun j e hj=>?_,fun j e hj=>?_,fun j k e f b hj hk h1 h2=>?_,fun b z=>E.nT b (aD b z),fun b z=>by have ne:b≠a:=fun e=>E.nT a oa (e▸z);rw[gR ne];exact E.dom b z⟩,⟨fun b u e n=>by rw[gR (by intro z;subst z;exact n oa)];exact e,fun j b z=>OwnI.writeG hd z,dm⟩⟩
 ·rcases kh hj with⟨_,_,q⟩|⟨_,q⟩
  ·cases q
  ·obtain⟨w,w1,w2⟩:=E.val j e q;exact⟨w,w1,Rep.mono kp (fun b _ z=>sub b z) w2⟩
 ·rcases kh hj with⟨rfl,_,q⟩|⟨ne,q⟩
  ·cases q;exact⟨a,hs,r.mono (fun _ _ e _=>e) (fun b _ z=>sub b z) fun _ e=>e⟩
  ·obtain⟨b,w1,w2⟩:=E.own j e q;refine⟨b,w1,w2.mono kp (fun b _ z=>sub b z) fun u eo=>?_⟩;rw[gR]
   ·exact eo
   ·intro z;subst z;exact ne (E.inj i j _ _ _ hd q hs w1)
 ·obtain⟨e1,q1,q2⟩:=OwnI.writeG hd ⟨e,hj,h1⟩;obtain⟨e2,q3,q4⟩:=OwnI.writeG hd ⟨f,hk,h2⟩;exact E.inj j k e1 e2 b q1 q3 q2 q4
end
section
variable {X:Cx}{pins:gZ}{σ:L2.St}{H:Hp}{s:gu}{a:gm}
end
section
variable {K:gQ}{H:Hp}{O:AP'}
end
section
variable {X:Cx}{e ix:gx}{f:F}{fo:FO}{pos f6 apos i4:Pos}{i:Nat}{x:Str}{A L:iu}{H0:Hp}
end
section
variable {X:Cx}
theorem LK(hg:Gl X x)(hm:X.mg x=some (.int i t))(hd:(x==("__debug__":Str))=false):PX X (.Name x pos) (fC (.int i)):=PX.imp (AH (v:= .int i) hg hm ⟨t,rfl⟩ hd) fun σ H Q h=>by
 obtain⟨δ,T,r,δ',E,e,k⟩:=h;cases e;exact k _ _ (Post.val .refl E Rep.mkInt)
theorem LJ(hg:Gl X x)(hm:X.mg x=some (.str i t))(hd:(x==("__debug__":Str))=false):PX X (.Name x pos) (fC (.str i)):=PX.imp (AH (v:= .str i) hg hm ⟨t,rfl⟩ hd) fun σ H Q h=>by
 obtain⟨δ,T,r,δ',E,e,k⟩:=h;cases e;exact k _ _ (Post.val .refl E Rep.mkStr)
def xb:FS:=fun _=>none
theorem GQ{A L:iu}{H0:Hp}{st:Stmt}:PSX X A L H0 st xb:=fun pins s σ H D I h=>by
 obtain⟨δ,T,out,E,fi,e,k⟩:=h;cases e
def Gb(i j:Int):F:=fun δ=>some ((.oth .dct [.int i] [.int j],true),δ)
theorem LL{i j:Int}{a b:Nat}{p1 p2 pos:Pos}:PX X (.Dict [some (.Constant (.int i) a p1)] [.Constant (.int j) b p2] pos) (Gb i j):=
 PX.imp (Mc (Ju D8 D8 L6) rfl rfl (by simp) (by simp)) fun σ H Q hw=>by
 obtain⟨δ,T,rr,δ',E,e,k⟩:=hw;cases e;intro p hp;refine⟨gU,[(.inl i,.int j)],rfl,by simp,?_⟩;have B:=Ops.nil E;refine(B.done k) p _ hp ?_ ⟨[.int j],.inl ⟨[(.inl i,.int j)],?_,rfl,rfl⟩,RepL.one Rep.mkInt⟩
 ·intro a o e;have w9:a≠p:=by intro z;subst z;rw[e] at hp;cases hp
  rw[gR w9,gR w9];exact e
 ·rw[gU];rfl
end
section
variable {X:Cx}{e:gx}{f:F}{pos f6 apos i4:Pos}{i:Nat}{x:Str}
end
structure PXs(X:Cx)(es:jf)(fs:List F):Prop where
 pa:PA X es (tA X.K (fs.map gq))
section
variable {X:Cx}{e:gx}{es:jf}{f:F}{fs:List F}{pos:Pos}
theorem Lx:PXs X [] []:=⟨FL⟩
theorem Jf(h:PX X e f)(hr:PXs X es fs)(hs:starEach (e::es) X.env=(false,eval e X.env)::starEach es X.env):PXs X (e::es) (f::fs):=⟨BZ (PX.po h) hr.pa hs⟩
theorem LH(h:PXs X es fs):PX X (.List es pos) (jw fs):=Od h.pa
theorem LA{x1}(h:PXs X es fs):PX X (.Tuple es x1 pos) (mZ fs):=N3 h.pa
theorem Jw{fe:FT}(h:PTX X e fe):PIf X [e] (tT X.K fe):=L8 h
theorem Ol{fe:FT}(h:PWX X e fe):PTX X e fe:=PW.pt h
end
structure QX(X:Cx)(e:gx)(f:F):Prop where
 h:PX X e f
structure QO(X:Cx)(e:gx)(f:FO):Prop where
 h:PX.PO X e f
structure QA(X:Cx)(es:jf)(fs:List FO):Prop where
 h:PA X es (tA X.K fs)
structure QL(X:Cx)(es:jf)(fs:List F):Prop where
 h:PXs X es fs
structure QT(X:Cx)(e:gx)(f:FT):Prop where
 h:PTX X e f
structure QW(X:Cx)(e:gx)(f:FT):Prop where
 h:PWX X e f
structure QG(X:Cx)(A:iu)(e:gx)(t:Tg):Prop where
 h:PGX X A e t
structure QI(X:Cx)(B:SB)(tg e:gx)(f:FIt):Prop where
 h:PIX X B tg e f
structure QF(X:Cx)(es:jf)(f:FT):Prop where
 h:PIf X es (tT X.K f)
structure QB(X:Cx)(A:iu)(d:gm)(e:gx)(n:Nat)(f:FB):Prop where
 h:PB X (iQ e n (.ref d) X.env) (tBx X.K A d f)
structure QS(X:Cx)(A L:iu)(H0:Hp)(st:Stmt)(f:FS):Prop where
 h:PSX X A L H0 st f
structure QQ(X:Cx)(A L:iu)(H0:Hp)(st:List Stmt)(f:FS):Prop where
 h:yI X A L H0 st f
structure QC(X:Cx)(v:gy)(g:List D->Option (D×Bool)):Prop where
 h:ju X v (rDn X.K g)
structure QP(X:Cx)(o:vh)(g:D->D->Option (D×Bool)):Prop where
 h:OpR X o (rD X.K g)
abbrev SE(X:Cx)(e:gx)(es:jf):Prop:=starEach (e::es) X.env=(false,eval e X.env)::starEach es X.env
abbrev BA(X:Cx)(p:Pos)(es:jf):Prop:=(backTo p (starEach es X.env)).any (·.1)=false
abbrev DB(x:Str):Prop:=(x==("__debug__":Str))=false
abbrev un(A:gG)(n:Nat):Prop:=A.units+n<cLine
structure ZZ where
 P:Program
 w:World
 K:PySem.W.Frag
 mg:Str->Option Value
 base:Heap
def Oz(Z:ZZ)(k:Nat)(x:Str)(ps:gT)(ev:EvF):Prop:= ∃f fd,FnOk Z.P Z.w Z.K Z.mg Z.base CX0 k f fd ps (spF Z.K ev)/\Z.mg x=some (.ref f)/\PySem.W.keepIn Z.K (.ref f)=true/\Binds Z.K fd ps []
theorem Oz.up{Z:ZZ}{k j:Nat}{x:Str}{ps:gT}{ev:EvF}(o:Oz Z k x ps ev)(h:k<=j:=by decide):Oz Z j x ps ev:=let⟨f,fd,a,b⟩:=o;⟨f,fd,a.mono h,b⟩
abbrev zX(X:Cx):ZZ:=⟨X.prog,X.w,X.K,X.mg,X.base⟩
def btT:List (Str×Value):=[("len",.builtin "len"),("abs",.builtin "abs"),("int",.type "int"),("tuple",.type "tuple"),("list",.type "list"),("bool",.type "bool"),("max",.builtin "max"),("min",.builtin "min"),("all",.builtin "all"),("any",.builtin "any"),("sorted",.builtin "sorted"),("set",.type "set")]
theorem btA{mg:jK}(T:Tx mg): ∀p∈btT,mg p.1=none/\bootBuiltins p.1=some p.2:=by
 have h: ∀p∈btT,bootBuiltins p.1=some p.2:=by decide+kernel
 intro p hp;refine⟨?_,h p hp⟩;have cx:p∈btT:=hp;unfold btT at cx;simp only[lq,mP,pR] at cx;rcases cx with rfl|rfl|rfl|rfl|rfl|rfl|rfl|rfl|rfl|rfl|rfl|rfl
 ·exact T.n_len
 ·exact T.n_abs
 ·exact T.n_int
 ·exact T.n_tuple
 ·exact T.n_list
 ·exact T.n_bool
 ·exact T.n_max
 ·exact T.n_min
 ·exact T.n_all
 ·exact T.n_any
 ·exact T.n_sorted
 ·exact T.n_set
theorem Et{z:Str}{v:gy}: ∀{l:List (Str×Value)},l.lookup z=some v->(z,v)∈l
 |[],h=>by cases h
 |(y,u)::l,h=>by
  rw[my] at h;split at h
  ·rename_i q;cases h;rw[qZ q];exact .head _
  ·exact .tail _ (Et h)
theorem btM{mg:jK}{z:Str}{v:gy}(T:Tx mg)(h:btT.lookup z=some v):mg z=none:=(btA T _ (Et h)).1
theorem btN{z:Str}{v:gy}(h:btT.lookup z=some v):bootBuiltins z=some v:=(show ∀p∈btT,bootBuiltins p.1=some p.2 from by decide+kernel) _ (Et h)
section
variable {X:Cx}{x z:Str}{e a b c st lo hi:gx}{es:jf}{fa fb fc fo fl fh:FO}{f g:F}{ft fu:FT}{p p2 p3 pos f6 apos:Pos}{A L:iu}{B:SB}{H0:Hp}{fs:List FO}{bW:List F}{i j k:Nat}{tg:gx}{S:Stmt}{Ss Ts:List Stmt}{u v:FS}
theorem xV(h1:X.N[i]?=some x:=by rfl)(h2:Vis X.env.scope x:=by first|exact Or.inl rfl|exact Or.inr (Or.inl rfl)|exact Or.inr (Or.inr rfl))(h3:DB x:=by decide)(h4:(x==("__classdict__":Str))=false:=by decide):QO X (.Name x pos) (gn i):=⟨OD h1 h2 h3 h4⟩
theorem xW(h1:X.N[i]?=some x:=by rfl)(h2:Vis X.env.scope x:=by first|exact Or.inl rfl|exact Or.inr (Or.inl rfl)|exact Or.inr (Or.inr rfl))(h3:DB x:=by decide)(h4:(x==("__classdict__":Str))=false:=by decide):QX X (.Name x pos) (js i):=⟨N2 h1 h2 h3 h4⟩
theorem xO(h:QX X e f):QO X e (gq f):=⟨PX.po h.h⟩
theorem x1{j}:QX X (.Constant .none j pos) (fC .non):=⟨Ob⟩
theorem x2{i j}:QX X (.Constant (.bool i) j pos) (fC (.bl i)):=⟨Nb⟩
theorem x3{i j}:QX X (.Constant (.int i) j pos) (fC (.int i)):=⟨Of⟩
theorem x4{i j}:QX X (.Constant (.str i) j pos) (fC (.str i)):=⟨N4⟩
theorem x5{i:Int}(h: ∃t,X.mg x=some (.int i t))(g:Gl X x:=by rfl)(h3:DB x:=by decide):QX X (.Name x pos) (fC (.int i)):=let⟨_,h⟩:=h;⟨LK g h h3⟩
theorem x6{i:Str}(h: ∃t,X.mg x=some (.str i t))(g:Gl X x:=by rfl)(h3:DB x:=by decide):QX X (.Name x pos) (fC (.str i)):=let⟨_,h⟩:=h;⟨LJ g h h3⟩
theorem x7:QX X (.Dict [] [] pos) Np:=⟨LM⟩
theorem x8{i j:Int}{a b:Nat}:QX X (.Dict [some (.Constant (.int i) a p)] [.Constant (.int j) b p2] pos) (Gb i j):=⟨LL⟩
theorem jg{op:Operator}{g:D->D->Option (D×Bool)}(o:QP X (binaryOp op) g)(ha:QO X a fa)(hb:QO X b fb):QX X (.BinOp a op b pos) (gK g fa fb):=⟨Oi o.h ha.h hb.h⟩
theorem yL(ha:QO X a fa):QX X (.UnaryOp .USub a pos) (jQ pG fa):=⟨Oc ha.h⟩
theorem Nw(ha:QX X a f):QX X (.UnaryOp .Not a pos) (Cs f):=⟨Oa ha.h⟩
theorem Qd{op:CmpOp}{g:D->D->Option (D×Bool)}(o:QP X (compareOp op) g)(ha:QO X a fa)(hb:QO X b fb)(hm:behindInMarks op b=false:=by first|exact JU _|with_unfolding_all rfl):QX X (.Compare a [op] [b] pos) (gK g fa fb):=⟨Oh o.h ha.h hb.h hm⟩
theorem tCmp{op:CmpOp}{g:D->D->Option (D×Bool)}(o:QP X (compareOp op) g)(ha:QO X a fa)(hb:QO X b fb)(hm:behindInMarks op b=false:=by first|exact JU _|with_unfolding_all rfl):QT X (.Compare a [op] [b] pos) (fT (gK g fa fb)):=⟨LX o.h ha.h hb.h hm⟩
theorem xCh{op aa:CmpOp}(ha:QO X a fa)(hb:QO X b fb)(hc:QO X c fc)(o1:tQ op:=by first|exact .inl rfl|exact .inr (.inl rfl)|exact .inr (.inr (.inl rfl))|exact .inr (.inr (.inr rfl)))(o2:tQ aa:=by first|exact .inl rfl|exact .inr (.inl rfl)|exact .inr (.inr (.inl rfl))|exact .inr (.inr (.inr rfl)))(hm:lastMarks [op,aa] [b,c]=false:=by with_unfolding_all rfl):QX X (.Compare a [op,aa] [b,c] pos) (vf op aa fa fb fc):=⟨Ji o1 o2 ha.h hb.h hc.h hm⟩
theorem xBo{op}(ha:QX X a f):QX X (.BoolOp op [a] pos) f:=⟨LP ha.h⟩
theorem K9(ha:QX X a f)(hb:QX X (.BoolOp .And (b::es) pos) g):QX X (.BoolOp .And (a::b::es) pos) (EI f g):=⟨Oj ha.h hb.h⟩
theorem wOr(ha:QT X a ft)(hb:QW X (.BoolOp .Or (b::es) pos) fu):QW X (.BoolOp .Or (a::b::es) pos) (Cr ft fu):=⟨Om ha.h hb.h⟩
theorem NC(ha:QT X a ft):QW X (.BoolOp .Or [a] pos) ft:=⟨LQ ha.h⟩
theorem tW{op}(h:QW X (.BoolOp op es pos) ft):QT X (.BoolOp op es pos) ft:=⟨Ol h.h⟩
theorem tNot(ha:QT X a ft):QT X (.UnaryOp .Not a pos) (ma ft):=⟨LW ha.h⟩
theorem yM(h:QX X e f)(he: ∀whole,isTrue e X.env whole=(do let v <-whole;standAt e.pos;holding [v] (truthy v)):=by intro _;rfl):QT X e (fT f):=⟨LR h.h he⟩
theorem xIf(hc:QT X c ft)(ha:QX X a f)(hb:QX X b g):QX X (.IfExp c a b pos) (fIf ft f g):=⟨QR hc.h ha.h hb.h⟩
theorem xIx(ha:QO X a fa)(hb:QO X b fb)(hs:Be b:=by exact fun _ _=>rfl):QX X (.Subscript a b pos) (gK gIx fa fb):=⟨QN ha.h hb.h hs⟩
theorem K8(ha:QO X a fa)(hl:QO X lo fl):QX X (.Subscript a (.Slice (some lo) none none p2) pos) (rC fa fl):=⟨LB ha.h hl.h⟩
theorem Iw(ha:QO X a fa)(hh:QO X hi fh):QX X (.Subscript a (.Slice none (some hi) none p2) pos) (qf fa fh):=⟨LD ha.h hh.h⟩
theorem R9(ha:QO X a fa)(hs:QO X st fb):QX X (.Subscript a (.Slice none none (some st) p2) pos) (Ks fa fb):=⟨N6 ha.h hs.h⟩
theorem xL0:QL X [] []:=⟨Lx⟩
theorem xL(ha:QX X e f)(hr:QL X es bW)(hs:SE X e es:=by rfl):QL X (e::es) (f::bW):=⟨Jf ha.h hr.h hs⟩
theorem xA0:QA X [] []:=⟨FL⟩
theorem xA(ha:QO X e fa)(hr:QA X es fs)(hs:SE X e es:=by rfl):QA X (e::es) (fa::fs):=⟨BZ ha.h hr.h hs⟩
theorem pF{k}(h:QL X es bW):QX X (.Tuple es k pos) (mZ bW):=⟨LA h.h⟩
theorem lM(h:QL X es bW):QX X (.List es pos) (jw bW):=⟨LH h.h⟩
theorem xB{id:String}{g:List D->Option (D×Bool)}(T:Tx X.mg)(hv:btT.lookup z=some (.builtin id))(hc:QC X (.builtin id) g)(ha:QA X (e::es) fs)(hg:Gl X z:=by rfl)(hn:z≠"__name__":=by decide)(m9:DB z:=by decide)(he:SE X e es:=by rfl)(j5:BA X pos es:=by rfl):QX X (.Call (.Name z p) (e::es) [] pos) (ig g fs):=⟨FC hc.h hg (btM T hv) (btN hv) ha.h hn m9 he j5⟩
theorem xT{id:String}{g:List D->Option (D×Bool)}(T:Tx X.mg)(hv:btT.lookup z=some (.type id))(hc:QC X (.type id) g)(ha:QA X (e::es) fs)(hg:Gl X z:=by rfl)(hn:z≠"__name__":=by decide)(m9:DB z:=by decide)(he:SE X e es:=by rfl)(j5:BA X pos es:=by rfl):QX X (.Call (.Name z p) (e::es) [] pos) (ig g fs):=⟨Lz hc.h hg (btM T hv) (btN hv) ha.h hn m9 he j5⟩
theorem xI{t:Ty}(T:Tx X.mg)(hz:btT.lookup z=some (.type t.n))(ha:QO X e fa)(hg:Gl X "isinstance":=by rfl)(cB:Gl X z:=by rfl)(hn:z≠"__name__":=by decide)(m9:DB z:=by decide)
  (s1:SE X e [.Name z p2]:=by rfl)(s2:SE X (.Name z p2) []:=by rfl)(j5:BA X pos [.Name z p2]:=by rfl):
  QX X (.Call (.Name "isinstance" p) [e,.Name z p2] [] pos) (jQ (AY [t]) fa):=⟨Oe ha.h hg T.n_isinstance cB (btM T hz) (btN hz) hn m9 nZ s1 s2 j5⟩
theorem xU{k:Nat}{ps:gT}{ev:EvF}(O:Oz (zX X) k x ps ev)(hr:Room k X.A)(ha:QA X (e::es) fs)(hg:Gl X x:=by rfl)(m9:DB x:=by decide)
  (he:SE X e es:=by rfl)(j5:BA X pos es:=by rfl):QX X (.Call (.Name x p) (e::es) [] pos) (gB ev fs):=
 let⟨_,_,ok,hm,kp,bi⟩:=O;⟨Ly ok hr hg hm kp bi ha.h m9 he j5⟩
theorem Nv{T:String}{mk:List D->D}{o:Bool}(X0:Tx X.mg)(hv:btT.lookup z=some (.type T))(ha:QA X [a,b] [fa,fb])(hT:(T="list"/\mk= .lst/\o=true)\/(T="tuple"/\mk= .tup/\o=false):=by first|exact .inl ⟨rfl,rfl,rfl⟩|exact .inr ⟨rfl,rfl,rfl⟩)(hc:X.calm=true:=by rfl)(hg:Gl X z:=by rfl)(hn:z≠"__name__":=by decide)(m9:DB z:=by decide)(da:Gl X "range":=by rfl)
  (s1:SE X (.Call (.Name "range" p2) [a,b] [] p3) []:=by rfl)(s2:SE X a [b]:=by rfl)
  (j5:BA X pos []:=by rfl)(bH:BA X p3 [b]:=by rfl):
  QX X (.Call (.Name z p) [.Call (.Name "range" p2) [a,b] [] p3] [] pos) (ig (gRg mk o) [fa,fb]):=⟨N5 hT hc hg (btM X0 hv) (btN hv) hn m9 da X0.n_range ha.h s1 s2 j5 bH⟩
theorem Nx(hv:QO X (.Name x f6) (gn i))(he:QX X e f)(j8:attributeBase (.Name x f6) "append" X.env (eval (.Name x f6) X.env)=eval (.Name x f6) X.env:=by rfl)
  (n6:((backTo pos (starEach [e] X.env)).all (fun x=>!x.1)&&(backToKw pos (keywordEach [] X.env)).all (fun x=>x.1.isSome)&&decide ([e].length+([]:List Keyword).length+(if([]:List Keyword).isEmpty then 0 else 1)<30))=true:=by rfl)
  (j7:(apos.endLine==pos.line)=true:=by rfl)(hs:SE X e []:=by rfl)(i6:BA X pos []:=by rfl):QX X (.Call (.Attribute (.Name x f6) "append" apos) [e] [] pos) (lW i f):=⟨GO hv.h he.h j8 n6 j7 hs i6⟩
theorem Sa(hv:QO X (.Name x f6) (gn i))(he:QO X e fo)(j8:attributeBase (.Name x f6) "pop" X.env (eval (.Name x f6) X.env)=eval (.Name x f6) X.env:=by rfl)
  (n6:((backTo pos (starEach [e] X.env)).all (fun x=>!x.1)&&(backToKw pos (keywordEach [] X.env)).all (fun x=>x.1.isSome)&&decide ([e].length+([]:List Keyword).length+(if([]:List Keyword).isEmpty then 0 else 1)<30))=true:=by rfl)
  (j7:(apos.endLine==pos.line)=true:=by rfl)(hs:SE X e []:=by rfl)(i6:BA X pos []:=by rfl):QX X (.Call (.Attribute (.Name x f6) "pop" apos) [e] [] pos) (sf i fo):=⟨Jg hv.h he.h j8 n6 j7 hs i6⟩
theorem iR1(T:Tx X.mg)(ha:QA X [a] [fa])(hg:Gl X "range":=by rfl)(hs:starEach [a] X.env=[(false,eval a X.env)]:=by rfl):QI X B tg (.Call (.Name "range" p) [a] [] pos) (AR fa):=⟨D7 hg T.n_range ha.h hs⟩
theorem iS(h:QX X e f):QI X B tg e (jT f):=⟨L7 h.h⟩
theorem iSV(h:QO X e (gn i))(hb:B i:=by decide):QI X B tg e (xS (gn i)):=⟨BW h.h (Lj hb)⟩
theorem gN(hN:X.N.Nodup)(hi:X.N[i]?=some x:=by rfl)(hx:Loc X.env.scope x:=by first|exact Or.inl rfl|exact Or.inr rfl)(hf:X.fn x=true\/X.env.scope.names.lookup x=some .local:=by first|exact Or.inl rfl|exact Or.inr rfl)(ha:A i:=by decide):QG X A (.Name x pos) (gW i):=⟨JA hN hi hx hf ha⟩
theorem f0:QF X [] kH:=⟨Jx⟩
theorem f1(h:QT X e ft):QF X [e] ft:=⟨Jw h.h⟩
theorem bE{gens:pj}{sc:ip}{d:gm}{n:Nat}(he:QX X e f)(hn:gens[n+1]?=none:=by rfl):QB X A d (.ListComp e gens sc p) n (kJ f):=⟨JI hn he.h⟩
theorem cOk{N P:gT}{sc scope:ip}{N':gT}{caps:hJ}(S:FnScope N P sc)(h:A2 N sc scope N' caps k=true:=by decide+kernel)(hN:X.N=N:=by rfl)(hs:X.env.scope=sc:=by rfl):CompOk X N' scope caps k:=PJ hN hs h
theorem xC{c:pI}{hG:pj}{elt:gx}{scope:ip}{fi:FIt}{tt:Tg}{ti:FT}{fb:FB}{caps:hJ}{N':gT}(C:CompOk X N' scope caps k)(nd:N'.Nodup)(pi:QI X (fun i=>i∉caps) c.target c.iter fi)
  (ay: ∀(cl:ji) (C:gm) (s3:gu) (H3:Hp) (fp:jo) (pins:gZ),(X.comp N' scope cl C s3 H3 fp pins).N.Nodup->
   QG (X.comp N' scope cl C s3 H3 fp pins) (fun i=>caps.length<=i) c.target tt/\QF (X.comp N' scope cl C s3 H3 fp pins) c.ifs ti/\ ∀d,QB (X.comp N' scope cl C s3 H3 fp pins) (fun i=>caps.length<=i) d (.ListComp elt (c::hG) scope pos) 0 fb)
  (hc:X.calm=true:=by rfl)(ha:c.is_async=0:=by rfl)(x9: ∀g',hG[0]?=some g'->g'.is_async=0:=by intro g' h;cases h;try rfl)(hs: ∀x,foldedSetIterable c.iter X.env x=pure x:=by intro _;rfl):QX X (.ListComp elt (c::hG) scope pos) (kj caps k fi tt ti fb):=⟨LN C hc ha x9 hs pi.h fun cl C s3 H3 fp pins=>let⟨a,b,c⟩:=ay cl C s3 H3 fp pins nd;⟨a.h,b.h,fun d=>(c d).h⟩⟩
theorem s0:QQ X A L H0 [] hU:=⟨Jl⟩
theorem s1(h:QS X A L H0 S u)(hr:QQ X A L H0 Ss v):QQ X A L H0 (S::Ss) (gD u v):=⟨GS h.h hr.h⟩
theorem sX:QS X A L H0 S xb:=⟨GQ⟩
theorem sR(h:QX X e f):QS X A L H0 (.Return (some e) pos) (jG f):=⟨L0 h.h⟩
theorem sRV(hl: ¬L i)(h1:X.N[i]?=some x:=by rfl)(h2:Vis X.env.scope x:=by first|exact Or.inl rfl|exact Or.inr (Or.inl rfl)|exact Or.inr (Or.inr rfl))(h3:DB x:=by decide)(h4:(x==("__classdict__":Str))=false:=by decide):QS X A L H0 (.Return (some (.Name x p)) pos) (qA i):=⟨D4 h1 h2 h3 h4 hl⟩
theorem sE(h:QX X e f)(hs:swapsWith e none pos.line X.env=pure false:=by rfl):QS X A L H0 (.Expr e pos) (lA f):=⟨Jk h.h hs⟩
theorem sI(hc:QT X c ft)(ha:QQ X A L H0 Ss u)(hb:QQ X A L H0 Ts v):QS X A L H0 (.If c Ss Ts pos) (sIf ft u v):=⟨Ou hc.h ha.h hb.h⟩
theorem sW{n:Nat}(hc:QT X c ft)(hb:QQ X A L H0 Ss u)(hp:PassesOwn (model X.prog X.w) X.A X.env X.xe:=by exact PassesOwn.never):QS X A L H0 (.While c Ss [] pos) (lP ft u n):=⟨GP hp hc.h hb.h⟩
theorem sF{fi:FIt}{t:Tg}(hi:QI X (fun _=>False) tg e fi)(hg:QG X A tg t)(hb:QQ X A L H0 Ss u)(hp:PassesOwn (model X.prog X.w) X.A X.env X.xe:=by exact PassesOwn.never)(hc:X.calm=true:=by rfl)(hs: ∀x,foldedSetIterable e X.env x=pure x:=by intro _;rfl):QS X A L H0 (.For tg e Ss [] pos) (tE fi t u):=⟨L5 hp hc hi.h hg.h hb.h hs⟩
theorem sS(hN:X.N.Nodup)(he:QX X e f)(hi:X.N[i]?=some x:=by rfl)(hx:Loc X.env.scope x:=by first|exact Or.inl rfl|exact Or.inr rfl)(hf:X.fn x=true\/X.env.scope.names.lookup x=some .local:=by first|exact Or.inl rfl|exact Or.inr rfl)(ha:A i:=by decide)(hs:swapsWith e (some (.Name x p)) pos.line X.env=pure false:=by rfl):QS X A L H0 (.Assign [.Name x p] e pos) (jh i f):=⟨LZ hN hi hx he.h hs hf ha⟩
theorem sIx{n9:Pos}(hv:QO X (.Name x f6) (gn i))(he:QX X e f)(hi:QO X a fo)
  (ha: ∀v,assign (.Subscript (.Name x f6) a n9) X.env v=(do
   let ov <-holding [v] (eval (.Name x f6) X.env)
   let iv <-holding [v,ov] (eval a X.env)
   standAt n9
   holding [v,ov,iv] (setItem ov iv v)
   release [v,ov,iv] []):=by intro _;rfl)
  (hs:swapsWithSole [.Subscript (.Name x f6) a n9] e pos.line X.env=pure false:=by rfl)(hw:swappedStores [.Subscript (.Name x f6) a n9] e X.env=pure none:=by rfl)
  (h1:(assignEach [.Subscript (.Name x f6) a n9] X.env).map (·.2)=[assign (.Subscript (.Name x f6) a n9) X.env]:=by rfl):QS X A L H0 (.Assign [.Subscript (.Name x f6) a n9] e pos) (uT i f fo):=⟨GR hv.h he.h hi.h ha hs hw h1⟩
end
def Fz(K:gQ)(mg:jK)(x:Str)(st:Stmt):Prop:= ∃f fd,mg x=some (.ref f)/\Fun K x x st f fd
theorem fz{K:gQ}{h:gL}{mg:jK}{x:Str}{st:Stmt}{f:gm}{oc:gy}{od an:Option Addr}{y9:qR}{kV doc pm f9 ct:gy}(X:K.In h)(G:h.Ns mainGlobals mg)(a:PySem.W.nsIn K mainGlobals x=some (some (.ref f)))
  (l:K.lookup f=some ⟨oc,od,.func (PySem.W.fnOf x x (pd st) (jX st) (gv st) .none kV doc pm an f9 ct),y9⟩)(c:PySem.W.codeIn K f9 x=true)(k:PySem.W.keepIn K (.ref f)=true):Fz K mg x st:=⟨f,_,PySem.W.mg_of X G a,Kj l c k⟩
def BdA(x:Str)(st:Stmt)(ps:gT):Prop:= ∀(kV doc pm:gy) (an:Option Addr) (f9 ct:gy) (us:ir),us.length=ps.length->bindArgs (PySem.W.fnOf x x (pd st) (jX st) (gv st) .none kV doc pm an f9 ct) ⟨us,[]⟩=pure (ps.zip us)
theorem scM{N P:gT}{sc:ip}(h1:sc.kind= .function:=by rfl)(h2:sc.isCoroutine=false:=by rfl)(h3:sc.isGenerator=false:=by rfl)(h4:N.Nodup:=by decide+kernel)(h5:N.take P.length=P:=by rfl)(h6: ∀x∈P,sc.names.lookup x=some .local\/sc.names.lookup x=some .cell:=by decide+kernel)(h7: ∀y∈sc.names,y.2≠ .free:=by decide+kernel):FnScope N P sc:=⟨h1,h2,h3,h4,h5,h6,h7⟩
def Bd(Z:ZZ)(k:Nat)(x:Str)(st:Stmt)(N ps:gT)(asg:hJ)(fs:FS):Prop:= ∀(f:gm) (f9:gy) (A:gG) (outer:List Env) (s:gu) (H:Hp) (E:XK) (L:iu),(∀i,L i->i<ps.length)->Room k (A.deeper (envOfC x (gv st) s.heap.objs.size f f9))->
 un (A.deeper (envOfC x (gv st) s.heap.objs.size f f9)) 60->un (A.deeper (envOfC x (gv st) s.heap.objs.size f f9)) 1->un (A.deeper (envOfC x (gv st) s.heap.objs.size f f9)) 62->un (A.deeper (envOfC x (gv st) s.heap.objs.size f f9)) 90->N.Nodup->
 QQ (nX CX0 Z.P Z.w Z.K Z.mg Z.base N x (gv st) f f9 A outer s H E).nox (fun i=>i∈asg) L H (jX st) fs
theorem fnB{Z:ZZ}{k:Nat}{x:Str}{st:Stmt}{N ps:gT}{asg:hJ}{fs:FS}{f:gm}{fd:kR}(F:Fun Z.K x x st f fd)(S:FnScope N ps (gv st))(hb:Bd Z k x st N ps asg fs):FnOk Z.P Z.w Z.K Z.mg Z.base CX0 (k+1) f fd ps (spF Z.K (evF N.length ps.length asg fs)):=
 Pl F S fun f9 A outer s H E L hL hr=>by
  have:=hr.un;exact(hb f f9 A outer s H E L hL hr (by unfold un;omega) (by unfold un;omega) (by unfold un;omega) (by unfold un;omega) S.nd).h
theorem ozB{Z:ZZ}{k:Nat}{x:Str}{st:Stmt}{N ps:gT}{asg:hJ}{fs:FS}(a:Fz Z.K Z.mg x st)(S:FnScope N ps (gv st))(b:BdA x st ps)(hb:Bd Z k x st N ps asg fs):Oz Z (k+1) x ps (evF N.length ps.length asg fs):=
 let⟨f,fd,m,F⟩:=a;⟨f,fd,fnB F S hb,m,F.kp,F.binds b⟩
theorem us0{P:List Value->Prop}(h:P []): ∀us:List Value,us.length=0->P us:=fun us e=>by cases us with|nil=>exact h|cons a l=>cases e
theorem us1{P:List Value->Prop}{n:Nat}(h: ∀a,∀us:List Value,us.length=n->P (a::us)): ∀us:List Value,us.length=n+1->P us:=fun us e=>by cases us with|nil=>cases e|cons a l=>exact h a l (Nat.succ.inj e)
theorem mgI{K:gQ}{h:gL}{mg:jK}{x:Str}{i:Int}{t:Tok}(X:K.In h)(G:h.Ns mainGlobals mg)(a:PySem.W.nsIn K mainGlobals x=some (some (.int i t))): ∃t,mg x=some (.int i t):=⟨t,PySem.W.mg_of X G a⟩
theorem txK{K:gQ}{h:gL}{mg:jK}(X:K.In h)(G:h.Ns mainGlobals mg)(z0:PySem.W.nsIn K mainGlobals "len"=some none)(z1:PySem.W.nsIn K mainGlobals "abs"=some none)(z2:PySem.W.nsIn K mainGlobals "int"=some none)(z3:PySem.W.nsIn K mainGlobals "tuple"=some none)(z4:PySem.W.nsIn K mainGlobals "list"=some none)(z5:PySem.W.nsIn K mainGlobals "range"=some none)(z6:PySem.W.nsIn K mainGlobals "isinstance"=some none)(z7:PySem.W.nsIn K mainGlobals "bool"=some none)(z8:PySem.W.nsIn K mainGlobals "max"=some none)(z9:PySem.W.nsIn K mainGlobals "min"=some none)(z10:PySem.W.nsIn K mainGlobals "all"=some none)(z11:PySem.W.nsIn K mainGlobals "any"=some none)(z12:PySem.W.nsIn K mainGlobals "sorted"=some none)(z13:PySem.W.nsIn K mainGlobals "enumerate"=some none)(z14:PySem.W.nsIn K mainGlobals "zip"=some none)(z15:PySem.W.nsIn K mainGlobals "set"=some none):Tx mg:=⟨mw X G z0,mw X G z1,mw X G z2,mw X G z3,mw X G z4,mw X G z5,mw X G z6,mw X G z7,mw X G z8,mw X G z9,mw X G z10,mw X G z11,mw X G z12,mw X G z13,mw X G z14,mw X G z15⟩
section
variable {prog:gM}{w:gE}{A:gG}{E:hV}{s:gu}
end
def isI:D->Bool
 | .int _=>true
 |_=>false
section
variable {X:Cx}{pins:gZ}{σ:L2.St}{H:Hp}{s:gu}
theorem Qv{O:AP'}: ∀{l:List D} {xs:List V} {b6:ir},l.all isI=true->RepL X.K H O l xs->Vals xs b6-> ∃ns:List Int,l=ns.map .int/\IntsAre b6 ns
 |[],xs,b6,_,r,v=>by
  rw[RepL] at r;subst r;cases v;exact⟨[],rfl,.nil⟩
 |d::l,xs,b6,h,r,v=>by
  rw[RepL] at r;obtain⟨x,cb,rfl,r1,r2⟩:=r;rw[List.all_cons,jY] at h
  cases d with
  |int i=>
   cases v with
   |cons a b=>
    obtain⟨ns,rfl,h3⟩:=Qv h.2 r2 b;rw[gS (.inl r1)] at a;obtain⟨t,rfl⟩:=a;exact⟨i::ns,rfl,.cons _ _ h3⟩
  |_=>exact absurd h.1 (by simp[isI])
end
def fPop(i:Nat):F:=fun δ=>match δ[i]? with
 |some (some (.lst l,true))=>(l[l.length-1]?).bind fun d=>some ((d,false),δ.set i (some (.lst l.dropLast,true)))
 |_=>none
section
variable {X:Cx}{x:Str}{i:Nat}{f6 apos i4:Pos}
end
section
variable {X:Cx}
variable {a:gx}{fo:FO}{p pos p1 kp f6 apos:Pos}{x:Str}{i:Nat}
end
section
variable {X:Cx}{pins:gZ}{σ:L2.St}{H:Hp}{s:gu}
end
section
variable {X:Cx}
end
section
variable {prog:gM}{w:gE}{A:gG}{E:hV}{I:gm}{fp wr:jo}{n:Nat}{P:Nat->Value->Prop}{St:Nat->Heap->Prop}
end
section
variable {X:Cx}{A:iu}{pos:Pos}{es:jf}{ts:List Tg}
end
section
variable {X:Cx}{A:iu}{a b:gx}{pos:Pos}
variable {e elt:gx}{f:F}{x z:Str}{p f6 p1 kp:Pos}{i k:Nat}{L:iu}{H0:Hp}
theorem xLS{c:pI}{scope:ip}{fi:FIt}{tt:Tg}{ti:FT}{caps:hJ}{N':gT}{pos':Pos}(T:Tx X.mg)(C:CompOk X N' scope caps k)(nd:N'.Nodup)(pi:QI X (fun i=>i∉caps) c.target c.iter fi)
  (ay: ∀(cl:ji) (C:gm) (s3:gu) (H3:Hp) (fp:jo) (pins:gZ),(X.comp N' scope cl C s3 H3 fp pins).N.Nodup->
   QG (X.comp N' scope cl C s3 H3 fp pins) (fun i=>caps.length<=i) c.target tt/\QF (X.comp N' scope cl C s3 H3 fp pins) c.ifs ti/\QX (X.comp N' scope cl C s3 H3 fp pins) elt f)
  (hc:X.calm=true:=by rfl)(ha:c.is_async=0:=by rfl)(hs: ∀x,foldedSetIterable c.iter X.env x=pure x:=by intro _;rfl)(hg:Gl X "len":=by rfl)
  (h1:starEach [.SetComp elt [c] scope pos] X.env=(false,eval (.SetComp elt [c] scope pos) X.env)::starEach [] X.env:=by rfl)(j5:(backTo pos' (starEach [] X.env)).any (·.1)=false:=by rfl):
  QX X (.Call (.Name "len" p) [.SetComp elt [c] scope pos] [] pos') (qJ caps k fi tt ti (yF f)):=
 ⟨GN C hc ha (by intro g' h;cases h) hs pi.h (fun cl C s3 H3 fp pins=>let⟨a,b,c⟩:=ay cl C s3 H3 fp pins nd;⟨a.h,b.h,fun d=>GX rfl c.h⟩) hg T.n_len PN (by decide) (by decide) h1 j5⟩
end
section
variable {X:Cx}{pins:gZ}{σ:L2.St}{H:Hp}{s:gu}
end
def Kr:F:=fun δ=>some ((.oth .set [] [],true),δ)
def vD(i:Nat)(f:F):F:=fun δ=>match δ[i]? with
 |some (some (.oth .set _ _,true))=>(f δ).bind fun p=>match p.2[i]? with
  |some (some (.oth .set _ vs,true))=>if vs.all okS=true/\okS p.1.1=true/\vs.length<500 then some ((.non,false),p.2.set i (some (.oth .set [] (Bb vs p.1.1),true))) else none
  |_=>none
 |_=>none
def Kq(fo:FO):FT:=fun δ=>(fo δ).bind fun p=>match res p.2 p.1 with
 |some (.lst l)=>some (!l.isEmpty,p.2)
 |_=>none
def fFz(i:Nat)(f:F):F:=fun δ=>match δ[i]? with
 |some (some (d,_))=>f (δ.set i (some (d,false)))
 |_=>none
section
variable {X:Cx}{e:gx}{f:F}{fo:FO}{pos f6 apos i4 p:Pos}{i:Nat}{x:Str}
theorem QU(h:PX X e f):PX X e (fFz i f):=PX.imp h fun σ H Q hw=>by
 obtain⟨δ,T,r,δ',E,e,k⟩:=hw;unfold fFz at e;split at e
 ·rename_i d b hi;exact⟨_,T,r,δ',(E.freeze hi).1,e,fun v H' P=>k v H' ⟨Keep.set.trans P.1,P.2⟩⟩
 ·cases e
theorem LU(h:PO X e fo)(he: ∀whole,isTrue e X.env whole=(do let v <-whole;standAt e.pos;holding [v] (truthy v))):PTX X e (Kq fo):=PT.imp' (Jj h he) fun σ H Q hw=>by
 obtain⟨δ,T,b,δ',E,e,k⟩:=hw;obtain⟨⟨o,δ1⟩,h1,e⟩:=gk e;refine⟨δ,T,o,δ1,E,h1,fun v H1 P=>?_⟩;dsimp only at e;split at e
 ·rename_i l hl;obtain⟨rfl,rfl⟩:=gJ e;have B:=Ops.cons E P (Ops.nil (P.er E));obtain⟨a,xs,rfl,q,r⟩:=jN (B.view (j:=0) rfl rfl hl);refine⟨!l.isEmpty,.inl ⟨xs,q,?_⟩,k H1 B.keep (B.er.mono (fun _ _ e _=>e) (fun b _ z=>B.tt b z) (fun a z=>B.er.dom a (B.tt a z)))⟩;have:=r.length;cases l<;>cases xs<;>simp_all
 ·cases e
theorem LF(hg:Gl X "set")(hm:X.mg "set"=none):PX X (.Call (.Name "set" p) [] [] pos) Kr:=fun pins s σ H Q I hw=>by
 obtain⟨δ,T,rr,δ',E,e,k⟩:=hw;cases e;refine uL (xR I hg hm PM ?_ (by decide) (by decide));refine PyProof.Rows.callWith_type0 (TT.PL ?_);have hp:=I.hok.fresh (ic s.heap.objs.size);refine⟨.ref s.heap.objs.size,upd H s.heap.objs.size (.stt []),I.laid (t':=s.toks) (o:= .stt []) (fun b ob q=>iB _ q) (ic _) ?_,rfl,(Ops.nil E).done k _ _ hp (kM hp) ⟨[],⟨rfl,[],gU,.nil⟩,RepL.nil⟩⟩;exact⟨#[],0,_,kU _ rfl,.nil,TT.TabOk.fresh _ _ _,rfl,rfl⟩
theorem LG(hu:X.A.units+90<cLine)(hn:PO X (.Name x f6) (gn i))(he:PX X e f)(j8:attributeBase (.Name x f6) "add" X.env (eval (.Name x f6) X.env)=eval (.Name x f6) X.env)
  (n6:((backTo i4 (starEach [e] X.env)).all (fun x=>!x.1)&&(backToKw i4 (keywordEach [] X.env)).all (fun x=>x.1.isSome)&&decide ([e].length+([]:List Keyword).length+(if([]:List Keyword).isEmpty then 0 else 1)<30))=true)
  (j7:(apos.endLine==i4.line)=true)(hs:starEach [e] X.env=(false,eval e X.env)::starEach [] X.env)(i6:(backTo i4 (starEach [] X.env)).any (·.1)=false):
  PX X (.Call (.Attribute (.Name x f6) "add" apos) [e] [] i4) (vD i f):=fun pins s σ H Q I hw=>by
 obtain⟨δ,T,rr,δ',E,e0,k⟩:=hw;unfold vD at e0;split at e0
 case h_2=>cases e0
 rename_i k0 w0 h0;obtain⟨⟨r,δ1⟩,h1,e0⟩:=gk e0;dsimp only at e0;split at e0
 case h_2=>cases e0
 rename_i k1 vs h2;obtain⟨⟨o1,o2,o3⟩,e0⟩:=gY e0;obtain⟨rfl,rfl⟩:=sJ e0;refine Ic j8 n6 j7 rfl (thn (hn pins s σ H (fun v H1=>PostO X.K T σ δ H (.slot i) δ v H1) I ⟨δ,T,.slot i,δ,E,by unfold gn;rw[h0],fun _ _ P=>P⟩) fun v s1 ⟨y,H1,I1,r1,K1,E1,hσ⟩=>?_);obtain⟨a,g1,us0,⟨_,zs,g2,_⟩,g3⟩:=E1.own i _ h0;rw[hσ] at g1;cases g1;cases r1;obtain⟨es,n,t,ho,_⟩:=(show ObjOk X.prog X.w H1 s1.heap a (.stt zs) from I1.hok a _ g2)
 refine⟨"set","set.add",PySem.F.plainAttrs_set,HH,PySem.F.type_set_add,⟨_,ho,rfl⟩,fun b eb=>by cases eb;exact⟨_,ho,rfl⟩,?_⟩;have hA:=kN he nW hs i4 pins s1 σ H1 (fun vs H2=> ∃y,vs=[y]/\Post X.K T σ δ H1 r δ1 y H2) I1 ⟨δ,T,r,δ1,E1,h1,fun y H2 P=>⟨y,rfl,P⟩⟩;rw[hs] at hA ⊢;refine Ib (by show(false||(backTo i4 (starEach [] X.env)).any (·.1))=false;rw[i6];rfl) (Dq (thn hA fun us s2 ⟨ws,H2,I2,r2,y,hy,P2⟩=>?_));subst hy;obtain⟨u,rfl,ru⟩:=r2.one;obtain⟨E2,ry⟩:=P2.rep E1;obtain⟨a',q1,us,q2,q3⟩:=E2.own i _ h2;rw[hσ] at q1;cases q1;obtain⟨es,n,t,l,S⟩:=OthB.setV I2 q2 q3;refine pO HH ⟨_,S.is.at_,rfl⟩ PySem.F.entry_set_add ?_ (PySem.F.args_set_add_2 _ _);unfold Builtin.«set.add» Builtin.Frozenset.oneOther;simp only[uv,qY];unfold Builtin.Frozenset.addrOf;refine gw (gA ?_)
 try dsimp only
 refine gw (SetV.add I2 S o1 (.inl ry) ry ru o2 o3 (by show X.A.units+1+60<cLine;lia) fun b h' tk es' n' t' l' ht aE S'=>?_);show wpAny _ _ (ret Value.none) _ _ _;have rl: ∀p∈l',Rep X.K H2 (fun a=>OwnA σ δ1 a\/T a) p.1 p.2:=S'.rep;have oa:OwnA σ δ1 a:=⟨i,_,h2,hσ⟩
 have kp: ∀(ho:HO) b u,H2 b=some u-> ¬(OwnA σ δ1 b\/T b)->upd H2 a ho b=some u:=fun ho b u e n=>by rw[gR (by intro z;subst z;exact n (.inl oa))];exact e
 obtain⟨us',z1,z2⟩:=S'.oth (K:=X.K) (H':=upd H2 a (.stt (l'.map hv))) (O':=fun a=>OwnA σ δ1 a\/T a) (fun p hp=>Rep.mono (kp _) (fun _ _ z=>z) (rl p hp)) gU;obtain⟨E4,K4⟩:=E2.writeG (o:= .stt (l'.map hv)) (d':= .oth .set [] (Bb vs r.1)) h2 hσ ⟨us',z1,z2⟩;refine gA ⟨_,rfl,.non,_,?_,rfl,k _ _ (Post.val ((K1.trans P2.1).trans K4) E4 Rep.mkNon)⟩;obtain⟨us2,zs2,g4,_⟩:=q2;exact Gf (t':=tk) I2 (by rw[g4];exact True.intro) aE ⟨_,S'.is.at_⟩ S'.objOk
theorem MZ(hu:X.A.units+90<cLine)(hn:QO X (.Name x f6) (gn i))(he:QX X e f)(j8:attributeBase (.Name x f6) "add" X.env (eval (.Name x f6) X.env)=eval (.Name x f6) X.env:=by rfl)
  (n6:((backTo pos (starEach [e] X.env)).all (fun x=>!x.1)&&(backToKw pos (keywordEach [] X.env)).all (fun x=>x.1.isSome)&&decide ([e].length+([]:List Keyword).length+(if([]:List Keyword).isEmpty then 0 else 1)<30))=true:=by rfl)
  (j7:(apos.endLine==pos.line)=true:=by rfl)(hs:SE X e []:=by rfl)(i6:BA X pos []:=by rfl):QX X (.Call (.Attribute (.Name x f6) "add" apos) [e] [] pos) (vD i f):=⟨LG hu hn.h he.h j8 n6 j7 hs i6⟩
theorem tTr(h:QO X e fo)(he: ∀whole,isTrue e X.env whole=(do let v <-whole;standAt e.pos;holding [v] (truthy v)):=by exact fun _=>rfl):QT X e (Kq fo):=⟨LU h.h he⟩
theorem xFz(h:QX X e f):QX X e (fFz i f):=⟨QU h.h⟩
theorem Qc{p:Pos}(hm:X.mg "set"=none)(hg:Gl X "set":=by rfl):QX X (.Call (.Name "set" p) [] [] pos) Kr:=⟨LF hg hm⟩
end
end PX
namespace L2
open PySem PySem.Spec PyProof.Rows PySem.W
def uY(q:Str):HO:= .tbl #[.str q 0]
structure OnlyT(TB:List (Addr×Str))(H:Hp):Prop where
 one: ∀b,H b=none\/(∃o xs,H b=some (.frz o (.lst xs)))\/ ∃q,(b,q)∈TB/\H b=some (uY q)
 all: ∀p∈TB,H p.1=some (uY p.2)
theorem Ha{P:gM}{w:gE}{K:gQ}{mg mb:jK}{CX:CXT}{k:Nat}{fa a:gm}{fd:kR}{x:Str}{sp:Sp}{s₁:gu}{vs:ir}{ns:ie}{TB:List (Addr×Str)}
  (KX:K.In s₁.heap)(aJ:s₁.heap.Ns mainGlobals mg)(hb:s₁.heap.Ns builtinsNs mb)(hbb: ∀x:Str,x≠"__name__"->mb x=bootBuiltins x)(hlim:s₁.heap.NoLimit)(hg:s₁.gens= #[])
  (hT: ∀p∈TB,s₁.heap.get? p.1=some (tabObj #[]))(eO: ∀p∈TB,K.lookup p.1=none)(eN: ∀p∈TB,isCodeTable s₁.heap p.1)(dN:(TB.map (·.1)).Nodup)(hba: ∀p∈TB,s₁.heap.BuiltinsAt mg p.1)
  (ha:s₁.heap.get? a=some {cls:= .type "list",data:= .seq vs.toArray})(hi:IntsAre vs ns)(hl:ns.length<=sizeLine)(hr:Room k callerA)
  (F: ∀base:Heap,K.In base->base.Ns mainGlobals mg->(∀p∈TB,base.BuiltinsAt mg p.1)->FnOk P w K mg base CX k fa fd [x] sp)(t9: ∀(s:gu) (u:gy),BindsTo s fd ⟨[u],[]⟩ [(x,u)])
  (cp: ∀H:Hp,OnlyT TB H->SqL K H a (ns.map V.int)->sp [.ref a] H (fun v H'=>v= .bl true/\ ∀p∈TB,H' p.1=some (uY p.2)) fun _ _ _=>False)
  (hCX: ∀H e s',CX [] H s₁ (fun _ _ _=>False) e s'->False):
  codeAny (model P w) callerA (.call (.ref fa) ⟨[.ref a],[]⟩) (fun r s'=>r= .ok (.ret (.bool true))/\OldK s₁.heap s'.heap/\s'.os=s₁.os/\AllBare s'.gens) s₁:=by
 have rv:=zd hi;have lenV:=hi.length
 have fk: ∀p∈TB,p.1≠a:=fun p hp e=>by
  have:=hT p hp;rw[e,ha] at this;cases this
 have core: ∀H:Hp,OnlyT TB H->SqL K H a (ns.map V.int)->HOk P w H s₁.heap->(∀b,H b≠none->b=a\/ ∃p∈TB,b=p.1)->(H a≠none->K.lookup a=none)->
   codeAny (model P w) callerA (.call (.ref fa) ⟨[.ref a],[]⟩) (fun r s'=>r= .ok (.ret (.bool true))/\OldK s₁.heap s'.heap/\s'.os=s₁.os/\AllBare s'.gens) s₁:=by
  intro H hO hS hok hA hK;have y7: ∀{b:gm} {o:Obj},s₁.heap.get? b=some o->H b=none->(yR s₁.heap H).get? b=some o:=fun e n=>Kd e n
  have bw: ∀{b:gm} {o:Obj},s₁.heap.get? b=some o->(∀b6 n,o.data≠ .seq b6 n)->(∀ps,o.data≠ .fields ps)->H b=none:=fun {b o} e d d2=>by
   cases q:H b with
   |none=>rfl
   |some u=>
    rcases hA b (by rw[q];simp) with rfl|⟨p,hp,rfl⟩
    ·rw[ha] at e;cases e;exact absurd rfl (d _ _)
    ·rw[hT p hp] at e;cases e;exact absurd rfl (d2 _)
  have ee: ∀{b:gm} {m:jK},s₁.heap.Ns b m->(yR s₁.heap H).Ns b m:=fun {b m} ⟨o,es,ep,e,d,r⟩=>⟨o,es,ep,y7 e (bw e (fun _ _ z=>by rw[d] at z;cases z) fun _ z=>by rw[d] at z;cases z),d,r⟩
  have hKb:K.In (yR s₁.heap H):=fun b o e=>y7 (KX b o e) (by
   cases q:H b with
   |none=>rfl
   |some u=>
    rcases hA b (by rw[q];simp) with rfl|⟨p,hp,rfl⟩
    ·rw[hK (by rw[q];simp)] at e;cases e
    ·rw[eO p hp] at e;cases e)
  have hBA: ∀p∈TB,(yR s₁.heap H).BuiltinsAt mg p.1:=fun p hp=>by
   obtain⟨bm,o,h1,h2,h3,h4,h5,h6,h7,h8⟩:=hba p hp;exact⟨bm,o,h1,h2,h3,h4,y7 h5 (bw h5 (fun _ _ z=>by rw[h8] at z;cases z) fun _ z=>by rw[h8] at z;cases z),h6,h7,h8⟩
  have hM:Mod K mg (yR s₁.heap H):=⟨hKb,ee aJ,⟨mb,ee hb,hbb⟩,let⟨mc,h1,h2⟩:=hlim;⟨mc,ee h1,h2⟩⟩
  have e0:Env0 P w K mg (yR s₁.heap H) callerA [] s₁ H:=⟨rfl,hM,fun b o e=>Mm e,Nat.le_of_eq (Hg _ _),trivial,fun b hb=>absurd (show b∈([]:List Addr) from hb) (by simp),hok,.of_eq hg⟩
  refine rd ((F _ hKb (ee aJ) hBA).run callerA [] s₁ H ⟨[.ref a],[]⟩ [.ref a] [.ref a] _ _ hr e0 (t9 s₁ (.ref a)) (.cons rfl .nil) (cp H hO hS)) fun r s' h=>?_
  cases r with
  |error e=>exact(hCX H e s' h).elim
  |ok fl=>
   cases fl with
   |next=>exact False.elim h
   |brk=>exact False.elim h
   |cont=>exact False.elim h
   |ret u=>
    obtain⟨v,H',os,bare,un,hok',r',q,ao⟩:=h;subst q;obtain rfl:u=Value.bool true:=r'
    have tab: ∀p∈TB,∃ps,s'.heap.get? p.1=some (tabObj ps):=fun p hp=>by
     obtain⟨_,_,ps,_,e,_⟩:=(show ObjOk P w H' s'.heap p.1 (.tbl #[.str p.2 0]) from hok' _ _ (ao p hp))
     exact⟨ps,e⟩
    have keep: ∀b o,s₁.heap.get? b=some o->(∀p∈TB,b≠p.1)->s'.heap.get? b=some o:=fun b o e n=>by
     cases q:H b with
     |none=>exact un.keep b o e q (by intro z;exact absurd (show b∈([]:List Addr) from z) (by simp)) (by simp)
     |some u=>
      rcases hO.one b with z|⟨ob,xs,z⟩|⟨qq,hm,z⟩
      ·rw[q] at z;cases z
      ·have z2:=un.frzs b ob _ z;obtain⟨e1,_⟩:=hok b _ z;obtain⟨e2,_⟩:=hok' b _ z2;rw[e] at e1;cases e1;exact e2
      ·exact absurd rfl (n _ hm)
    refine⟨rfl,⟨fun b o e=>?_,fun b o e=>?_⟩,os,bare⟩
    ·by_cases hb: ∃p∈TB,b=p.1
     ·obtain⟨p,hp,rfl⟩:=hb;obtain⟨ps,e2⟩:=tab p hp;rw[hT p hp] at e;cases e;refine .inr (.inl ⟨eN p hp,rfl,#[],ps,rfl,?_⟩);rw[e2];simp
     ·exact .inl (keep b o e fun p hp z=>hb ⟨p,hp,z⟩)
    ·by_cases hb: ∃p∈TB,b=p.1
     ·obtain⟨p,hp,rfl⟩:=hb;obtain⟨ps,e2⟩:=tab p hp;exact⟨_,e2⟩
     ·exact⟨o,keep b o e fun p hp z=>hb ⟨p,hp,z⟩⟩
 have bP: ∀{b q},TB.lookup b=some q->(b,q)∈TB:=fun h=>by
  revert h;generalize TB=l
  induction l with
  |nil=>intro h;simp at h
  |cons x l ih=>
   intro h;rw[my] at h;split at h
   ·rename_i hb;cases h;rw[beq_iff_eq.mp hb];exact iN
   ·exact iK _ (ih h)
 have lkA: ∀p∈TB,TB.lookup p.1=some p.2:=by
  clear bP core fk cp eO eN hba F hT
  induction TB with
  |nil=>intro p hp;simp at hp
  |cons x l ih=>
   intro p hp;rw[iY,Bg] at dN;rw[my];rcases lq.mp hp with rfl|hp
   ·simp
   ·have:(p.1==x.1)=false:=by
     rw[yK];exact fun e=>dN.1 (e▸wc hp)
    rw[this];exact ih dN.2 p hp
 have objT: ∀(H:Hp) (b:gm) (q:Str),(b,q)∈TB->ObjOk P w H s₁.heap b (uY q):=fun H b q hm=>⟨q,0,#[],rfl,hT _ hm,trivial,fun pos cv z=>by simp[codeAmong] at z⟩
 cases hk:K.lookup a with
 |some o=>
  have e:=KX a o hk;rw[ha] at e;cases e;refine core (fun b=>(TB.lookup b).map uY) ⟨fun b=>?_,fun p hp=>by rw[lkA p hp];rfl⟩ (.inr ⟨_,vs.toArray,_,hk,rfl,rfl,rfl,by rw[jc,lenV];exact hl,by simpa using rv⟩) (fun b u z=>?_) (fun b z=>?_) (fun z=>?_)
  ·cases q:TB.lookup b with
   |none=>exact .inl rfl
   |some q'=>exact .inr (.inr ⟨q',bP q,rfl⟩)
  ·have z':(TB.lookup b).map uY=some u:=z
   cases q:TB.lookup b with
   |none=>rw[q] at z';cases z'
   |some q'=>rw[q] at z';cases z';exact objT _ b q' (bP q)
  ·have z':(TB.lookup b).map uY≠none:=z
   cases q:TB.lookup b with
   |none=>rw[q] at z';exact absurd rfl z'
   |some q'=>exact .inr ⟨_,bP q,rfl⟩
  ·have z':(TB.lookup a).map uY≠none:=z
   cases q:TB.lookup a with
   |none=>rw[q] at z';exact absurd rfl z'
   |some q'=>exact absurd rfl (fk _ (bP q))
 |none=>
  have hat: ∀p∈TB,(if p.1=a then some (HO.frz {cls:= .type "list",data:= .seq vs.toArray} (.lst (ns.map V.int))) else(TB.lookup p.1).map uY)=some (uY p.2):=fun p hp=>by rw[gC (fk p hp),lkA p hp];rfl
  refine core (fun b=>if b=a then some (.frz {cls:= .type "list",data:= .seq vs.toArray} (.lst (ns.map V.int))) else(TB.lookup b).map uY) ⟨fun b=>?_,hat⟩ (.inl (.inr ⟨{cls:= .type "list",data:= .seq vs.toArray},gz rfl⟩)) (fun b u z=>?_) (fun b z=>?_) fun _=>hk
  ·by_cases hb:b=a
   ·exact .inr (.inl ⟨_,_,gz hb⟩)
   ·cases q:TB.lookup b with
    |none=>exact .inl (by simp[hb,q])
    |some q'=>exact .inr (.inr ⟨q',bP q,by simp[hb,q]⟩)
  ·by_cases hb:b=a
   ·have z':=(gz hb).symm.trans z;cases z';subst hb;exact⟨ha,by rw[jk];exact hl,vs,_,rv,ha⟩
   ·have z':=(gC hb).symm.trans z
    cases q:TB.lookup b with
    |none=>rw[q] at z';cases z'
    |some q'=>rw[q] at z';cases z';exact objT _ b q' (bP q)
  ·by_cases hb:b=a
   ·exact .inl hb
   ·cases q:TB.lookup b with
    |none=>exact absurd (by simp[hb,q]) z
    |some q'=>exact .inr ⟨_,bP q,rfl⟩
end L2
namespace PX
open PySem PySem.Spec PyProof.Rows L2
theorem Mr{TB:List (Addr×Str)}{K:gQ}{ev:EvF}{H:Hp}{a:gm}{ns:ie}(hT: ∀p∈TB,H p.1=some (uY p.2))(hS:SqL K H a (ns.map V.int)){o:Bool}{outs:Dn}(h:ev [(.lst (ns.map .int),false)]=some ((.bl true,o),outs)):spF K ev [.ref a] H (fun v H'=>v= .bl true/\ ∀p∈TB,H' p.1=some (uY p.2)) fun _ _ _=>False:=by
 have no: ∀b,¬OwnA [some (V.ref a)] [some (D.lst (ns.map .int),false)] b:=fun b ⟨i,d,h1,h2⟩=>by
  cases i with
  |zero=>simp at h1
  |succ i=>simp at h1
 refine⟨fun _=>False,[(.lst (ns.map .int),false)],_,outs,⟨rfl,fun i d hd=>?_,fun i d hd=>?_,fun i j d e b h1=>?_,fun b z=>absurd z (no b),fun b z=>z.elim⟩,h,fun v H' P=>?_⟩
 ·cases i with
  |zero=>
   simp at hd;subst hd;refine⟨_,rfl,Rep.mkLst (a:=a) (xs:=ns.map V.int) ?_ (zi ns)⟩;exact hS.imp (fun z=>⟨z,fun z=>z.elim (no a) id⟩) id
  |succ i=>simp at hd
 ·cases i with
  |zero=>simp at hd
  |succ i=>simp at hd
 ·cases i with
  |zero=>simp at h1
  |succ i=>simp at h1
 ·refine⟨?_,fun p hp=>P.1.kp _ _ (hT p hp) (no _)⟩
  cases o with
  |false=>exact P.2.2.bl
  |true=>
   obtain⟨p,_,_,_,ok⟩:=P.2;exact ok.elim
end PX
namespace L2
open PySem PySem.Spec PyProof.Rows PySem.W
structure Fly(P:gM)(w:gE)(outer:List Env)(H:Hp)(s:gu)(C:gm)(H':Hp)(ea:gm)(s':gu)(h0 B:gL)(F:jo):Prop where
 os:s'.os=s.os
 bare:AllBare s'.gens
 un:Un (frs outer) [] H H' s.heap h0
 hok:HOk P w H' h0
 fr: ∀b∈F,H' b=none/\(b∈frs outer\/s.heap.objs.size<=b)
 st: ∀b o,h0.get? b=some o->b∉F->B.get? b=some o
 fl: ∃a0,Heap.FlyingW B outer ea (.ref C) a0 s'.heap
 up:h0.UpToSlots s'.heap
 ne:h0.get? ea=none
def CXx(P:gM)(w:gE):CXT:=fun outer H s E e s'=> ∃C H' ea h0 B F,e= .ref ea/\Fly P w outer H s C H' ea s' h0 B F/\E (.ref C) none H'
section
variable {P:gM}{w:gE}{outer:List Env}{H H':Hp}{s s':gu}{C ea:gm}{h0 B h':gL}{F:jo}
theorem Fly.end(f:Fly P w outer H s C H' ea s' h0 B F)(hf: ∀b∈frs outer,∃o,s.heap.get? b=some o/\(∀vs,o.data≠ .fields vs)/\H b=none)(hB:B.StaysIn h')(hu:h0.UpToSlots h'):Un (frs outer) [] H H' s.heap h'/\HOk P w H' h':=by
 have keep: ∀b o,h0.get? b=some o->b∉F->h'.get? b=some o:=fun b o e n=>hB b o (f.st b o e n)
 have nF: ∀b o,s.heap.get? b=some o->b∉frs outer->b∉F:=fun b o e n z=>by
  rcases(f.fr b z).2 with q|q
  ·exact n q
  ·exact absurd (iq e) (MV.mpr q)
 refine⟨⟨fun b o e n hb hx=>keep b o (f.un.keep b o e n hb hx) (nF b o e hb),fun b o e n hb hx=>?_,f.un.free,fun b o e hx=>?_,f.un.tups,f.un.frzs,f.un.tbls⟩,fun a o e=>?_⟩
 ·obtain⟨o2,e2,nd,_⟩:=hf b hb;rw[e] at e2;cases e2;obtain⟨sl,e1⟩:=f.un.slot b o e n hb hx;obtain⟨u5,e3⟩:=hu b _ e1 nd;exact⟨u5,e3⟩
 ·by_cases hb:b∈frs outer
  ·obtain⟨o2,e2,nd,n⟩:=hf b hb;rw[e] at e2;cases e2;obtain⟨sl,e1⟩:=f.un.slot b o e n hb hx;obtain⟨u5,e3⟩:=hu b _ e1 nd;exact⟨_,e3⟩
  ·obtain⟨o',e1⟩:=f.un.there b o e hx;exact⟨o',keep b o' e1 (nF b o e hb)⟩
 ·refine(f.hok a o e).stay (fun b u hb q=>keep b u q fun z=>?_) (fun _ q=>q) fun _ _ q=>q;have:=(f.fr b z).1;rcases hb with rfl|hb
  ·rw[e] at this;cases this
  ·rw[hb] at this;cases this
end
section
variable {X:Cx}{pins:gZ}{σ:St}{H:Hp}{s s':gu}{C ea:gm}
theorem Inv.frsOk(I:Inv X pins σ H s): ∀b∈frs X.stack,∃o,s.heap.get? b=some o/\(∀vs,o.data≠ .fields vs)/\H b=none:=fun b hb=>by
 obtain⟨_,o,ho,hd⟩:=I.stack.mem hb;exact⟨o,ho,hd,I.stkFree b hb⟩
def XeOk(X:Cx)(P:gM)(w:gE)(outer:List Env)(H0:Hp)(s0:gu)(E:XK):Prop:=X.prog=P/\X.w=w/\X.stack=X.env::outer/\X.outer=outer/\X.H₀=H0/\X.s₀=s0/\X.ex=[]/\X.env.frame=some X.env.locals/\
 ∀e s',wpAny (model P w) X.A (leaving X.env e) (fun _ aq=>CXx P w outer H0 s0 E e aq) (fun e' aq=>CXx P w outer H0 s0 E e' aq) s'->X.xe e s'
theorem lL{P:gM}{w:gE}{K:gQ}{mg:jK}{base:gL}{N:gT}{qual:Str}{scope:ip}{f:gm}{cd:gy}{A:gG}{outer:List Env}{s:gu}{H:Hp}{E:XK}:
  XeOk (nX (CXx P w) P w K mg base N qual scope f cd A outer s H E) P w outer H s E:=⟨rfl,rfl,rfl,rfl,rfl,rfl,rfl,rfl,fun _ _ h=>h⟩
variable {P:gM}{w:gE}{outer:List Env}{H0:Hp}{s0:gu}{E:XK}
theorem Gy{H1:Hp}{h0:gL}{L:gm}(a:Un (frs outer) [] H0 H s0.heap s.heap)(b:Un (L::frs outer) [] H H1 s.heap h0)(hL:s0.heap.objs.size<=L):Un (frs outer) [] H0 H1 s0.heap h0 where
 keep:=fun c o q n hc hx=>b.keep c o (a.keep c o q n hc hx) (a.free c o q n hx) (fun z=>(lq.mp z).elim (fun z=>by subst z;exact absurd (iq q) (MV.mpr hL)) hc) hx
 slot:=fun c o q n hc hx=>by
  obtain⟨sl,e1⟩:=a.slot c o q n hc hx;obtain⟨dX,e2⟩:=b.slot c _ e1 (a.free c o q n hx) (iK _ hc) hx;exact⟨dX,e2⟩
 free:=fun c o q n hx=>by
  obtain⟨o',e1⟩:=a.there c o q hx;exact b.free c o' e1 (a.free c o q n hx) hx
 there:=fun c o q hx=>by
  obtain⟨o',e1⟩:=a.there c o q hx;exact b.there c o' e1 hx
 tups:=fun c xs q=>b.tups c xs (a.tups c xs q)
 frzs:=fun c o xs q=>b.frzs c o xs (a.frzs c o xs q)
 tbls:=fun c ps q=>by
  obtain⟨m1,e1⟩:=a.tbls c ps q;obtain⟨m2,e2⟩:=b.tbls c _ e1;exact⟨m1++m2,by rw[e2,DI]⟩
theorem yg{env:Env}{L:gm}(h:env.frame=some L):frs (env::outer)=L::frs outer:=by unfold frs;rw[rf,h]
theorem XeOk.made(x:XeOk X P w outer H0 s0 E)(I:Inv X pins σ H s){h':gL}{args:ir}(hx:Heap.MadeExcOf s.heap h' ea (.ref C) args)(q:E (.ref C) none H):X.xe (.ref ea) {s with heap:=h'}:=by
 obtain⟨rfl,rfl,stk,ho,rfl,rfl,hex,hf,dD⟩:=x;refine dD _ _ (wpAny_leaves_madeW (base:=hideAll s.heap (frs X.stack)) (h:=s.heap) (L:=X.env.locals) (I.ok.frames.trans (by rw[stk])) hf (fun b o e=>of_hideAll _ e) ?_ hx fun h'' t fl _ _ up=>?_)
 ·rw[<-stk];exact funFrames_hide I.stack fun env he a ha=>List.mem_filterMap.mpr ⟨env,he,ha⟩
 ·refine⟨C,H,ea,s.heap,_,frs X.stack,rfl,⟨I.os,I.bare,?_,I.hok,fun b hb=>⟨I.stkFree b hb,?_⟩,fun b o e n=>hideAll_get _ e n,⟨_,fl⟩,(Heap.UpToSlots.of_keeps hx.keeps).trans up,hx.new⟩,q⟩
  ·have:=I.base;unfold Cx.fs at this
   rwa [ho,hex] at this
  ·rw[stk,yg hf] at hb;rcases lq.mp hb with rfl|hb
   ·exact .inr I.ok.above
   ·exact .inl hb
theorem XeOk.pass(x:XeOk X P w outer H0 s0 E):Bf (CXx P w) X E:=fun pins σ H s e s' I h=>by
 obtain⟨rfl,rfl,stk,ho,rfl,rfl,hex,hf,dD⟩:=x;obtain⟨C,H',ea,h0,B,F,rfl,f,q⟩:=h;obtain⟨a0,fl⟩:=f.fl;rw[stk] at fl;refine dD _ _ (wpAny_leaves_onW (L:=X.env.locals) (I.ok.frames.trans (by rw[stk])) hf fl fun h' bW up=>?_);refine⟨C,H',ea,h0,B,F,rfl,⟨f.os.trans I.os,f.bare,?_,f.hok,fun b hb=>⟨(f.fr b hb).1,?_⟩,f.st,⟨a0,bW⟩,f.up.trans up,f.ne⟩,q⟩
 ·have a:=I.base;unfold Cx.fs at a;rw[ho,hex] at a;have b:=f.un;rw[stk,yg hf] at b;exact Gy a b I.ok.above
 ·rcases(f.fr b hb).2 with z|z
  ·rw[stk,yg hf] at z;rcases lq.mp z with rfl|z
   ·exact .inr I.ok.above
   ·exact .inl z
  ·exact .inr (ll I.sz z)
end
abbrev veB:List Value:=[.type "ValueError",.type "Exception",.type "BaseException",.type "object"]
theorem MI{K:Frag}{h:gL}{C:gm}{bmB:ir}{eV:String}(KX:K.In h)(q:excIn K C bmB eV=true):
  ∃bm N nm qn bs hd sn sub ab col dd k0 k1 k2 k3 k5 mN,h.get? C=some (excClassObj nm qn C N bs bm hd sn sub ab col dd k0 k1 k2 k3 k5 eV)/\h.Ns N mN/\mN "__init__"=none/\OwnTail h bmB bm:=by
 unfold excIn at q;split at q
 case h_2=>cases q
 rename_i dd cd sl lk;split at q
 case h_2=>cases q
 rename_i C2 bm k0 k1 k2 k3 n k5 em es;rw[jY,jY,jY,jY,jY] at q;obtain⟨⟨⟨⟨⟨q1,q2⟩,q3⟩,q4⟩,q5⟩,q6⟩:=q;cases beq_iff_eq.mp q1;cases beq_iff_eq.mp q2;obtain⟨nm,bs,mro,ns,qn,hd,sn,sub,ab,col,del⟩:=cd;have e1:mro= .ref C::bm:=em;have e2:del=false:=by simpa using q3
 obtain⟨sl⟩:=sl;have e3:sl=[k0,k1,k2,k3,some (.builtin eV),k5]:=es;subst e1 e2 e3;exact⟨bm,ns,nm,qn,bs,hd,sn,sub,ab,col,dd,k0,k1,k2,k3,k5,_,KX _ _ lk,.of_isNs (isNs_of_in KX q5),nsMap_none_of_in KX q5 (beq_iff_eq.mp q6),tail_of_in KX q4⟩
section
variable {X:Cx}{P:gM}{w:gE}{outer:List Env}{H0:Hp}{s0:gu}{E:XK}{x:Str}{C:gm}{a:gx}{ta:TE}{np i4 pos:Pos}
theorem Jp(xk:XeOk X P w outer H0 s0 E)(hc:X.calm=true)(hK:excIn X.K C veB "ValueError.__new__"=true)(hm:X.mg x=some (.ref C))(hg:Gl X x)(ha:PE X a ta)(hd:(x==("__debug__":Str))=false)
  (hs:starEach [a] X.env=[(false,eval a X.env)]):PS X (.Raise (some (.Call (.Name x np) [a] [] i4)) none pos) (fun D σ H=>ta σ H fun _ H1=>E (.ref C) none H1):=by
 intro pins s σ H D I h;obtain⟨bm,N,nm,qn,bs,dg,sn,sub,ab,col,dd,k0,k1,k2,k3,k5,mN,h1,h2,h3,h4⟩:=MI I.ok.mod.kin hK;have hp:(backTo i4 (starEach [a] X.env)).any (·.1)=false:=by rw[hs];rfl
 refine wpAny_Raise_call_subT (nm:=nm) (q:=qn) (N:=N) (bs:=bs) (hdct:=dg) (sn:=sn) (sub:=sub) (ab:=ab) (col:=col) (dd:=dd) (k0:=k0) (k1:=k1) (k2:=k2) (k3:=k3) (k5:=k5) PySem.F.excBase_ValueError (h4.hasType (by decide)) (I.ok.hd hc) hp h3 (tN I hg hm ⟨rfl,?_⟩ hd);rw[hs];refine Dq (DE (thn (ha pins s σ H _ I h) fun u s1 ⟨v,H1,I1,r1,q1⟩=>DF ⟨rfl,(show 1<=sizeLine by decide),I1.bk _ _ h1,h2.keeps I1.bk,h4.keeps I1.bk,fun h' e mk=>xk.made I1 mk q1⟩))
end
theorem sY{a b:Int}{t u:Nat}{c:gy}: ∀l:List Value,TriplesOk l->TriplesOk (l++[.int a t,.int b u,c])
 |[],_=>trivial
 | .int _ _:: .int _ _::_::hG,h=>sY hG h
theorem yH{a b:Int}{t u:Nat}{pos:Pos}{c cv:gy}: ∀l:List Value,TriplesOk l->codeAmong pos (l++[.int a t,.int b u,c])=some cv->codeAmong pos l=some cv\/cv=c
 |[],_,h=>by
  simp only[qU,codeAmong] at h;split at h
  ·exact .inr (iC h).symm
  ·cases h
 | .int i _:: .int j _::d::hG,h0,h=>by
  simp only[um,codeAmong] at h ⊢;split at h
  ·rename_i q;rw[gz q];exact .inl h
  ·rename_i q;rw[gC q];exact yH hG h0 h
structure LamAt(q:Str)(params:Arguments)(body:gx)(scope:ip)(b9:ji)(H:Hp)(h:gL)(fl:gm):Prop where
 fn: ∃pm c' u3,h.get? fl=some (kla_obj "<lambda>" q params body scope b9 pm c' u3)/\ ∃ob u vs t,H c'=some (.frz ob u)/\ob.data= .fields vs/\vs[1]?=some (.str q t)
 un:H fl=none
section
variable {X:Cx}{pins:gZ}{σ:St}{H:Hp}{s:gu}{P c:gm}{params:Arguments}{body:gx}{scope:ip}{b9:ji}{pos:Pos}
theorem Ng{h:gL}{a:gm}(e:h.objs.size<=a):h.get? a=none:=by
 cases q:h.get? a with
 |none=>rfl
 |some o=>exact absurd (iq q) (MV.mpr e)
theorem J8{M:Model}{A:gG}{E:hV}{Q:hV}(I:Inv X pins σ H s){more:kg}(hP:H P=some (.tbl (#[.str (X.env.qual++"<lambda>") 0]++more)))(hc:X.env.code= .ref c)(C:CodeHd X.base c P)(hB:X.base.BuiltinsAt X.mg P)(fM:mainGlobals≠P)
  (af:closureFor scope X.env=pure b9)(bg:defaultsOf params X.env=([],[]))
  (k: ∀s1 H1 fl,Inv X pins σ H1 s1->(∀b o,H b=some o->H1 b=some o)->LamAt (X.env.qual++"<lambda>") params body scope b9 H1 s1.heap fl->(∀b o,s.heap.get? b=some o->H b=none->s1.heap.get? b=some o)->(∀b o,s.heap.get? b=some o->H b=none->H1 b=none)->s.heap.get? fl=none->Q (.ref fl) s1):
  wpAny M A (eval (.Lambda params body scope pos) X.env) Q E s:=by
 refine kla_eval bg ?_;obtain⟨qq,tq,ps,eF,hPo,ht,hm⟩:=(show ObjOk X.prog X.w H s.heap P (.tbl (#[.str (X.env.qual++"<lambda>") 0]++more)) from I.hok P _ hP)
 have hqq:qq=X.env.qual++"<lambda>":=by
  rw[Array.getElem?_append_left (by simp)] at eF;simp at eF;exact eF.1.symm
 subst hqq;have s9:s.heap.BuiltinsAt X.mg P:=let⟨bm,o,h1,h2,h3,h4,h5,h6⟩:=hB;⟨bm,o,h1,h2,h3,h4,I.bk _ _ h5,h6⟩
 have hg:s.heap.Ns mainGlobals X.mg:=I.ok.mod.glob.keeps I.bk
 cases hf:codeAmong pos ps.toList with
 |some cv=>
  refine kla_makeFunctionHit af I.ok.glob hg hc (C.keeps I.bk) hPo ht hf s9 fun u3 h' tk kp sz=>?_;obtain⟨c',ob,u,vs,t,rfl,h2,h3,h4⟩:=hm pos cv hf;have kp2: ∀b o,s.heap.get? b=some o->(h'.push (kla_obj "<lambda>" (X.env.qual++"<lambda>") params body scope b9 ((X.mg "__name__").getD .none) c' u3)).get? b=some o:=fun b o e=>iB _ (kp b o e);exact k _ H _ (I.kept (t':=tk) kp2) (fun _ _ e=>e) ⟨⟨_,c',u3,kU _ rfl,ob,u,vs,t,h2,h3,h4⟩,I.hok.fresh sz⟩ (fun b o e _=>kp2 b o e) (fun _ _ _ n=>n) (Ng sz)
 |none=>
  refine kla_makeFunction af I.ok.glob hg hc (C.keeps I.bk) hPo ht hf fM s9 fun c' u3 h' tk ex c1 c2 cr tb=>?_;obtain⟨c0,oc,vs,t,ec,dF,dg,hq⟩:=cr;cases ec;have nc:H c'=none:=I.hok.fresh c1;have kp: ∀b o,b≠P->s.heap.get? b=some o->(h'.push (kla_obj "<lambda>" (X.env.qual++"<lambda>") params body scope b9 ((X.mg "__name__").getD .none) c' u3)).get? b=some o:=fun b o n e=>iB _ (ex b o n e);have up: ∀b o,H b=some o->upd H c' (.frz oc (.own 0)) b=some o:=fun b o e=>by rw[gR (jW e nc)];exact e
  have nP: ∀b,H b=none->b≠P:=fun b n z=>by rw[z,hP] at n;cases n
  have h'P:=iB (kla_obj "<lambda>" (X.env.qual++"<lambda>") params body scope b9 ((X.mg "__name__").getD .none) c' u3) tb
  have un:Un (frs X.stack) [] H (upd H c' (.frz oc (.own 0))) s.heap (h'.push (kla_obj "<lambda>" (X.env.qual++"<lambda>") params body scope b9 ((X.mg "__name__").getD .none) c' u3)):=
   ⟨fun b o e n _ _=>kp b o (nP b n) e,fun b o e n _ _=>⟨o.slots,kp b o (nP b n) e⟩,fun b o e n _=>by rw[gR (jy (lK (iq e) c1))];exact n,fun b o e _=>by
    by_cases z:b=P
    ·subst z;exact⟨_,h'P⟩
    ·exact⟨o,kp b o z e⟩,fun b xs e=>up b _ e,fun b o xs e=>up b _ e,fun b ps e=>⟨#[],by rw[up b _ e];simp⟩⟩
  have hok:HOk X.prog X.w (upd H c' (.frz oc (.own 0))) (h'.push (kla_obj "<lambda>" (X.env.qual++"<lambda>") params body scope b9 ((X.mg "__name__").getD .none) c' u3)):=fun b u e=>by
   by_cases hb:b=c'
   ·subst hb;rw[gU] at e;cases e;exact⟨iB _ dF,⟨oc,iB _ dF⟩⟩
   ·rw[gR hb] at e;by_cases hbP:b=P
    ·subst hbP;rw[hP] at e;cases e;refine⟨_,tq,_,eF,h'P,?_,fun pos' cv z=>?_⟩
     ·rw[HG];exact sY _ ht
     ·rw[HG] at z;rcases yH _ ht z with z|z
      ·obtain⟨c2,ob,u,vs,t,r1,r2,r3,r4⟩:=hm pos' cv z;exact⟨c2,ob,u,vs,t,r1,up _ _ r2,r3,r4⟩
      ·exact⟨c',oc,_,vs,t,z,gU,dg,hq⟩
    ·refine(I.hok b u e).stay (fun d w hd q=>kp d w (fun z=>?_) q) (fun d q=>up d _ q) (fun d xs q=>up d _ q) fun d _ _ q=>up d _ q;subst z;rcases hd with z|z
     ·exact hbP z.symm
     ·rw[hP] at z;cases z
  have I1:Inv X pins σ (upd H c' (.frz oc (.own 0))) {s with heap:=h'.push (kla_obj "<lambda>" (X.env.qual++"<lambda>") params body scope b9 ((X.mg "__name__").getD .none) c' u3),toks:=tk}:=I.call (g':=s.gens) (d':=s.drawn) (t':=tk) un hok I.bare fun b hb=>absurd hb (by simp);refine k _ _ _ I1 up ⟨⟨_,c',u3,kU _ rfl,oc,_,vs,t,gU,dg,hq⟩,?_⟩ (fun b o e n=>kp b o (nP b n) e) (fun b o e n=>un.free b o e n (by simp)) (Ng (vt (wk c1 c2)));rw[gR (uM c2)];exact I.hok.fresh (vt (wk c1 c2))
end
def yq(q:Str)(scope:ip)(L fl:gm)(cd:gy)(b9:ji):Env:=
 newEnv scope L mainGlobals b9 (q++".<locals>.") (some fl) cd none builtinsNs
def qh(CX:CXT)(P:gM)(w:gE)(K:Frag)(mg:jK)(base:gL)(N:gT)(q:Str)(scope:ip)(fl:gm)(cd:gy)(b9:ji)(A:gG)(outer:List Env)(s:gu)(H:Hp)(E:XK):Cx where
 prog:=P
 w:=w
 K:=K
 mg:=mg
 base:=base
 A:=A.deeper (yq q scope s.heap.objs.size fl cd b9)
 N:=N
 s₀:=s
 H₀:=H
 env:=yq q scope s.heap.objs.size fl cd b9
 outer:=outer
 stack:=yq q scope s.heap.objs.size fl cd b9::outer
 ex:=[]
 calm:=true
 fn:=fun _=>false
 pn:=[]
 xe:=fun e s'=>wpAny (model P w) (A.deeper (yq q scope s.heap.objs.size fl cd b9)) (leaving (yq q scope s.heap.objs.size fl cd b9) e) (fun _ aq=>CX outer H s E e aq) (fun e' aq=>CX outer H s E e' aq) s'
structure LamScope(scope:ip):Prop where
 kind:scope.kind= .function
 co:scope.isCoroutine=false
 gen:scope.isGenerator=false
 cell: ∀y∈scope.names,y.2≠ .cell
structure LamCells(N:gT)(scope:ip)(b9:ji)(σ:St)(H:Hp)(h:gL):Prop where
 inj: ∀x y c,b9.lookup x=some c->b9.lookup y=some c->x=y
 has: ∀x,scope.names.lookup x=some .free-> ∃c,b9.lookup x=some c
 cell: ∀x c,b9.lookup x=some c->(∃v,h.IsCell c v)/\H c=none
 val: ∀(i:Nat) (x:Str) (v:V),N[i]?=some x->σ[i]?=some (some v)->scope.names.lookup x=some .free/\ ∃c u,b9.lookup x=some c/\h.IsCell c (some u)/\RelV v u
 len:σ.length=N.length
section
variable {CX:CXT}{P:gM}{w:gE}{K:Frag}{mg:jK}{base:gL}{N:gT}{q:Str}{scope:ip}{fl:gm}{cd:gy}{b9:ji}{A:gG}{outer:List Env}{s:gu}{H:Hp}{E:XK}{σ:St}
theorem My(S:LamScope scope)(hd:A.handled=none)(e0:Env0 P w K mg base A outer s H)(C:LamCells N scope b9 σ H s.heap){h1:gL}{t1:Nat}(aJ:h1.Ns s.heap.objs.size (fun _=>none))(hk: ∀b o,s.heap.get? b=some o->h1.get? b=some o):
  Inv (qh CX P w K mg base N q scope fl cd b9 A outer s H E) [] σ H {s with heap:=h1,toks:=t1}:=by
 have bw: ∀b:Addr,b∉(qh CX P w K mg base N q scope fl cd b9 A outer s H E).ex:=fun b z=>absurd (show b∈([]:List Addr) from z) (by simp)
 refine⟨⟨e0.mod,S.kind,rfl,rfl,ic _,C.inj,fun y hy=>?_,fun y c z _=>absurd z (by simp[qh]),fun _=>hd,Ik e0.frames,.inr ⟨rfl,rfl⟩,fun b z=>absurd z (bw b),e0.bs,e0.bsz,fun b _ _=>bw b,fun b z=>absurd z (bw b),e0.funs,e0.frf⟩,
  rfl,e0.bare,Un.kept hk,⟨_,aJ,fun i y v h1 h2 _=>?_⟩,fun y c h=>?_,e0.hok.fresh (ic _),fun y c h=>(C.cell y c h).2,fun p hp=>absurd (show p∈([]:List (Addr×Obj)) from hp) (by simp),e0.hok.kept hk,C.len⟩
 ·have hy:scope.names.lookup y=some .cell\/scope.names.lookup y=some .free:=hy;rcases hy with hy|hy
  ·exact absurd rfl (S.cell _ (oi hy))
  ·exact C.has y hy
 ·obtain⟨hf,c,u,hc,l6,r⟩:=C.val i y v h1 h2;exact⟨u,r,.inr ⟨.inr hf,c,hc,l6.keeps hk⟩⟩
 ·obtain⟨⟨v,hv⟩,_⟩:=C.cell y c h;exact⟨v,hv.keeps hk⟩
theorem Ms{params:Arguments}{body:gx}{k:Nat}{t:TE}{Q:VK}(S:LamScope scope)(hr:Room (k+1) A)(e0:Env0 P w K mg base A outer s H)(C:LamCells N scope b9 σ H s.heap)(L:LamAt q params body scope b9 H s.heap fl)
  (t9: ∀pm c' u3,bindArgs (kla_fn "<lambda>" q params body scope b9 pm (.ref c') u3) ⟨[],[]⟩=pure [])
  (hb: ∀c':Addr,Room k (A.deeper (yq q scope s.heap.objs.size fl (.ref c') b9))->PE (qh CX P w K mg base N q scope fl (.ref c') b9 A outer s H E) body t)(ht:t σ H Q):
  codeAny (model P w) A (.call (.ref fl) ⟨[],[]⟩) (CR CX outer P w H s Q E) s:=by
 obtain⟨pm,c',u3,ho,ob,u,vs,tk,h1,h2,h3⟩:=L.fn;have r9:s.heap.CodeRec (.ref c') q:=⟨c',ob,vs,tk,rfl,(e0.hok c' _ h1).1,h2,h3⟩
 have lim:s.heap.NoLimit:=e0.mod.nolimit.keeps fun b o e=>(e0.bs b o e).1;refine kla_callFunE hr.depth ho rfl S.co S.gen rfl r9 ?_;rw[t9];refine gA (wpAny_newFunctionEnv S.cell (by intro y hy;simp at hy) (fun h₁ aJ aE=>⟨lim.fresh _ aE,?_⟩) S.kind);show codeAny _ _ (.expr body (yq q scope s.heap.objs.size fl (.ref c') b9)) _ _;have hk₁: ∀b o,s.heap.get? b=some o->h₁.get? b=some o:=fun b o e=>aE.extBut b o (jy (iq e)) (iB _ e);have I:=My (CX:=CX) (q:=q) (fl:=fl) (cd:= .ref c') (E:=E) (t1:=s.toks+([]:List (Str×Value)).length) S hr.hd e0 C (by simpa using aJ) hk₁;refine kla_codeExpr (nA (hb c' (hr.deeper _) [] _ σ H Q I ht) (fun v s' hs=>?_) fun e s' hs=>hs);obtain⟨x,H',J,rv,qq⟩:=hs;exact⟨x,H',J.os,J.bare,J.base,J.hok,rv,qq⟩
end
open PySem.Calls Builtin Builtin.ObjectAttr Builtin.Getset_descriptor
structure ExcK(K:Frag)(C:gm):Prop where
 ga:findIn K (.ref C) "__getattribute__"=some (some (.builtin "BaseException.__getattribute__"))
 gb:findIn K (.ref C) "__getattr__"=some none
 mrB:mroIn K C (.type "BaseException")=some true
 dct:hasDictIn K C=true
 fnd:findIn K (.ref C) "__class__"=some (some (.builtin "object.__class__"))
 spc:specialIn K (.builtin "object.__class__") "__get__"=some (some (.builtin "getset_descriptor.__get__"))
 tks:takesIn K (.builtin "object.__class__")=some true
 mro:mroIn K C (.type "object")=some true
section
variable {K:Frag}{C x:gm}{o:Obj}
theorem Kn{M:Model}{h:gL}(Z:ExcK K C)(X:K.In h):Looks M h (find (.ref x) (.ref C) "__class__") (.bind (.builtin "getset_descriptor.__get__") (.builtin "object.__class__")):=by
 have L3:=looks_takesIn (M:=M) X Z.tks;exact(looks_findIn X Z.fnd).andThen ((show Looks M h (getOf (some (.builtin "object.__class__"))) _ from looks_specialIn X Z.spc).andThen ((show Looks M h (dataDescriptor? (some (.builtin "object.__class__")) (some (.builtin "getset_descriptor.__get__"))) (some (.builtin "getset_descriptor.__get__",.builtin "object.__class__")) from L3.andThen .now).andThen (Looks.tag .now)))
theorem J9(Z:ExcK K C)(hc:o.cls= .ref C):KitX K (.ref x) (.ref C) fun h=>h.get? x=some o:=by
 have ty: ∀(M:Model) (h:gL),h.get? x=some o->Looks M h (typeOf (.ref x)) (.ref C):=fun M h e=>hc▸(Looks.ld e).andThen .now;obtain⟨cdD,fR,_⟩:=any_some Z.dct;unfold clsIn at fR;split at fR
 case h_2=>cases fR
 rename_i c' d' cd' dX ho;refine⟨fun M h _ e=>ty M h e,fun M h X _=>?_,fun h tp dd b6 n sl X htp=>?_,fun {prog w A E Q s} X e k=>?_⟩
 ·intro A' Q' E' s' kk q;unfold isType loadHead;exact gw (wpAny_loadPart (kk _ _ (X _ _ ho)) (gA q))
 ·refine Bool.eq_false_iff.mpr fun q=>?_;have e:C=tp:=Value.ref.inj (beq_iff_eq.mp q);subst e;have z:=(X _ _ ho).symm.trans htp;cases z
 ·obtain⟨hh,g,d,t,os⟩:=s;have T0:=ty (model prog w) hh e;have G0:=looks_findIn (M:=model prog w) X Z.ga;have G1:=looks_findIn (M:=model prog w) X Z.gb;have F0:=Kn (x:=x) (M:=model prog w) Z X;have M0:=looks_mroIn (M:=model prog w) X Z.mro;unfold getAttr? getAttrBy? getAttrBy;refine gw (wpAny_mkText (gw (wt (lY (gw (T0.at (gw (G0.at ?_))))))));have MB:=looks_mroIn (M:=model prog w) X Z.mrB;have eA:(Value.builtin "BaseException.__getattribute__"==Value.builtin "object.__getattribute__")=false:=by decide+kernel
  show wpAny _ _ (if onTheHeap (Value.ref C)&&Value.builtin "BaseException.__getattribute__"==Value.builtin "object.__getattribute__" then _ else getAttrByItsOwn _ _ _ _ _ _) _ _ _;rw[gC (by rw[eA];simp)];unfold getAttrByItsOwn;refine gw ((show Looks _ _ (hookBefore (.ref C)) none from G1).at (gw (wt (lY ?_))));show wpAny _ _ (boundAndCalled (.builtin "BaseException.__getattribute__") (.ref x) (.str "__class__" _)) _ _ _;unfold boundAndCalled;rw[show bindSpecial (.builtin "BaseException.__getattribute__") (.ref x)=pure (.builtin "BaseException.__getattribute__",[.ref x]) from P7.ga.bind _];refine gw (gA (wF (CQ P7.ga.plain F.entry_bexc_ga ?_)));have hk:builtinKind "BaseException.__getattribute__"=some .slot:=by decide+kernel
  have hsplit:splitId "BaseException.__getattribute__"=some ("BaseException","__getattribute__"):=by decide+kernel
  have ha:=F.args_bexc_ga (.ref x) (.str "__class__" t);simp only[checkBuiltinCall,hk,hsplit];refine gw ?_;unfold isInstance
  repeat lk
  refine wpAny_run (h:=none) (c:= .call (.builtin "getset_descriptor.__get__") ⟨[.builtin "object.__class__",.ref x,.ref C],[]⟩) ?_;refine CQ KF.slot_gs.plain KF.entry_gs (KF.slot_gs.check _ _ _ _ _ _ _ _ (show Shared.TypeIs _ (.builtin "object.__class__") "getset_descriptor" from KF.type_class) (KF.args_gs _ _ _) ?_);unfold Builtin.«getset_descriptor.__get__» descrGet;rw[dga_obj];refine gw (gA ?_);unfold descrGetter descrCheckInstance descrNameAndClass isInstance;simp only[KF.owner_class]
  repeat lk
  refine⟨Code.quiet_builtin _ (by decide+kernel),vp KF.entry_class ?_⟩;unfold Builtin.«object.__class__» shownTypeOf
  repeat lk
  exact k
end
section
variable {X:Cx}{pins:gZ}{σ σ':St}{H:Hp}{s:gu}{a:gm}{o:Obj}{h':gL}
theorem Inv.track(I:Inv X pins σ H s)(hn:H a=none)(h0:X.s₀.heap.get? a=none)(ha:s.heap.get? a=some o)(hc: ∀v,o.data≠ .cell v)(hl:a≠X.env.locals)(hp: ∀p∈X.pn++pins,p.1≠a):Inv X pins σ (upd H a (.frz o (.own 0))) s:=by
 have up: ∀b u,H b=some u->upd H a (.frz o (.own 0)) b=some u:=fun b u e=>by rw[gR (jW e hn)];exact e
 refine⟨I.ok,I.os,I.bare,⟨I.base.keep,I.base.slot,fun b ob e n hx=>?_,I.base.there,fun b xs e=>up _ _ (I.base.tups b xs e),fun b ob u e=>up _ _ (I.base.frzs b ob u e),fun b ps e=>?_⟩,I.loc,I.cell,?_,fun x c hx=>?_,fun p hm=>?_,fun b u e=>?_,I.len⟩
 ·rw[gR (fun z=>by subst z;rw[h0] at e;cases e)];exact I.base.free b ob e n hx
 ·obtain⟨m,e1⟩:=I.base.tbls b ps e;exact⟨m,up _ _ e1⟩
 ·rw[gR (mC hl)];exact I.free
 ·rw[gR (fun z=>?_)];exact I.freeC x c hx;obtain⟨v,ob,e1,e2⟩:=I.cell x c hx;subst z;rw[ha] at e1;cases e1;exact hc v e2
 ·obtain⟨e1,e2,e3⟩:=I.pin p hm;exact⟨e1,by rw[gR (hp p hm)];exact e2,e3⟩
 ·by_cases hb:b=a
  ·subst hb;rw[gU] at e;cases e;exact⟨ha,⟨o,ha⟩⟩
  ·rw[gR hb] at e;exact(I.hok b u e).stay (fun _ _ _ q=>q) (fun c q=>up c _ q) (fun c xs q=>up c _ q) fun c _ _ q=>up c _ q
theorem Inv.names(I:Inv X pins σ H s){t':Nat}(hs:Heap.SameBut X.env.locals s.heap h')(hl:σ'.length=σ.length)(w: ∀(i:Nat) v,σ'[i]?=some (some v)->σ[i]?=some (some v))
  (hm: ∀m,s.heap.Ns X.env.locals m-> ∃m',h'.Ns X.env.locals m'/\ ∀(i:Nat) x v,X.N[i]?=some x->σ'[i]?=some (some v)->m' x=m x):Inv X pins σ' H {s with heap:=h',toks:=t'}:=by
 obtain⟨m,hn,fF⟩:=id I.loc;obtain⟨m',fA,hmm⟩:=hm m hn;have oth: ∀b ob,b≠X.env.locals->s.heap.get? b=some ob->h'.get? b=some ob:=fun b ob n e=>(hs.2 b n).trans e;have nl: ∀{b ob},X.s₀.heap.get? b=some ob->b≠X.env.locals:=fun e=>jy (lK (iq e) I.ok.above);refine⟨I.ok,I.os,I.bare,⟨fun b ob e n hb hx=>oth b ob (nl e) (I.base.keep b ob e n hb hx),fun b ob e n hb hx=>?_,I.base.free,fun b ob e hx=>?_,I.base.tups,I.base.frzs,I.base.tbls⟩,⟨m',fA,fun i x v e1 e2 e3=>?_⟩,fun x c e=>?_,I.free,I.freeC,fun p hp=>?_,fun b u e=>?_,hl.trans I.len⟩
 ·obtain⟨sl,e1⟩:=I.base.slot b ob e n hb hx;exact⟨sl,oth b _ (nl e) e1⟩
 ·obtain⟨o',e1⟩:=I.base.there b ob e hx;exact⟨o',oth b _ (nl e) e1⟩
 ·obtain⟨u,r,q⟩:=fF i x v e1 (w i v e2) e3;refine⟨u,r,?_⟩;rcases q with⟨k,z⟩|⟨k,c,z,y⟩
  ·exact .inl ⟨k,(hmm i x v e1 e2).trans z⟩
  ·exact .inr ⟨k,c,z,y.sameBut hs (I.cne x c z)⟩
 ·obtain⟨v,z⟩:=I.cell x c e;exact⟨v,z.sameBut hs (I.cne x c e)⟩
 ·obtain⟨e,n,ne,nf,d⟩:=I.pin p hp;exact⟨oth _ _ ne e,n,ne,nf,d⟩
 ·refine(I.hok b u e).stay (fun c v hc q=>oth c v (fun z=>?_) q) (fun _ q=>q) fun _ _ q=>q;subst z;rcases hc with z|z
  ·subst z;rw[I.free] at e;cases e
  ·rw[I.free] at z;cases z
def Cx.mark(X:Cx)(e:gy)(E:hV):Cx:={X with A:=X.A.mark (some e),calm:=false,xe:=E}
theorem Inv.mark(I:Inv X pins σ H s)(e:gy)(E:hV):Inv (X.mark e E) pins σ H s:=
 ⟨⟨I.ok.mod,I.ok.kind,I.ok.glob,I.ok.blt,I.ok.above,I.ok.inj,I.ok.has,I.ok.cab,(fun z=>by cases z),I.ok.frames,I.ok.stk,I.ok.exf,I.ok.bs,I.ok.bsz,I.ok.noex,I.ok.exfs,I.ok.funs,I.ok.frf⟩,I.os,I.bare,I.base,I.loc,I.cell,I.free,I.freeC,I.pin,I.hok,I.len⟩
theorem Inv.unmark{e:gy}{E:hV}(I:Inv (X.mark e E) pins σ H s)(hd:X.calm=true->X.A.handled=none):Inv X pins σ H s:=
 ⟨⟨I.ok.mod,I.ok.kind,I.ok.glob,I.ok.blt,I.ok.above,I.ok.inj,I.ok.has,I.ok.cab,hd,I.ok.frames,I.ok.stk,I.ok.exf,I.ok.bs,I.ok.bsz,I.ok.noex,I.ok.exfs,I.ok.funs,I.ok.frf⟩,I.os,I.bare,I.base,I.loc,I.cell,I.free,I.freeC,I.pin,I.hok,I.len⟩
end
theorem ObjOk.there{P:gM}{w:gE}{H:Hp}{h:gL}{a:gm}{o:HO}(x:ObjOk P w H h a o): ∃ob,h.get? a=some ob:=by
 cases o with
 |lst xs=>obtain⟨_,_,_,_,e⟩:=x;exact⟨_,e⟩
 |tup xs=>obtain⟨_,_,_,ob,e,_⟩:=x;exact⟨_,e⟩
 |dK i3=>obtain⟨_,_,_,_,o,_,_,e,_⟩:=x;exact⟨_,e⟩
 |dT i3=>obtain⟨_,_,_,_,o,_,_,e,_⟩:=x;exact⟨_,e⟩
 |set S n=>obtain⟨o,_,_,_,e,_⟩:=x;exact⟨_,e⟩
 |stt zs=>obtain⟨_,_,_,e,_⟩:=x;exact⟨_,e⟩
 |ins C dx fs=>obtain⟨_,_,_,e,_⟩:=x;exact⟨_,e⟩
 |own y=>exact x
 |xd fs=>obtain⟨_,⟨_,_,_,e,_⟩,_⟩:=x;exact⟨_,e⟩
 |rng lo hi=>obtain⟨_,_,_,e⟩:=x;exact⟨_,e⟩
 |frz ob u=>exact⟨_,x.1⟩
 |tbl ps=>obtain⟨_,_,_,_,e,_⟩:=x;exact⟨_,e⟩
 |met f y=>exact⟨_,x⟩
 |ext φ=>exact x.2.1
section
variable {X:Cx}{pins:gZ}{σ:St}{H H':Hp}{s s':gu}{C ea:gm}{h0 B h':gL}{F:jo}{a0:gy}
theorem Fly.inv(I:Inv X pins σ H s)(f:Fly X.prog X.w X.stack H s C H' ea s' h0 B F)(hB:B.StaysIn h')(hu:h0.UpToSlots h'):Inv X pins σ H' {s' with heap:=h'}:=by
 obtain⟨un,hok⟩:=f.end I.frsOk hB hu;exact I.call' (s':={s' with heap:=h'}) f.os un hok f.bare fun b hb=>absurd hb (by simp)
theorem Fly.fresh(I:Inv X pins σ H s)(hex:X.ex=[])(f:Fly X.prog X.w X.stack H s C H' ea s' h0 B F):H' ea=none/\X.s₀.heap.get? ea=none/\s.heap.get? ea=none:=by
 have hs:s.heap.get? ea=none:=by
  cases e:s.heap.get? ea with
  |none=>rfl
  |some o=>
   obtain⟨o',e'⟩:=f.un.there ea o e (by simp);rw[f.ne] at e';cases e'
 refine⟨?_,?_,hs⟩
 ·cases e:H' ea with
  |none=>rfl
  |some o=>
   obtain⟨ob,z⟩:=(f.hok ea o e).there;rw[f.ne] at z;cases z
 ·cases e:X.s₀.heap.get? ea with
  |none=>rfl
  |some o=>
   obtain⟨o',e'⟩:=I.base.there ea o e (by rw[hex];simp);rw[hs] at e';cases e'
theorem TL{E:XK}{e:gy}{xr xx xn:Str}{CR:gm}{i j:Nat}{D:Ends}{p4 p5 p6 p7 p8:Pos}(u9:X.stack=X.env::X.outer)(dI:X.env.frame=some X.env.locals)(hex:X.ex=[])(I:Inv X pins σ H s)(h:CXx X.prog X.w X.stack H s E e s')
  (hg:Gl X xr)(hm:X.mg xr=some (.ref CR))(m9:(xr==("__debug__":Str))=false)(cF: ∀C H',E (.ref C) none H'->exmOne X.K (.ref C) (.ref CR)=some true)
  (hN:X.N.Nodup)(hi:X.N[i]?=some xx)(hj:X.N[j]?=some xn)(o4:i≠j)(lx:X.env.scope.names.lookup xx=some .local)(ln:X.env.scope.names.lookup xn=some .local)(fO:(xn==("__debug__":Str))=false)(fQ:(xn==("__classdict__":Str))=false)
  (fm:swapsWith (.Name xn p6) (some (.Name xx p5)) p7.line X.env=pure false)
  (k: ∀C H' ea o,E (.ref C) none H'->H' ea=none->o.cls= .ref C->D.nx ((σ.set j none).set i (some (.ref ea))) (upd H' ea (.frz o (.own 0)))):
  wpAny (model X.prog X.w) X.A (noteFrame e X.env) (fun _ s₂=>wpAny (model X.prog X.w) X.A (setFlight e none) (fun _ s₃=>wpAny (model X.prog X.w) X.A (handleBy e X.env [.ExceptHandler (some (.Name xr p4)) (some xn) [.Assign [.Name xx p5] (.Name xn p6) p7] p8]) (SP X pins D) X.xe s₃) X.xe s₂) X.xe s':=by
 obtain⟨C,H',ea,h0,B,F,rfl,f,q⟩:=h;obtain⟨a0,fl⟩:=f.fl;obtain⟨n1,n2,n3⟩:=f.fresh I hex;rw[u9] at fl;have eK:i<σ.length:=by rw[I.len];exact(pQ.mp hi).1
 have fH:j<σ.length:=by rw[I.len];exact(pQ.mp hj).1
 have bK:(X.env.scope.kind== .class||(X.env.scope.kind== .module&&X.env.locals !=X.env.globals))=false:=by rw[I.ok.kind];rfl
 refine wpAny_looks_onW (I.ok.frames.trans (by rw[u9])) dI fl fun h2 held ar=>?_;refine wpAny_landsW held fun h3 fZ bt=>?_;have I3:Inv X pins σ H' {s' with heap:=h3}:=f.inv I fZ.1 (f.up.trans (ar.trans bt));obtain⟨ob3,he3,hc3⟩:=fZ.there;refine wpAny_handleBy_cons (codeAny_handlers_test ?_) (by intro q;cases q);refine tN (X:=X.mark (.ref ea) fun _ _=>False) (I3.mark _ _) hg hm ?_ m9;refine(exm_one (M:=model X.prog X.w) I3.kIn (hc3▸(Looks.ld he3).andThen .now) (cF C H' q)).here ?_;refine codeAny_handlers_suite_as ?_;obtain⟨g1,g2,g3,g4⟩:=id fZ;refine wpAny_setFlight_noneW g1 g3 g4 fun h4 k1 k2 k3 k4=>?_;have up4:h3.UpToSlots h4:=fun b o hb hn=>⟨o.slots,k4 b o hb hn⟩
 have I4:Inv X pins σ H' {s' with heap:=h4}:=f.inv I k1 (f.up.trans (ar.trans (bt.trans up4)));obtain⟨oe,vs,T,oT,ts,he,⟨hcls4,_⟩,hd,_⟩:=id k3
 have I5:Inv X pins σ (upd H' ea (.frz oe (.own 0))) {s' with heap:=h4}:=by
  refine I4.track n1 n2 he (fun v z=>by rw[hd] at z;cases z) (fun z=>?_) (fun p hp z=>?_)
  ·have:=I.lt;obtain⟨m,⟨o,_,_,ho,_⟩,_⟩:=id I.loc;rw[<-z,n3] at ho;cases ho
  ·obtain⟨e1,_⟩:=I.pin p hp;rw[z,n3] at e1;cases e1
 refine pX I5 hN hj (.inl ln) (v:= .ref ea) rfl (fun s6 I6=>?_) (.inr ln);have ps:=fun E0:Value->Shared->Prop=>oD (X:=X.mark (.ref ea) E0) (Jn (X:=X.mark (.ref ea) E0) hN hi (.inl lx) (xq (X:=X.mark (.ref ea) E0) hj (.inl ln) fO fQ) fm (.inr lx)) (FD (X:=X.mark (.ref ea) E0));refine thn (ps _ pins s6 _ _ {nx:=fun σ7 H7=>σ7=(σ.set j (some (.ref ea))).set i (some (.ref ea))/\H7=upd H' ea (.frz oe (.own 0)),rt:=fun _ _=>False} (I6.mark (.ref ea) _) ⟨.ref ea,by rw[lJ fH],rfl,rfl⟩) fun fl s7 hs=>?_
 cases fl with
 |ret u=>obtain⟨_,_,_,_,_,z⟩:=hs;exact z.elim
 |brk=>obtain⟨_,_,_,z⟩:=hs;exact z.elim
 |cont=>obtain⟨_,_,_,z⟩:=hs;exact z.elim
 |next=>
  obtain⟨σ7,H7,I7,rfl,rfl⟩:=hs;have I7:=I7.unmark I.ok.hd;obtain⟨m,hn,_⟩:=id I7.loc;refine gw (DH (Io ln hn (fun h₁ hn₁ hs₁=>?_) bK));unfold unbindBehindTheSuite;refine wpAny_onRaise ?_;unfold unbindName;refine gw (wpAny_point (gw ?_));unfold deleteName;have ln':X.env.kindOf xn=some .local:=ln;simp only[ln',bK];rw[gC (by decide)];refine gw (wpAny_nsDel_keeps hn₁ fun h₂ v₂ hn₂ hs₂=>?_);simp only[iA,Option.isSome_some,lH,iJ,iX];refine gA (wpAny_point ⟨(σ.set j none).set i (some (.ref ea)),_,I7.names (hs₁.trans hs₂) (by simp) (fun l v z=>?_) (fun m0 hm0=>?_),k C H' ea oe q n1 hcls4⟩)
  ·by_cases hl:l=i
   ·subst hl;rw[lJ (by simpa using eK)] at z ⊢;exact z
   ·rw[mQ (mC hl)] at z ⊢;by_cases aL:l=j
    ·subst aL;rw[lJ fH] at z;cases z
    ·rw[mQ (mC aL)] at z ⊢;exact z
  ·refine⟨_,hn₂,fun l x v e1 e2=>?_⟩
   have hx:x≠xn:=fun z=>by
    subst z;have:=xH hN e1 hj;subst this;rw[mQ o4,lJ fH] at e2;cases e2
   simp only[hx,iX];obtain⟨o1,es1,ep1,z1,z2,_,z3⟩:=id hn;obtain⟨o2,es2,ep2,y1,y2,_,y3⟩:=id hm0;rw[z1] at y1;cases y1;rw[z2] at y2;cases y2;exact(z3 x).symm.trans (y3 x)
end
end L2
namespace PX
open PySem PySem.Spec PyProof.Rows L2 PySem.SeqAt PySem.W
abbrev XS:=Dn->Option Str
def tZ(K:gQ)(mg:jK)(E:XK)(x:XS):L2.St->Hp->Prop:=fun σ H=> ∃δ T c,ER K H T σ δ/\(∀a,¬OwnA σ δ a)/\x δ=some c/\ ∀H' C,(∀a o,H a=some o->H' a=some o)->mg c=some (.ref C)->E (.ref C) none H'
def PZ(X:Cx)(E:XK)(st:Stmt)(x:XS):Prop:=PS X st fun _=>tZ X.K X.mg E x
def PZs(X:Cx)(E:XK)(st:List Stmt)(x:XS):Prop:=PSs X st fun _=>tZ X.K X.mg E x
def PZE(X:Cx)(E:XK)(e:gx)(x:XS):Prop:=PE X e fun σ H _=>tZ X.K X.mg E x σ H
def spR(K:gQ)(mg:jK)(xc:List D->Option Str):Sp:=fun vs H _ E=> ∃T ds c,ER K H T (vs.map some) ((ds.map fun d=>(d,false)).map some)/\xc ds=some c/\ ∀C H',(∀a o,H a=some o->H' a=some o)->mg c=some (.ref C)->E (.ref C) none H'
def xcF(n np:Nat)(x:XS):List D->Option Str:=fun ds=>if ds.length=np/\np<=n then x (((ds.map fun d=>(d,false)).map some)++List.replicate (n-np) none) else none
def lr(xc:List D->Option Str)(fs:List FO):XS:=fun δ=>(ja fs δ).bind fun p=>(iR p.2 p.1).bind fun args=>if(args.all fun a=>!a.2)=true then xc (args.map (·.1)) else none
def wK(c:Str)(f:F):XS:=fun δ=>(f δ).bind fun _=>some c
def qO(δ:Dn):Bool:=δ.all fun x=>match x with
 |some (_,true)=>false
 |_=>true
def Ir(f:FS)(x:XS):XS:=fun δ=>(f δ).bind fun o=>match o with
 | .nx δ1=>if qO δ1=true then x δ1 else none
 |_=>none
def zIf(t:FT)(x y:XS):XS:=fun δ=>(t δ).bind fun p=>if qO p.2=true then(if p.1=true then x p.2 else y p.2) else none
def zOr(x y:XS):XS:=fun δ=>match x δ with
 |some c=>some c
 |none=>y δ
def zNo:XS:=fun _=>none
theorem qI{δ:Dn}(h:qO δ=true)(σ:L2.St)(a:gm): ¬OwnA σ δ a:=fun⟨i,d,h1,_⟩=>by
 have:=kZ.mp h _ (kF h1);simp at this
section
variable {X:Cx}{P:gM}{w:gE}{outer:List Env}{H0:Hp}{s0:gu}{E:XK}{A:iu}{st:Stmt}{y8 a b:List Stmt}{x y:XS}{e:gx}{pos:Pos}
theorem R6:PZs X E y8 zNo:=fun pins s σ H D I h=>by obtain⟨_,_,_,_,_,e,_⟩:=h;cases e
theorem R0(h1:PZs X E y8 x)(h2:PZs X E y8 y):PZs X E y8 (zOr x y):=fun pins s σ H D I h=>by
 obtain⟨δ,T,c,E0,no,e,k⟩:=h;unfold zOr at e;split at e
 ·rename_i q;cases e;exact h1 pins s σ H D I ⟨δ,T,_,E0,no,q,k⟩
 ·exact h2 pins s σ H D I ⟨δ,T,c,E0,no,e,k⟩
theorem Ov:PSs X y8 fun _ _ _=>False:=fun _ _ _ _ _ _ h=>h.elim
theorem rV(h:PZ X E st x):PZs X E (st::y8) x:=PSs.imp' (oD h Ov) fun _ _ _ h=>h
theorem Nq{f:FS}(h1:PSX X A (fun _=>True) (fun _=>none) st f)(h2:PZs X E y8 x):PZs X E (st::y8) (Ir f x):=PSs.imp' (oD h1 h2) fun D σ H h=>by
 obtain⟨δ,T,c,E0,no,e,k⟩:=h;obtain⟨o,h1,e⟩:=gk e
 cases o with
 |nx δ1=>
  have e:(if qO δ1=true then x δ1 else none)=some c:=e;split at e
  case isFalse=>cases e
  rename_i fz;exact⟨δ,T,_,E0,⟨fun _ _ _=> .inl trivial,fun _ z=>absurd rfl z⟩,h1,fun σ1 H1 S1 E1=>⟨δ1,T,c,E1,qI fz σ1,e,fun H' C kp hm=>k H' C (fun a o q=>kp a o (S1.kp a o q (no a))) hm⟩⟩
 |_=>cases e
theorem K6{z:Str}{C:gm}{a:gx}{fa:F}{np i4:Pos}(xk:XeOk X P w outer H0 s0 E)(hc:X.calm=true)(hK:excIn X.K C veB "ValueError.__new__"=true)(hm:X.mg z=some (.ref C))(hg:Gl X z)(ha:PX X a fa)(hd:(z==("__debug__":Str))=false)
  (hs:starEach [a] X.env=[(false,eval a X.env)]):PZ X E (.Raise (some (.Call (.Name z np) [a] [] i4)) none pos) (wK z fa):=PS.imp' (Jp xk hc hK hm hg ha hd hs) fun D σ H h=>by
 obtain⟨δ,T,c,E0,no,e,k⟩:=h;obtain⟨⟨r,δ1⟩,h1,e⟩:=gk e;cases e;exact⟨δ,T,r,δ1,E0,h1,fun v H1 P1=>k H1 C (fun a o q=>P1.1.kp a o q (no a)) hm⟩
theorem R7{c:gx}{ft:FT}(hc:PTX X c ft)(ha:PZs X E a x)(hb:PZs X E b y):PZ X E (.If c a b pos) (zIf ft x y):=PS.imp' (Nc hc ha hb) fun D σ H h=>by
 obtain⟨δ,T,c,E0,no,e,k⟩:=h;obtain⟨⟨t,δ1⟩,h1,e⟩:=gk e;dsimp only at e;split at e
 case isFalse=>cases e
 rename_i fz;refine⟨δ,T,t,δ1,E0,h1,fun H1 K1 E1=>?_⟩;have fin: ∀z:XS,z δ1=some c->tZ X.K X.mg E z σ H1:=fun z hz=>⟨δ1,T,c,E1,qI fz σ,hz,fun H' C kp hm=>k H' C (fun a o q=>kp a o (K1.kp a o q (no a))) hm⟩
 cases t with
 |true=>exact Mw (fin x (by simpa using e))
 |false=>exact Mx (fin y (by simpa using e))
theorem Nr(h:PZE X E e x)(hs:swapsWith e none pos.line X.env=pure false):PZ X E (.Expr e pos) x:=PS.imp' (FE h hs) fun _ _ _ h=>h
variable {k:Nat}{f:gm}{fd:kR}{ps:gT}{xc:List D->Option Str}{es:jf}{fs:List FO}{z:Str}{p:Pos}
theorem Nt(xk:XeOk X P w outer H0 s0 E)(F:FnOk X.prog X.w X.K X.mg X.base (CXx P w) k f fd ps (spR X.K X.mg xc))(hr:Room k X.A)(hg:Gl X z)(hm:X.mg z=some (.ref f))(hk:PySem.W.keepIn X.K (.ref f)=true)(hb:Binds X.K fd ps [])
  (ha:PA X (e::es) (tA X.K fs))(m9:(z==("__debug__":Str))=false)(he:starEach (e::es) X.env=(false,eval e X.env)::starEach es X.env)(j5:(backTo pos (starEach es X.env)).any (·.1)=false):
  PZE X E (.Call (.Name z p) (e::es) [] pos) (lr xc fs):=PE.imp' (FH F hr hg hm hk hb (.nil) xk.pass ha m9 he j5) fun σ H Q h=>by
 obtain⟨δ,T,c,E0,no,e,kk⟩:=h;obtain⟨⟨os,δ1⟩,h1,e⟩:=gk e;obtain⟨args,h2,e⟩:=gk e;dsimp only at e h2;split at e
 case isFalse=>cases e
 rename_i h3;refine⟨δ,T,os,δ1,E0,h1,fun vs H1 T1 B=>?_⟩;show spR X.K X.mg xc (vs++[]) H1 Q E;rw[sN]
 have hl: ∀a∈args,a=(a.1,false):=fun a ha=>by
  have:=kZ.mp h3 a ha;obtain⟨d,f⟩:=a
  cases f with
  |false=>rfl
  |true=>cases this
 have hargs:args=(args.map (·.1)).map fun d=>(d,false):=by
  rw[lG]
  conv=>lhs;rw[<-qT args]
  exact rK fun a ha=>hl a ha
 have nd: ∀(os:List Opd) (as:List (D×Bool)),(∀a∈as,a=(a.1,false))->gP os as=[]:=fun os=>by
  induction os with
  |nil=>intro as _;cases as<;>simp[gP]
  |cons o os ih=>
   intro as h
   cases as with
   |nil=>simp[gP]
   |cons a as=>
    have h0:=h a iN;obtain⟨d,f⟩:=a;cases h0;cases o<;>simp[gP,ih as fun a ha=>h a (iK _ ha)]
 have Ec:=ug E0 B h2 (by rw[nd os args hl];exact rJ);rw[hargs] at Ec;exact⟨_,args.map (·.1),c,Ec,e,fun C H' kp hc=>kk H' C (fun a o q=>kp a o (B.keep.kp a o q (no a))) hc⟩
end
theorem Mz{P:gM}{w:gE}{K:gQ}{mg:jK}{base:gL}{x qual:Str}{st:Stmt}{f:gm}{fd:kR}{N ps:gT}{k:Nat}{xs:XS}(F:Fun K x qual st f fd)(S:FnScope N ps (gv st))
  (o7: ∀(f9:gy) (A:gG) (outer:List Env) (s:gu) (H:Hp) (E:XK),Room k (A.deeper (envOfC qual (gv st) s.heap.objs.size f f9))->PZs (nX (CXx P w) P w K mg base N qual (gv st) f f9 A outer s H E) E (jX st) xs):
  FnOk P w K mg base (CXx P w) (k+1) f fd ps (spR K mg (xcF N.length ps.length xs)):=by
 obtain⟨oc,od,kV,doc,pm,an,f9,ct,y9,e,lk,r9⟩:=F.ex;subst e;refine Kl lk r9 S (fun vs H Q E h=>?_) fun A outer s H vs Q E hr h=>?_
 ·obtain⟨T,ds,c,E0,e,_⟩:=h;unfold xcF at e;split at e
  case isFalse=>cases e
  rename_i q;have:=E0.len;simp at this;rw[this,q.1]
 ·obtain⟨T,ds,c,E0,e,kk⟩:=h;unfold xcF at e;split at e
  case isFalse=>cases e
  rename_i q;have hl:=E0.len;simp at hl;refine⟨_,o7 f9 A outer s H E hr,((ds.map fun d=>(d,false)).map some)++List.replicate (N.length-ps.length) none,T,c,?_,?_,e,fun H' C kp hm=>kk C H' kp hm⟩
  ·have:=E0.pad (m:=N.length-ps.length);unfold L2.nB;rw[show vs.length=ps.length by rw[hl,q.1]];exact this
  ·refine qI ?_ _;unfold qO;rw[kZ];intro z hz;rcases nu.mp hz with hz|hz
   ·obtain⟨p,hp,rfl⟩:=oI.mp hz;obtain⟨d,_,rfl⟩:=oI.mp hp;rfl
   ·rw[(List.mem_replicate.mp hz).2]
end PX
namespace L2
open PySem PySem.Spec PyProof.Rows PySem.W
theorem Rn{CX:CXT}{P:gM}{w:gE}{K:Frag}{mg:jK}{base:gL}{k:Nat}{f:gm}{name qual:Str}{params:Arguments}{body:List Stmt}{scope:ip}{dV kV doc pm f9 ct oc:gy}{an od:Option Addr}
  {y9:qR}{N ps:gT}{A:gG}{outer:List Env}{s:gu}{H:Hp}{args:Args}{us:ir}{vs:List V}{Q:VK}{E:XK}(lk:K.lookup f=some ⟨oc,od,.func (fnOf name qual params body scope dV kV doc pm an f9 ct),y9⟩)(r9:codeIn K f9 qual=true)(S:FnScope N ps scope)
  (hr:Room (k+1) A)(e0:Env0 P w K mg base A outer s H)(hb:BindsTo s (fnOf name qual params body scope dV kV doc pm an f9 ct) args (ps.zip us))(r:Vals vs us)(hl:vs.length=ps.length)
  (o7:Room k (A.deeper (envOfC qual scope s.heap.objs.size f f9))-> ∃t,PSs (nX CX P w K mg base N qual scope f f9 A outer s H E) body t/\t {nx:=fun _ H'=>Q .non H',rt:=Q} (nB N vs) H):
  codeAny (model P w) A (.call (.ref f) args) (CR CX outer P w H s Q E) s:=by
 have KX:K.In s.heap:=e0.mod.kin.keeps fun b o e=>(e0.bs b o e).1;have lim:s.heap.NoLimit:=e0.mod.nolimit.keeps fun b o e=>(e0.bs b o e).1
 have ba: ∀y∈ps.zip us,scope.names.lookup y.1=some .local\/(scope.names.lookup y.1=some .cell/\((cellsFrom (s.heap.objs.size+1) scope.names []).lookup y.1).isSome=true):=fun⟨n,v⟩ hy=>by
  rcases S.par n (Ap hy).1 with q|q
  ·exact .inl q
  ·exact .inr ⟨q,cellsFrom_some _ _ _ (.inl q)⟩
 refine Ih hr.depth (KX _ _ lk) rfl S.co S.gen rfl (codeRec_of KX r9) (hb _ _ _ _ ?_);refine Ig S.kind ba fun env he s1 x=>?_;subst he;refine⟨lim.keeps x.toInCall.keep,codeAny_func ?_⟩;obtain⟨t,ht,hq⟩:=o7 (hr.deeper _);have I:Inv (nX CX P w K mg base N qual scope f f9 A outer s H E) [] (nB N vs) H s1:=zw S hr.hd e0 hl r x;refine nA (ht [] s1 (nB N vs) H _ I hq) (fun fl s' hs=>?_) fun e s' hs=>hs
 have fin: ∀{σ':St} {H':Hp} {v:V} {u:gy},Inv (nX CX P w K mg base N qual scope f f9 A outer s H E) [] σ' H' s'->RelV v u->Q v H'->CE outer P w H s Q u s':=
  fun {σ' H' v u} J rv q=>⟨v,H',J.os,J.bare,J.base,J.hok,rv,q⟩
 cases fl with
 |ret u=>
  obtain⟨v,σ',H',J,rv,q⟩:=hs;exact fin J rv q
 |next=>
  obtain⟨σ',H',J,q⟩:=hs;exact fin (v:=V.non) (u:=Value.none) J rfl q
 |brk=>
  obtain⟨_,_,_,q⟩:=hs;exact False.elim q
 |cont=>
  obtain⟨_,_,_,q⟩:=hs;exact False.elim q
section
variable {fs:jo}{N:gT}{scope:ip}{b9:ji}{σ:St}{H H':Hp}{h h':gL}{q:Str}{params:Arguments}{body:gx}{fl:gm}
theorem LamCells.keep(C:LamCells N scope b9 σ H h)(u:Un fs [] H H' h h')(n: ∀x c,b9.lookup x=some c->c∉fs):LamCells N scope b9 σ H' h':=by
 have kp: ∀{x c v},b9.lookup x=some c->h.IsCell c v->h'.IsCell c v:=fun {x c v} e z=>by
  obtain⟨o,e1,e2⟩:=z;exact⟨o,u.keep c o e1 (C.cell x c e).2 (n x c e) (by simp),e2⟩
 refine⟨C.inj,C.has,fun x c e=>?_,fun i x v h1 h2=>?_,C.len⟩
 ·obtain⟨⟨v,o,e1,e2⟩,hn⟩:=C.cell x c e;exact⟨⟨v,kp e ⟨o,e1,e2⟩⟩,u.free c o e1 hn (by simp)⟩
 ·obtain⟨hf,c,w,hc,l6,r⟩:=C.val i x v h1 h2;exact⟨hf,c,w,hc,kp hc l6,r⟩
theorem LamAt.keep(L:LamAt q params body scope b9 H h fl)(u:Un fs [] H H' h h')(n:fl∉fs):LamAt q params body scope b9 H' h' fl:=by
 obtain⟨pm,c',u3,e,ob,w,vs,t,h1,h2⟩:=L.fn;exact⟨⟨pm,c',u3,u.keep fl _ e L.un n (by simp),ob,w,vs,t,u.frzs _ _ _ h1,h2⟩,u.free fl _ e L.un (by simp)⟩
end
section
variable {X:Cx}{N:gT}{scope:ip}{b9:ji}{σl:St}{q:Str}{params:Arguments}{body:gx}{fl:gm}{k:Nat}{t:XK->TE}
structure LamIn(X:Cx)(N:gT)(scope:ip)(b9:ji)(σl:St)(q:Str)(params:Arguments)(body:gx)(fl:gm)(k:Nat)(t:XK->TE):Prop where
 sc:LamScope scope
 cel:LamCells N scope b9 σl X.H₀ X.s₀.heap
 lam:LamAt q params body scope b9 X.H₀ X.s₀.heap fl
 nfl:fl∉X.fs
 ncl: ∀x c,b9.lookup x=some c->c∉X.fs
 bnd: ∀pm c' u3,bindArgs (kla_fn "<lambda>" q params body scope b9 pm (.ref c') u3) ⟨[],[]⟩=pure []
 run: ∀(E:XK) (c':gm) (s:gu) (H:Hp),Room k (X.A.deeper (yq q scope s.heap.objs.size fl (.ref c') b9))->PE (qh (CXx X.prog X.w) X.prog X.w X.K X.mg X.base N q scope fl (.ref c') b9 X.A X.stack s H E) body (t E)
theorem Ox{xc xr xx xn:Str}{CR:gm}{l i j:Nat}{p1 p2 p3 p4 p5 p6 p7 p8 p9:Pos}(L:LamIn X N scope b9 σl q params body fl k t)(u9:X.stack=X.env::X.outer)(dI:X.env.frame=some X.env.locals)(hex:X.ex=[])(hr:Room (k+1) X.A)
  (hc:X.N[l]?=some xc)(vc:Vis X.env.scope xc)(dg:(xc==("__debug__":Str))=false)(eL:(xc==("__classdict__":Str))=false)
  (hsc:swapsWith (.Call (.Name xc p1) [] [] p2) none p3.line X.env=pure false)
  (hg:Gl X xr)(hm:X.mg xr=some (.ref CR))(m9:(xr==("__debug__":Str))=false)
  (hN:X.N.Nodup)(hi:X.N[i]?=some xx)(hj:X.N[j]?=some xn)(o4:i≠j)(lx:X.env.scope.names.lookup xx=some .local)(ln:X.env.scope.names.lookup xn=some .local)(fO:(xn==("__debug__":Str))=false)(fQ:(xn==("__classdict__":Str))=false)
  (fm:swapsWith (.Name xn p6) (some (.Name xx p5)) p7.line X.env=pure false):
  PS X (.Try [.Expr (.Call (.Name xc p1) [] [] p2) p3] [.ExceptHandler (some (.Name xr p4)) (some xn) [.Assign [.Name xx p5] (.Name xn p6) p7] p8] [] [] p9)
   (fun D σ H=>σ[l]?=some (some (.ref fl))/\ ∃E:XK,t E σl H (fun _ H'=>D.nx σ H')/\(∀C H',E (.ref C) none H'->exmOne X.K (.ref C) (.ref CR)=some true)/\
    ∀C H' ea o,E (.ref C) none H'->H' ea=none->o.cls= .ref C->D.nx ((σ.set j none).set i (some (.ref ea))) (upd H' ea (.frz o (.own 0)))):=by
 intro pins s σ H D I h;obtain⟨hl,E,ht,cF,hk⟩:=h;have un:Un X.fs [] X.H₀ H X.s₀.heap s.heap:=by have:=I.base;rwa [hex] at this
 have C1:=L.cel.keep un L.ncl;have L1:=L.lam.keep un L.nfl;refine wpAny_Try_except ?_;refine wpAny_execs_cons (wpAny_Expr_any ?_ I.quiet hsc);refine uL ?_;refine nA (xq (X:=X.nox) hc vc dg eL pins s σ H (fun v H'=>v= .ref fl/\H'=H) (I.wish _) ⟨.ref fl,hl,rfl,rfl⟩) (fun f s1 hs=>?_) fun _ _ z=>False.elim z;obtain⟨v,H1,I1,rv,rfl,rfl⟩:=hs;cases rv;have I1:=I1.unwish;have un1:Un X.fs [] X.H₀ H1 X.s₀.heap s1.heap:=by have:=I1.base;rwa [hex] at this
 have C2:=L.cel.keep un1 L.ncl;have L2':=L.lam.keep un1 L.nfl;obtain⟨pm,c',u3,e,_⟩:=id L2'.fn;refine callWith_F0 ⟨_,_,_,_,e⟩ (wF (rd (Ms (CX:=CXx X.prog X.w) (E:=E) (t:=t E) (Q:=fun _ H'=>D.nx σ H') L.sc hr I1.env0 C2 L2' L.bnd (fun c' cW=>L.run E c' s1 H1 cW) ht) fun r s2 hq=>?_))
 cases r with
 |error e=>exact TL u9 dI hex I1 hq hg hm m9 cF hN hi hj o4 lx ln fO fQ fm hk
 |ok f=>
  cases f with
  |next=>exact False.elim hq
  |brk=>exact False.elim hq
  |cont=>exact False.elim hq
  |ret u=>
   obtain⟨v,H2,I2,_,qq⟩:=I1.after hq;exact wI (wI ⟨σ,H2,I2,qq⟩)
end
end L2
namespace PX
open PySem PySem.Spec PyProof.Rows L2 PySem.SeqAt PySem.W
def sim:D->Bool
 | .non| .bl _| .int _| .str _=>true
 |_=>false
theorem Fq{K K':Frag}{H H':Hp}{O O':AP'}{d:D}{v:V}(h:sim d=true)(r:Rep K H O d v):Rep K' H' O' d v:=by
 cases d with
 |non=>rw[Rep] at r ⊢;exact r
 |bl b=>rw[Rep] at r ⊢;exact r
 |int b=>rw[Rep] at r ⊢;exact r
 |str b=>rw[Rep] at r ⊢;exact r
 |_=>cases h
def sZ(n i:Nat)(fs:FS)(d:D):Option D:=match fs ((List.replicate n none).set i (some (d,false))) with
 |some (.rt (r,false) _)=>if sim r=true then some r else none
 |_=>none
def qP(caps:hJ)(f:F)(x:XS)(n i:Nat)(fs:FS)(CI:Str->Option Nat):F:=fun δ=>(iR δ (caps.map .slot)).bind fun args=>if(args.all fun a=>!a.2)=true then
  (match f (args.map some) with
   |some _=>sZ n i fs .non
   |none=>(x (args.map some)).bind fun c=>(CI c).bind fun C=>sZ n i fs (.oth (.exc C) [] [])).bind fun d=>some ((d,false),δ)
 else none
theorem vX{n i:Nat}{d:D}(σ:L2.St)(a:gm): ¬OwnA σ ((List.replicate n none).set i (some (d,false))) a:=fun⟨j,e,h1,_⟩=>by
 by_cases hj:j=i
 ·subst hj;rw[wx] at h1;split at h1
  ·split at h1<;>simp at h1
  ·rename_i z;exact z rfl
 ·rw[mQ (mC hj),sM] at h1;split at h1<;>cases h1
theorem Px{K:Frag}{H:Hp}{σ:L2.St}{n i:Nat}{d:D}{v:V}(hl:σ.length=n)(hi:σ[i]?=some (some v))(r:Rep K H (fun _=>False) d v):ER K H (fun _=>False) σ ((List.replicate n none).set i (some (d,false))):=by
 have look: ∀{j:Nat} {e:D} {b:Bool},((List.replicate n none).set i (some (d,false)))[j]?=some (some (e,b))->j=i/\e=d/\b=false:=fun {j e b} h=>by
  by_cases hj:j=i
  ·subst hj;rw[lJ (by rw[Ii,<-hl];exact(pQ.mp hi).1)] at h;cases h;exact⟨rfl,rfl,rfl⟩
  ·rw[mQ (mC hj),sM] at h;split at h<;>cases h
 refine⟨by simp[hl],fun j e h=>?_,fun j e h=>?_,fun j l e g a h=>?_,fun a z=>absurd z (vX σ a),fun _ z=>z.elim⟩
 ·obtain⟨rfl,rfl,_⟩:=look h;exact⟨v,hi,Rep.mono (fun _ _ e _=>e) (fun b _ z=>z.elim (vX σ b) id) r⟩
 ·obtain⟨_,_,z⟩:=look h;cases z
 ·obtain⟨_,_,z⟩:=look h;cases z
structure ClK(K:Frag)(C CR:gm):Prop where
 k:ExcK K C
 ty: ∀n∈["int","bool","str","tuple","list","dict"],kitOne K (.ref C) (.type n)=some false
 up:exmOne K (.ref C) (.ref CR)=some true
theorem MA{args:List (D×Bool)}(h:(args.all fun a=>!a.2)=true): ∀a∈args,a=(a.1,false):=fun a ha=>by
 have:=kZ.mp h a ha;obtain⟨d,f⟩:=a
 cases f with
 |false=>rfl
 |true=>cases this
theorem Cp: ∀(os:List Opd) (as:List (D×Bool)),(∀a∈as,a=(a.1,false))->gP os as=[]
 |[],as,_=>by cases as<;>simp[gP]
 |o::os,[],_=>by simp[gP]
 |o::os,a::as,h=>by
  have h0:=h a iN;obtain⟨d,f⟩:=a;cases h0;cases o<;>simp[gP,Cp os as fun a ha=>h a (iK _ ha)]
theorem Pm{args:List (D×Bool)}(h: ∀a∈args,a=(a.1,false))(σ:L2.St)(a:gm): ¬OwnA σ (args.map some) a:=fun⟨i,d,h1,_⟩=>by
 rw[iO] at h1;obtain⟨p,hp,e⟩:=hZ h1;cases e;have:=h _ (kF hp);simp at this
section
variable {X:Cx}
theorem PE.or{e:gx}{t u:TE}(h1:PE X e t)(h2:PE X e u):PE X e fun σ H Q=>t σ H Q\/u σ H Q:=fun pins s σ H Q I h=>h.elim (h1 pins s σ H Q I) (h2 pins s σ H Q I)
theorem KA{T:AP'}{σ:L2.St}{δ:Dn}{H:Hp}{caps:hJ}{args:List (D×Bool)}{K:Frag}(E1:ER K H T σ δ)(ha:iR δ (caps.map .slot)=some args):
  ∃vs:List V,uU caps 0 σ=vs.map some/\Ops K T σ δ H (caps.map Opd.slot) vs δ H T:=by
 obtain⟨hl,hg⟩:=kQ ha
 have there: ∀(i j:Nat),caps[i]?=some j-> ∃v,σ[j]?=some (some v):=fun i j hj=>by
  have hi:i<args.length:=by have:=(pQ.mp hj).1;simp at hl;omega
  obtain⟨o,q1,q2⟩:=hg i _ (iM hi);rw[iO,hj] at q1;cases q1;have q3:=mI q2;generalize args[i]=y at q3;obtain⟨x,b⟩:=y
  cases b with
  |false=>obtain⟨v,h,_⟩:=E1.val j x q3;exact⟨v,h⟩
  |true=>obtain⟨a,h,_⟩:=E1.own j x q3;exact⟨_,h⟩
 refine⟨caps.map fun j=>((σ[j]?).join).getD .non,?_,by simp,.refl,E1,fun _ z=>z,fun j x v hj=>?_,fun j x v hj=>?_,fun j i v hj hv=>?_⟩
 ·unfold uU;rw[List.replicate_zero,sN];apply rO;intro i;rw[iO,iO,iO]
  cases hj:caps[i]? with
  |none=>rfl
  |some j=>obtain⟨v,hv⟩:=there i j hj;simp[hv]
 ·rw[iO] at hj;obtain⟨_,_,z⟩:=hZ hj;cases z
 ·rw[iO] at hj;obtain⟨_,_,z⟩:=hZ hj;cases z
 ·rw[iO] at hj;obtain⟨c,hc,z⟩:=hZ hj;cases z;obtain⟨v',q2⟩:=there j i hc;rw[iO,hc] at hv;simp[q2] at hv;rw[q2,hv]
end
section
variable {X:Cx}{Pt c:gm}{params:Arguments}{body:gx}{scope:ip}{pos av pf:Pos}{caps:hJ}{N' NR:gT}{fB:F}{xB:XS}{bj:FS}{CI:Str->Option Nat}{asg:hJ}{st:Stmt}{fr:gm}{dr:kR}{xf xc xr xx xn:Str}{CR:gm}{i j k:Nat}
structure RefBody(X:Cx)(st:Stmt)(NR:gT)(fr:gm)(xf xc xr xx xn:Str)(CR:gm)(i j k:Nat)(asg:hJ)(bj:FS):Prop where
 sc:FnScope NR [xc] (gv st)
 as0:0∉asg
 hi:NR[i]?=some xx
 hj:NR[j]?=some xn
 ij:i≠j
 j0:j≠0
 lc:(gv st).names.lookup xc=some .local
 lx:(gv st).names.lookup xx=some .local
 ln:(gv st).names.lookup xn=some .local
 gl:(gv st).names.lookup xr=some .globalImplicit
 mg:X.mg xr=some (.ref CR)
 db:(xc==("__debug__":Str))=false/\(xc==("__classdict__":Str))=false/\(xn==("__debug__":Str))=false/\(xn==("__classdict__":Str))=false/\(xr==("__debug__":Str))=false
 body: ∃p1 p2 p3 p4 p5 p6 p7 p8 p9 S1 hG,jX st=S1:: .Try [.Expr (.Call (.Name xc p1) [] [] p2) p3] [.ExceptHandler (some (.Name xr p4)) (some xn) [.Assign [.Name xx p5] (.Name xn p6) p7] p8] [] [] p9::hG/\
  ∀(f9:gy) (A:gG) (outer:List Env) (s:gu) (H:Hp) (L:iu),(∀i,L i->i<1)->Room k (A.deeper (envOfC xf (gv st) s.heap.objs.size fr f9))->
   swapsWith (.Call (.Name xc p1) [] [] p2) none p3.line (envOfC xf (gv st) s.heap.objs.size fr f9)=pure false/\swapsWith (.Name xn p6) (some (.Name xx p5)) p7.line (envOfC xf (gv st) s.heap.objs.size fr f9)=pure false/\
   PSX (nX CX0 X.prog X.w X.K X.mg X.base NR xf (gv st) fr f9 A outer s H L2.E0).nox (fun i=>i∈asg) L H S1 (jh i (fC .non))/\yI (nX CX0 X.prog X.w X.K X.mg X.base NR xf (gv st) fr f9 A outer s H L2.E0).nox (fun i=>i∈asg) L H hG bj
theorem N7{more:kg}(R:RefBody X st NR fr xf xc xr xx xn CR i j (k+1) asg bj)(F:Fun X.K xf xf st fr dr)(dJ:Binds X.K dr [xc] [])(fK:Gl X xf)(hmf:X.mg xf=some (.ref fr))(cI:(xf==("__debug__":Str))=false)
  (cE: ∀x,X.fn x=true)(hr:Room (k+2) X.A)(hTb:X.H₀ Pt=some (.tbl (#[.str (X.env.qual++"<lambda>") 0]++more)))(r9:X.env.code= .ref c)(C:CodeHd X.base c Pt)(hB:X.base.BuiltinsAt X.mg Pt)(fM:mainGlobals≠Pt)
  (CO:CompOk X N' scope caps 0)(LS:LamScope scope)(bg:defaultsOf params X.env=([],[]))(t9: ∀b9 pm c' u3,bindArgs (kla_fn "<lambda>" (X.env.qual++"<lambda>") params body scope b9 pm (.ref c') u3) ⟨[],[]⟩=pure [])
  (he:starEach [.Lambda params body scope av] X.env=(false,eval (.Lambda params body scope av) X.env)::starEach [] X.env)(j5:(backTo pos (starEach [] X.env)).any (·.1)=false)
  (fX: ∀z C0,CI z=some C0->X.mg z=some (.ref C0)/\ClK X.K C0 CR)
  (hb: ∀(fl:gm) (b9:ji) (c':gm) (A:gG) (outer:List Env) (s:gu) (H:Hp) (E:XK),Room k (A.deeper (yq (X.env.qual++"<lambda>") scope s.heap.objs.size fl (.ref c') b9))->
   PX (qh (CXx X.prog X.w) X.prog X.w X.K X.mg X.base N' (X.env.qual++"<lambda>") scope fl (.ref c') b9 A outer s H E) body fB/\PZE (qh (CXx X.prog X.w) X.prog X.w X.K X.mg X.base N' (X.env.qual++"<lambda>") scope fl (.ref c') b9 A outer s H E) E body xB):
  PX X (.Call (.Name xf pf) [.Lambda params body scope av] [] pos) (qP caps fB xB NR.length i bj CI):=by
 intro pins s σ H Q I hw;obtain⟨δ,T,r,δ',E1,e,kq⟩:=hw;obtain⟨args,ha,e⟩:=gk e;split at e
 case isFalse=>cases e
 rename_i hfz;have de:=MA hfz;obtain⟨d,hd,e⟩:=gk e;obtain⟨rfl,rfl⟩:=gJ e;obtain⟨vs,dE,B0⟩:=KA E1 ha;have nd0:=Cp (caps.map Opd.slot) args de;have Ec:=ug E1 B0 ha (by rw[nd0];exact rJ);obtain⟨ax,hclo,l5,n0⟩:=sj X.env scope fun x hx hf=>I.ok.has x.1 (CO.free x hx hf);obtain⟨more2,hP⟩:=I.base.tbls Pt _ hTb;rw[DI] at hP;refine uL (tN I fK hmf ?_ cI);refine callWith_K (h₀:=X.base) I.ok.mod.kin F.kp ?_ he j5;rw[he];show wpAny _ _ (spliced ((false,eval (.Lambda params body scope av) X.env)::backTo pos (starEach [] X.env))) _ _ s;refine DE (J8 I hP r9 C hB fM hclo bg fun s1 H1 fl I1 up L kp fr0 new=>?_);refine DF ⟨I1.kIn,?_⟩
 have nst: ∀x c,ax.lookup x=some c->c∉frs X.stack:=fun x c e z=>by
  rcases lq.mp (I.stkSub c z) with q|q
  ·exact I.cne x c (l5 x c e) q
  ·obtain⟨_,o,ho,_⟩:=I.ok.funs.mem q;exact absurd (iq ho) (MV.mpr (I.ok.cab x c (cE x) (l5 x c e)))
 have nfl:fl∉frs X.stack:=fun z=>by
  obtain⟨_,o,ho,_⟩:=I.stack.mem z;rw[new] at ho;cases ho
 have LC:LamCells N' scope ax (vs.map some) H1 s1.heap:=by
  rw[<-dE];refine⟨fun x y c h1 h2=>I.ok.inj x y c (l5 x c h1) (l5 y c h2),fun x hx=>n0 x (oi hx),fun x c h=>⟨I1.cell x c (l5 x c h),I1.freeC x c (l5 x c h)⟩,fun l x v h1 h2=>?_,CO.sco.len σ⟩;obtain⟨hf,jj,hj,hv⟩:=CO.sco.pre σ l v x h2 h1;refine⟨hf,?_⟩;obtain⟨m,hn,hl⟩:=I1.loc;have m8:=CO.free (x,.free) (oi hf) rfl;obtain⟨u,r,q⟩:=hl jj x v hj hv (by rcases m8 with z|z;exact .inr (.inl z);exact .inr (.inr z));rcases q with⟨cX,_⟩|⟨_,c,hc,l6⟩
  ·have eJ:X.env.scope.names.lookup x=some .local:=cX;rcases m8 with z|z<;>(have z':X.env.scope.names.lookup x=_:=z;rw[eJ] at z';cases z')
  ·obtain⟨c',bU⟩:=n0 x (oi hf);have:=l5 x c' bU;rw[hc] at this;cases this;exact⟨c,u,bU,l6,r⟩
 have noT: ∀(σ:L2.St) (a:gm),¬OwnA σ (args.map some) a:=Pm de;obtain⟨oc,od,kV,doc,pm,an,f9,ct,y9,rfl,lkr,hcdr⟩:=F.ex;have hbt:=dJ s1 [.ref fl] I1.kIn rfl;refine thn (wF (rd (Rn (CX:=CX0) (E:=L2.E0) (Q:=fun v H'=>Post X.K T σ δ H (d,false) δ v H') (vs:=[.ref fl]) lkr hcdr R.sc hr I1.env0 hbt (.cons rfl .nil) rfl fun cW=>?_) (R:=L2.CR CX0 X.stack X.prog X.w H1 s1 (fun v H'=>Post X.K T σ δ H (d,false) δ v H') L2.E0) fun rr s2 hq=>?_)) (Q:=EP X pins σ fun v H'=>Post X.K T σ δ H (d,false) δ v H') fun v s2 ⟨x,H2,I2,rx,q⟩=>⟨x,H2,I2,rx,kq x H2 q⟩
 ·obtain⟨p1,p2,p3,p4,p5,p6,p7,p8,p9,S1,hG,bL,hq⟩:=R.body;obtain⟨sw1,sw2,hS1,hRest⟩:=hq f9 X.A X.stack s1 H1 (fun _=>False) (fun _ z=>z.elim) cW
  have nl: ∀{n:Nat} {a:gm} {σ:L2.St},¬OwnA σ (List.replicate n none) a:=fun {n a σ} ⟨l,e,h1,_⟩=>by
   rw[sM] at h1;split at h1<;>cases h1
  have hlen:(L2.nB NR [V.ref fl]).length=NR.length:=by
   have:1<=NR.length:=by
    have:=oj List.length R.sc.pre;rw[pk] at this;simp at this;omega
   unfold L2.nB;simp;omega
  have fin: ∀(z:D) (H2:Hp) (σ2:L2.St) (v0:V),sZ NR.length i bj z=some d->(∀a o,H1 a=some o->H2 a=some o)->(∀a,H1 a≠none->H2 a≠none)->σ2.length=NR.length->σ2[i]?=some (some v0)->Rep X.K H2 (fun _=>False) z v0->
    tS X.K (fun i=>i∈asg) (fun _=>False) H1 bj {nx:=fun _ H'=>Post X.K T σ δ H (d,false) δ .non H',rt:=fun v H'=>Post X.K T σ δ H (d,false) δ v H'} σ2 H2:=fun z H2 σ2 v0 ht ar dm2 aL aM rz=>by
   unfold sZ at ht;split at ht
   case h_2=>cases ht
   rename_i rr δr hfs;obtain⟨hs,rfl⟩:=gY ht;refine⟨_,fun _=>False,_,Px aL aM rz,⟨fun l a ⟨d,h1,h2⟩=>absurd ⟨l,d,h1,h2⟩ (vX σ2 a),dm2⟩,hfs,fun v σ3 H3 S3 hrv=>?_⟩;have ext: ∀a o,H a=some o->H3 a=some o:=fun a o q=>S3.kp a o (ar a o (up a o q)) (vX σ2 a);exact⟨.ext ext,E1.mono (fun b o q _=>ext b o q) (fun _ _ z=>z) (fun a z=>(E1.dom a z).up (ext a)),Fq hs hrv.2⟩
  rw[bL];have Xs:=(nX CX0 X.prog X.w X.K X.mg X.base NR xf (gv st) fr f9 X.A X.stack s1 H1 L2.E0).nox
  have run: ∀(E:XK) (c':gm) (s:gu) (H:Hp),Room k ((X.A.deeper (envOfC xf (gv st) s1.heap.objs.size fr f9)).deeper (yq (X.env.qual++"<lambda>") scope s.heap.objs.size fl (.ref c') ax))->
    PE (qh (CXx X.prog X.w) X.prog X.w X.K X.mg X.base N' (X.env.qual++"<lambda>") scope fl (.ref c') ax (X.A.deeper (envOfC xf (gv st) s1.heap.objs.size fr f9)) (envOfC xf (gv st) s1.heap.objs.size fr f9::X.stack) s H E) body (fun σ H Q=>tF X.K fB σ H Q\/tZ X.K X.mg E xB σ H):=fun E c' s H fv=>
   let⟨h1,h2⟩:=hb fl ax c' _ _ s H E fv
   PE.or h1 h2
  have LI:LamIn (nX CX0 X.prog X.w X.K X.mg X.base NR xf (gv st) fr f9 X.A X.stack s1 H1 L2.E0).nox N' scope ax (vs.map some) (X.env.qual++"<lambda>") params body fl k (fun E σ H Q=>tF X.K fB σ H Q\/tZ X.K X.mg E xB σ H):=⟨LS,LC,L,nfl,nst,t9 ax,run⟩
  have h0:NR[0]?=some xc:=by
   have:=oj (fun l=>l[0]?) R.sc.pre;simpa using this
  have pt:=Ox (p4:=p4) (p8:=p8) (p9:=p9) LI rfl rfl rfl cW h0 (.inl R.lc) R.db.1 R.db.2.1 sw1 R.gl R.mg R.db.2.2.2.2 R.sc.nd R.hi R.hj R.ij R.lx R.ln R.db.2.2.1 R.db.2.2.2.1 sw2;refine⟨_,(oD hS1 (oD pt hRest)).nox,?_⟩;have fJ:i<NR.length:=(pQ.mp R.hi).1;refine⟨List.replicate NR.length none,fun _=>False,.nx ((List.replicate NR.length none).set i (some (.non,false))),⟨by simp[hlen],fun l d h=>?_,fun l d h=>?_,fun l m d e a h=>?_,fun a z=>absurd z nl,fun _ z=>z.elim⟩,⟨fun l a ⟨d,h1,h2⟩=>absurd ⟨l,d,h1,h2⟩ nl,fun _ z=>z⟩,?_,fun σ1 H2 K1 ER1=>?_⟩
  ·rw[sM] at h;split at h<;>cases h
  ·rw[sM] at h;split at h<;>cases h
  ·rw[sM] at h;split at h<;>cases h
  ·show(if i<(List.replicate NR.length (none:Sl)).length then some (Out.nx _) else none)=_;rw[gz (by simpa using fJ)]
  ·have ar: ∀a o,H1 a=some o->H2 a=some o:=fun a o q=>K1.kp a o q nl;have bS:σ1.length=NR.length:=by have:=ER1.len;simpa using this
   have hs0:σ1[0]?=some (some (V.ref fl)):=by
    rw[K1.as 0 R.as0];unfold L2.nB;rfl
   have Ec2:ER X.K H2 (Tc T σ δ vs args) (vs.map some) (args.map some):=Ec.mono (fun b o q _=>ar b o (up b o q)) (fun _ _ z=>z) (fun a z=>(Ec.dom a z).up fun o q=>ar a o (up a o q));split at hd
   ·
    rename_i z hz;refine⟨hs0,fun _ _ _=>False,.inl ⟨_,_,z.1,z.2,Ec2,hz,fun v H3 P3=>?_⟩,fun _ _ z=>z.elim,fun _ _ _ _ z=>z.elim⟩;obtain⟨v0,eB,dv⟩:=ER1.val i .non (by rw[lJ (by simpa using fJ)]);refine fin .non H3 σ1 v0 hd (fun a o q=>P3.1.kp a o (ar a o q) (noT _ a)) (fun a q=>P3.1.dm a (K1.dm a q)) bS eB (Fq rfl dv)
   ·
    obtain⟨cn,hx,hd⟩:=gk hd;obtain⟨C0,hC0,hd⟩:=gk hd;obtain⟨hmC,ck⟩:=fX cn C0 hC0;refine⟨hs0,fun cls _ H'=>cls= .ref C0/\ ∀a o,H2 a=some o->H' a=some o,.inr ⟨_,_,cn,Ec2,noT _,hx,fun H' C' ei eI=>?_⟩,fun C' H' ⟨q,_⟩=>?_,fun C' H' ea o ⟨q,ei⟩ hn ho=>?_⟩
    ·rw[hmC] at eI;cases eI;exact⟨rfl,ei⟩
    ·cases q;exact ck.up
    ·cases q;have bt: ∀a o',H' a=some o'->upd H' ea (.frz o (.own 0)) a=some o':=fun a o' q=>by rw[gR (jW q hn)];exact q
     refine fin (.oth (.exc C0) [] []) _ _ (.ref ea) hd (fun a o' q=>bt a o' (ei a o' (ar a o' q))) (fun a q=>?_) (by simp[bS]) (by rw[lJ (by simpa[bS] using fJ)]) (Rep.mkOth (us:=[]) (fun z=>z) ⟨⟨rfl,rfl,rfl⟩,o,gU,ho,fun a=>J9 ck.k ho,ck.ty⟩ RepL.nil)
     cases hh:H1 a with
     |none=>exact absurd hh q
     |some o'=>rw[bt a o' (ei a o' (ar a o' hh))];simp
 ·cases rr with
  |error e=>exact False.elim hq
  |ok f=>
   cases f with
   |ret u=>exact I1.after hq
   |_=>exact False.elim hq
end
def iD:D->Int
 | .int i=>i
 |_=>0
def Pj:D->Option (D×Bool)
 | .lst l=>if l.all isI=true then some (.int (preSum (fun j=>iD (l.getD j .non)) l.length),false) else none
 |_=>none
theorem xY: ∀{vs:ir} {ns:ie},IntsAre vs ns-> ∃xs:List (Int×Tok),vs=xs.map (fun p=>Value.int p.1 p.2)/\ns=xs.map (·.1)
 |_,_,.nil=>⟨[],rfl,rfl⟩
 |_,_,.cons n t r=>let⟨xs,h1,h2⟩:=xY r;⟨(n,t)::xs,by rw[h1];rfl,by rw[h2];rfl⟩
theorem vz{f g:Nat->Int}: ∀n,(∀j,j<n->f j=g j)->preSum f n=preSum g n
 |0,_=>rfl
 |n+1,h=>by rw[preSum,preSum,vz n fun j hj=>h j (by omega),h n (by omega)]
section
variable {X:Cx}
theorem Hs(hc:X.calm=true):ju X (.builtin "sum") (rDn X.K (g1 Pj)):=ph fun pins s σ H x u Q O d z I ru np hd hg G=>by
 cases d with
 |lst l=>
  obtain⟨hI,rfl⟩:=gY hg;obtain⟨p,xs,rfl,q,r⟩:=jN hd;cases ru;obtain⟨b6,v,pl,_⟩:=I.list q;obtain⟨ns,hl,hn⟩:=Qv hI r v;obtain⟨ys,e1,e2⟩:=xY hn;have hh:X.A.handled=none:=I.ok.hd hc
  have il:s.heap.IsList p (intItems ys.toArray):=by
   have:=pl.isList;rw[e1] at this;simpa[intItems] using this
  refine sum_intListG hh il fun h' tk t' kp=>?_;refine⟨.int (preSum (fun j=>iD (l.getD j .non)) l.length),H,I.kept (t':=tk) kp,⟨t',?_⟩,G.int⟩;have:l.length=ys.length:=by rw[hl,e2];simp
  rw[this,jc]
  congr 1
  refine vz _ fun j hj=>?_;rw[hl,e2];simp[numAt,iD,qS,hj]
 |_=>cases hg
def Pn(l:List D):Option Nat:=(nU l).bind fun bs=>bs.findIdx? id
def MD(i:Nat):F:=fun δ=>match δ[i]? with
 |some (some (.lst l,true))=>(Pn l).bind fun j=>if l.length<=1000 then some ((.int j,false),δ) else none
 |_=>none
def TH(x:V)(vs:List V)(H:Hp)(Q:VK):Prop:= ∃(l:gm) (xs:List V) (bs:List Bool) (j:Nat),x= .ref l/\vs=[.bl true]/\H l=some (.lst xs)/\xs=bs.map V.bl/\bs.findIdx? id=some j/\bs.length<=1000/\Q (.int j) H
theorem Fi: ∀{bs:List Bool} {b6:ir},Vals (bs.map V.bl) b6->b6=bs.map Value.bool
 |[],_,.nil=>rfl
 |b::bs,_,.cons r t=>by cases r;rw[Fi t];rfl
theorem JX:MtM X "list.index" TH:=by
 intro pins s σ H x vs v us Q I rx rv h;obtain⟨l,xs,bs,j,rfl,rfl,hH,rfl,hj,hl,q⟩:=h;cases rx;obtain⟨u,rfl,ru⟩:=rv.one;cases ru;obtain⟨z,b6,n,r,hlen,e⟩:=I.lstM hH;have hb:=Fi r;subst hb;obtain⟨h1,h2,h3⟩:=List.findIdx?_eq_some_iff_getElem.mp hj
 refine Ak F.slot_list_index ⟨_,e,rfl⟩ F.entry_list_index (F.args_list_index_2 _ _)
  (list_indexAt l (bs.map Value.bool).toArray n none #[] (.bool true) (fun y=>match y with| .bool b=>b|_=>false) j (by simpa using h1) (by omega) (by simpa using h2) (fun m hm k6=>?_)) ⟨e,fun y hy=>?_,⟨.int j,H,I.tok _,⟨_,rfl⟩,q⟩⟩
 ·have:=h3 m k6;simpa using this
 ·obtain⟨b,_,rfl⟩:=oI.mp (List.mem_toArray.mp hy);have:=EqAt.bool_bool (A:=X.A.in1) (s:=s) b true;cases b<;>simpa using this
variable {pos f6 apos i4 p2:Pos}{i:Nat}{x:Str}{kk:Nat}
theorem Fx{K:gQ}{H:Hp}{O:AP'}: ∀{l:List D} {bs:List Bool} {xs:List V},nU l=some bs->RepL K H O l xs->xs=bs.map V.bl
 |[],bs,xs,h,r=>by cases h;rw[RepL] at r;exact r
 | .bl b::l,bs,xs,h,r=>by
  obtain⟨bs',h1,rfl⟩:=hZ h;rw[RepL] at r;obtain⟨v,r',rfl,q1,q2⟩:=r;rw[q1.bl,Fx h1 q2];rfl
theorem zP: ∀{l:List D} {bs:List Bool},nU l=some bs->bs.length=l.length
 |[],_,h=>by cases h;rfl
 | .bl b::l,_,h=>by obtain⟨bs',h1,rfl⟩:=hZ h;simp[zP h1]
theorem Jh(hv:PO X (.Name x f6) (gn i))(j8:attributeBase (.Name x f6) "index" X.env (eval (.Name x f6) X.env)=eval (.Name x f6) X.env)
  (n6:((backTo i4 (starEach [.Constant (.bool true) kk p2] X.env)).all (fun x=>!x.1)&&(backToKw i4 (keywordEach [] X.env)).all (fun x=>x.1.isSome)&&decide ([Expr.Constant (.bool true) kk p2].length+([]:List Keyword).length+(if([]:List Keyword).isEmpty then 0 else 1)<30))=true)
  (j7:(apos.endLine==i4.line)=true)(hs:starEach [.Constant (.bool true) kk p2] X.env=(false,eval (.Constant (.bool true) kk p2) X.env)::starEach [] X.env)(i6:(backTo i4 (starEach [] X.env)).any (·.1)=false):
  PX X (.Call (.Attribute (.Name x f6) "index" apos) [.Constant (.bool true) kk p2] [] i4) (MD i):=
 PX.imp (JH Dj PySem.F.slot_list_index PySem.F.type_list_index JX hv (kN Nb nW hs) j8 n6 j7 hs i6) fun σ H Q hw=>by
 obtain⟨δ,T,rr,δ',E,e,k⟩:=hw;unfold MD at e;split at e
 ·rename_i l h0;obtain⟨j,hj,e⟩:=gk e;obtain⟨bs,hb,hj⟩:=gk hj;obtain⟨hl,e⟩:=gY e;obtain⟨rfl,rfl⟩:=sJ e;refine⟨δ,T,.slot i,δ,E,by unfold gn;rw[h0],fun v H1 P=>?_⟩;obtain⟨K1,E1,hσ⟩:=P;obtain⟨a,g1,dt,g2,g3⟩:=E1.own i _ h0;rw[hσ] at g1;cases g1;refine⟨.inl ⟨rfl,dt,SqL.of g2⟩,δ,T,_,δ,E1,rfl,fun y H2 P2=>?_⟩;obtain⟨E2,ry⟩:=P2.rep E1;have hy:=ry.bl;subst hy;obtain⟨a',q1,xs,q2,q3⟩:=E2.own i _ h0;rw[hσ] at q1;cases q1;refine⟨_,xs,bs,j,rfl,rfl,q2,Fx hb q3,hj,by rw[zP hb];exact hl,?_⟩;exact k _ _ (Post.val (K1.trans P2.1) E2 Rep.mkInt)
 ·cases e
end
def vN(CL:hJ)(D0:Nat):D->Option (D×Bool)
 | .oth (.exc C) _ _=>if CL.contains C=true then some (.bl (C==D0),false) else none
 |_=>none
def Pk(CL:hJ):D->Option (D×Bool)
 | .oth (.exc C) _ _=>if CL.contains C=true then some (.bl true,false) else none
 |_=>none
section
variable {X:Cx}{e:gx}{fa:FO}{pos p p2:Pos}{z:Str}{CL:hJ}{D0:Nat}
theorem Ph{g:D->Option (D×Bool)}{u2:gy}{w2:V}(hw:RelV w2 u2)(hu: ∀u',RelV w2 u'->u'=u2)(hg: ∀d zz,g d=some zz-> ∃C b ks vs,d= .oth (.exc C) ks vs/\zz=(.bl b,false)/\kitOne X.K (.ref C) u2=some b):
  ju X (.builtin "isinstance") (fun xs H Q=> ∃(O:AP') (d:D) (x:V) (b:Bool),xs=[x,w2]/\iW X.K H O d x/\g d=some (.bl b,false)/\Q (.bl b) H):=by
 intro pins s σ H xs us Q I r h;obtain⟨O,d,x,b,rfl,hd,hgd,q⟩:=h;obtain⟨u,w',rfl,ru,aS⟩:=Bt r;have:=hu _ aS;subst this;obtain⟨C,b',ks,vs,rfl,e1,hk⟩:=hg _ _ hgd;cases e1;obtain⟨a,us,rfl,oth,_⟩:=sV hd;cases ru;obtain⟨_,o,e,h1,h2,h3⟩:=oth;exact kia_one (h2 a) I.kIn (show ObjOk X.prog X.w H s.heap a (.frz o (.own 0)) from I.hok a _ e).1 hk (fun z=>nomatch z) fun tk=>⟨.bl _,H,I.tok _,rfl,q⟩
theorem FA{g:D->Option (D×Bool)}{w2:V}{u2:gy}{e2:gx}(ha:PO X e fa)(h2:PE X e2 (tC w2))(hw:RelV w2 u2)(hu: ∀u',RelV w2 u'->u'=u2)(hg: ∀d zz,g d=some zz-> ∃C b ks vs,d= .oth (.exc C) ks vs/\zz=(.bl b,false)/\kitOne X.K (.ref C) u2=some b)
  (dH:Gl X "isinstance")(hm:X.mg "isinstance"=none)(hv:bootBuiltins "isinstance"=some (.builtin "isinstance"))(s1:starEach [e,e2] X.env=(false,eval e X.env)::starEach [e2] X.env)(s2:starEach [e2] X.env=(false,eval e2 X.env)::starEach [] X.env)(j5:(backTo pos (starEach [e2] X.env)).any (·.1)=false):
  PX X (.Call (.Name "isinstance" p) [e,e2] [] pos) (jQ g fa):=by
 refine PX.imp (tK (Ph (X:=X) hw hu hg) dH hm hv (kN ha (kN h2 nW s2) s1) (by decide) (by decide) s1 j5) fun σ H Q hw=>?_;obtain⟨δ,T,rr,δ',E,e,k⟩:=hw;obtain⟨⟨o,δ1⟩,h1,e⟩:=gk e;obtain⟨x,h2,e⟩:=gk e;obtain⟨zz,h3,e⟩:=gk e;obtain⟨rfl,rfl⟩:=gJ e;obtain⟨C,b,ks,vs,rfl,rfl,hk⟩:=hg _ _ h3;refine⟨δ,T,o,δ1,E,h1,fun v H1 P1=>?_⟩;have B:=Ops.cons E P1 (Ops.nil (P1.er E));exact⟨_,_,v,b,rfl,B.view (j:=0) rfl rfl h2,h3,(B.done k).bl⟩
structure ClT(K:Frag)(mg:jK)(CL:hJ)(D0:Nat)(z:Str):Prop where
 mg:mg z=some (.ref D0)
 is: ∀C∈CL,kitOne K (.ref C) (.ref D0)=some (C==D0)
theorem xE(T:Tx X.mg)(c:ClT X.K X.mg CL D0 z)(ha:QO X e fa)(dH:Gl X "isinstance":=by rfl)(cB:Gl X z:=by rfl)(m9:DB z:=by decide)(s1:starEach [e,.Name z p2] X.env=(false,eval e X.env)::starEach [.Name z p2] X.env:=by rfl)(s2:SE X (.Name z p2) []:=by rfl)(j5:BA X pos [.Name z p2]:=by rfl):
  QX X (.Call (.Name "isinstance" p) [e,.Name z p2] [] pos) (jQ (vN CL D0) fa):=⟨FA (w2:= .ref D0) ha.h (AH cB c.mg rfl m9) rfl (fun u h=>by cases h;rfl) (fun d zz h=>by
 unfold vN at h;split at h
 ·rename_i C ks vs;obtain⟨hc,rfl⟩:=gY h;exact⟨C,_,ks,vs,rfl,rfl,c.is C (by simpa using hc)⟩
 ·cases h) dH T.n_isinstance nZ s1 s2 j5⟩
theorem xEV(T:Tx X.mg)(fD:X.mg "ValueError"=none)(hk: ∀C∈CL,kitOne X.K (.ref C) (.type "ValueError")=some true)(ha:QO X e fa)(dH:Gl X "isinstance":=by rfl)(cB:Gl X "ValueError":=by rfl)(s1:starEach [e,.Name "ValueError" p2] X.env=(false,eval e X.env)::starEach [.Name "ValueError" p2] X.env:=by rfl)(s2:SE X (.Name "ValueError" p2) []:=by rfl)(j5:BA X pos [.Name "ValueError" p2]:=by rfl):
  QX X (.Call (.Name "isinstance" p) [e,.Name "ValueError" p2] [] pos) (jQ (Pk CL) fa):=⟨FA (w2:= .ty "ValueError") ha.h (FK (v:= .ty "ValueError") cB fD (by decide+kernel) rfl (by decide) (by decide)) rfl (fun u h=>by cases h;rfl) (fun d zz h=>by
 unfold Pk at h;split at h
 ·rename_i C ks vs;obtain⟨hc,rfl⟩:=gY h;exact⟨C,_,ks,vs,rfl,rfl,hk C (by simpa using hc)⟩
 ·cases h) dH T.n_isinstance nZ s1 s2 j5⟩
variable {x:Str}{i kk:Nat}{f6 apos:Pos}{a:gx}{f:F}
theorem Sb(hv:QO X (.Name x f6) (gn i))(j8:attributeBase (.Name x f6) "index" X.env (eval (.Name x f6) X.env)=eval (.Name x f6) X.env:=by rfl)
  (n6:((backTo pos (starEach [.Constant (.bool true) kk p2] X.env)).all (fun x=>!x.1)&&(backToKw pos (keywordEach [] X.env)).all (fun x=>x.1.isSome)&&decide ([Expr.Constant (.bool true) kk p2].length+([]:List Keyword).length+(if([]:List Keyword).isEmpty then 0 else 1)<30))=true:=by rfl)
  (j7:(apos.endLine==pos.line)=true:=by rfl)(hs:SE X (.Constant (.bool true) kk p2) []:=by rfl)(i6:BA X pos []:=by rfl):QX X (.Call (.Attribute (.Name x f6) "index" apos) [.Constant (.bool true) kk p2] [] pos) (MD i):=⟨Jh hv.h j8 n6 j7 hs i6⟩
end
def Oy(Z:ZZ)(k:Nat)(x:Str)(ps:gT)(xc:List D->Option Str):Prop:= ∃f fd,FnOk Z.P Z.w Z.K Z.mg Z.base (CXx Z.P Z.w) k f fd ps (spR Z.K Z.mg xc)/\Z.mg x=some (.ref f)/\keepIn Z.K (.ref f)=true/\Binds Z.K fd ps []
theorem Oy.up{Z:ZZ}{k j:Nat}{x:Str}{ps:gT}{xc:List D->Option Str}(o:Oy Z k x ps xc)(h:k<=j:=by decide):Oy Z j x ps xc:=let⟨f,fd,a,b⟩:=o;⟨f,fd,a.mono h,b⟩
theorem oyB{Z:ZZ}{k:Nat}{x:Str}{st:Stmt}{N ps:gT}{xs:XS}(a:Fz Z.K Z.mg x st)(S:FnScope N ps (gv st))(b:BdA x st ps)
  (hb: ∀(f:gm) (f9:gy) (A:gG) (outer:List Env) (s:gu) (H:Hp) (E:XK),Room k (A.deeper (envOfC x (gv st) s.heap.objs.size f f9))->un (A.deeper (envOfC x (gv st) s.heap.objs.size f f9)) 60->un (A.deeper (envOfC x (gv st) s.heap.objs.size f f9)) 1->un (A.deeper (envOfC x (gv st) s.heap.objs.size f f9)) 62->N.Nodup->
   PZs (nX (CXx Z.P Z.w) Z.P Z.w Z.K Z.mg Z.base N x (gv st) f f9 A outer s H E) E (jX st) xs):Oy Z (k+1) x ps (xcF N.length ps.length xs):=
 let⟨f,fd,m,F⟩:=a
 ⟨f,fd,Mz F S fun f9 A outer s H E hr=>by
  have:=hr.un;exact hb f f9 A outer s H E hr (by unfold un;omega) (by unfold un;omega) (by unfold un;omega) S.nd,m,F.kp,F.binds b⟩
def ClX(Z:ZZ)(z:Str):Prop:= ∃C,Z.mg z=some (.ref C)/\excIn Z.K C veB "ValueError.__new__"=true
section
variable {X:Cx}{P:gM}{w:gE}{outer:List Env}{H0:Hp}{s0:gu}{E:XK}{A:iu}{st:Stmt}{y8 b:List Stmt}{x y:XS}{e:gx}{pos p i4:Pos}{f:FS}{z:Str}{a:gx}{fa:F}{k:Nat}{ps:gT}{xc:List D->Option Str}{es:jf}{fs:List FO}{ft:FT}{c:gx}
theorem zN(h1:QS X A (fun _=>True) (fun _=>none) st f)(h2:PZs X E y8 x):PZs X E (st::y8) (Ir f x):=Nq h1.h h2
theorem zR(xk:XeOk X P w outer H0 s0 E)(c:ClX (zX X) z)(ha:QX X a fa)(hc:X.calm=true:=by rfl)(hg:Gl X z:=by rfl)(hd:DB z:=by decide)(hs:starEach [a] X.env=[(false,eval a X.env)]:=by rfl):PZ X E (.Raise (some (.Call (.Name z p) [a] [] i4)) none pos) (wK z fa):=
 let⟨_,hm,hK⟩:=c;K6 xk hc hK hm hg ha.h hd hs
theorem zI(hc:QT X c ft)(ha:PZs X E y8 x):PZ X E (.If c y8 b pos) (zIf ft x zNo):=R7 hc.h ha R6
theorem zC(xk:XeOk X P w outer H0 s0 E)(O:Oy (zX X) k z ps xc)(hr:Room k X.A)(ha:QA X (e::es) fs)(hg:Gl X z:=by rfl)(m9:DB z:=by decide)(he:SE X e es:=by rfl)(j5:BA X pos es:=by rfl)(hp:X.prog=P:=by rfl)(hw:X.w=w:=by rfl):PZE X E (.Call (.Name z p) (e::es) [] pos) (lr xc fs):=by
 subst hp;subst hw;obtain⟨f,fd,F,hm,hk,hb⟩:=O;exact Nt xk F hr hg hm hk hb ha.h m9 he j5
theorem zE(h:PZE X E e x)(hs:swapsWith e none pos.line X.env=pure false:=by rfl):PZ X E (.Expr e pos) x:=Nr h hs
end
theorem sT{P:gM}{w:gE}{K:Frag}{mg:jK}{base:gL}{N:gT}{q:Str}{scope:ip}{fl:gm}{cd:gy}{b9:ji}{A:gG}{outer:List Env}{s:gu}{H:Hp}{E:XK}:
  XeOk (qh (CXx P w) P w K mg base N q scope fl cd b9 A outer s H E) P w outer H s E:=⟨rfl,rfl,rfl,rfl,rfl,rfl,rfl,rfl,fun _ _ h=>h⟩
def MS(q:Str)(Pt:gm)(H:Hp):Prop:= ∃more,H Pt=some (.tbl (#[.str q 0]++more))
def spT(TB:List (Addr×Str))(sp:Sp):Sp:=fun vs H Q E=>(∀p∈TB,MS p.2 p.1 H)/\sp vs H Q E
structure TabX(X:Cx)(Pt:gm):Prop where
 t:MS (X.env.qual++"<lambda>") Pt X.H₀
 c: ∃c,X.env.code= .ref c/\CodeHd X.base c Pt
 b:X.base.BuiltinsAt X.mg Pt
 g:mainGlobals≠Pt
def Rf(Z:ZZ)(st:Stmt)(NR:gT)(xf xc xr xx xn:Str)(i j k:Nat)(asg:hJ)(bj:FS)(CI:Str->Option Nat):Prop:=
 ∃fr dr CR,Fun Z.K xf xf st fr dr/\Binds Z.K dr [xc] []/\Z.mg xf=some (.ref fr)/\(∀X:Cx,zX X=Z->RefBody X st NR fr xf xc xr xx xn CR i j (k+1) asg bj)/\ ∀z C0,CI z=some C0->Z.mg z=some (.ref C0)/\ClK Z.K C0 CR
def Eu(scope:ip):Bool:=decide (scope.kind= .function)&&!scope.isCoroutine&&!scope.isGenerator&&(scope.names.all fun y=>y.2 != .cell)
theorem Rb{scope:ip}(h:Eu scope=true):LamScope scope:=by
 unfold Eu at h;simp only[jY,kZ,pK,wq,bne_iff_ne] at h;exact⟨h.1.1.1,h.1.1.2,h.1.2,h.2⟩
theorem xRf{X:Cx}{Pt:gm}{params:Arguments}{body:gx}{scope:ip}{pos av pf:Pos}{caps:hJ}{N' NR:gT}{fB:F}{xB:XS}{bj:FS}{CI:Str->Option Nat}{asg:hJ}{st:Stmt}{xf xc xr xx xn:Str}{i j k:Nat}
  (R:Rf (zX X) st NR xf xc xr xx xn i j k asg bj CI)(tb:TabX X Pt)(hr:Room (k+2) X.A)(CO:CompOk X N' scope caps 0)(LS:Eu scope=true)
  (hb: ∀(fl:gm) (b9:ji) (c':gm) (A:gG) (outer:List Env) (s:gu) (H:Hp) (E:XK),Room k (A.deeper (yq (X.env.qual++"<lambda>") scope s.heap.objs.size fl (.ref c') b9))->
   QX (qh (CXx X.prog X.w) X.prog X.w X.K X.mg X.base N' (X.env.qual++"<lambda>") scope fl (.ref c') b9 A outer s H E) body fB/\PZE (qh (CXx X.prog X.w) X.prog X.w X.K X.mg X.base N' (X.env.qual++"<lambda>") scope fl (.ref c') b9 A outer s H E) E body xB)
  (fK:Gl X xf:=by rfl)(cI:DB xf:=by decide)(cE: ∀x,X.fn x=true:=by exact fun _=>rfl)(bg:defaultsOf params X.env=([],[]):=by rfl)(t9: ∀b9 pm c' u3,bindArgs (kla_fn "<lambda>" (X.env.qual++"<lambda>") params body scope b9 pm (.ref c') u3) ⟨[],[]⟩=pure []:=by exact fun _ _ _ _=>rfl)
  (he:SE X (.Lambda params body scope av) []:=by rfl)(j5:BA X pos []:=by rfl):
  QX X (.Call (.Name xf pf) [.Lambda params body scope av] [] pos) (qP caps fB xB NR.length i bj CI):=by
 obtain⟨fr,dr,CR,F,dJ,hm,hR,fX⟩:=R;obtain⟨more,ht⟩:=tb.t;obtain⟨c,hc,hC⟩:=tb.c;exact⟨N7 (hR X rfl) F dJ fK hm cI cE hr ht hc hC tb.b tb.g CO (Rb LS) bg t9 he j5 fX fun fl b9 c' A outer s H E cW=>let⟨a,b⟩:=hb fl b9 c' A outer s H E cW;⟨a.h,b⟩⟩
theorem walkT{l:OpenLaw}{q:gM}{loose:gT}{XP:(Str->Option Value)->Heap->Prop}{YP:World->Heap->Prop}{d:DefRec}{K:Params->Frag}{LV:Nat}{x:Str}{ev:EvF}{TB:List (Addr×Str)}(hk:Room LV callerA)(hn:l.most=some 63)(cI:d.params.defaults=[])(hY: ∀(w:gE) (h:gL),YP w h->(K w.params).In h)
  (hYT: ∀(w:gE) (h:gL),YP w h-> ∀p∈TB,h.get? p.1=some (tabObj #[]))(eO: ∀(w:gE),∀p∈TB,(K w.params).lookup p.1=none)(dN:(TB.map (·.1)).Nodup)
  (F: ∀(w:gE) (mg:jK) (fa:gm) (h:gL),(K w.params).In h->h.Ns mainGlobals mg->mg d.name=some (.ref fa)-> ∃fd:FuncData,(∀(s:gu) (u:gy),BindsTo s fd ⟨[u],[]⟩ [(x,u)])/\(∀p∈TB,∃c,codeHdIn (K w.params) c p.1=true)/\ ∀base:Heap,(K w.params).In base->base.Ns mainGlobals mg->(∀p∈TB,base.BuiltinsAt mg p.1)->FnOk l.prog w (K w.params) mg base CX0 LV fa fd [x] (spT TB (spF (K w.params) ev)))
  (M: ∀ns:List Int,ns.length<=63-> ∃o outs,ev [(.lst (ns.map .int),false)]=some ((.bl true,o),outs)):WalkO q loose XP YP l.row.toRowW d [] (fun f vs=>PySem.call f vs):=by
 refine Att.MM hn cI fun w s₀ s₁ mg mb fa o pm cd doc a vs ns G Y ho hd r9 hmg cz hints hlen hg=>?_;have KX:=hY w _ Y;obtain⟨fd,hb,eN,hF⟩:=F w mg fa _ KX G.T.g hmg;have hT:=hYT w _ Y;refine Ha (TB:=TB) KX G.T.g G.T.b G.T.builtins G.T.nolimit hg hT (eO w) (fun p hp=>?_) dN (fun p hp=>?_) cz hints (ll hlen (by decide)) hk hF hb (fun H hO hS=>?_) fun H e s' z=>z
 ·obtain⟨c,hc⟩:=eN p hp;obtain⟨o,vs,_,_,_,_,_,_,_,e1,e2,e3,e4,_⟩:=codeHd_of_K KX hc;exact⟨c,o,vs,e1,e2,e3,e4⟩
 ·obtain⟨bm,ob,h1,h2,h3,h4,h5,h6⟩:=G.T.bmain;refine⟨bm,ob,h1,h2,fun z=>?_,fun z=>?_,h3,h4,h5,h6⟩
  ·obtain⟨o',es,ep,e,dd,_⟩:=G.T.g;rw[z,e] at h3;cases h3;rw[dd] at h6;cases h6
  ·rw[z,hT p hp] at h3;cases h3;cases h6
 ·obtain⟨o,outs,e⟩:=M ns hlen;exact⟨fun p hp=>⟨#[],by rw[hO.all p hp];rfl⟩,Mr hO.all hS e⟩
def T3(TB:List (Addr×Str))(H:Hp):Prop:= ∀p∈TB,MS p.2 p.1 H
theorem fnU{Z:ZZ}{k:Nat}{x:Str}{st:Stmt}{N ps:gT}{asg:hJ}{fs:FS}{f:gm}{fd:kR}{TB:List (Addr×Str)}(F:Fun Z.K x x st f fd)(S:FnScope N ps (gv st))
  (hb: ∀(f9:gy) (A:gG) (outer:List Env) (s:gu) (H:Hp) (E:XK) (L:iu),(∀i,L i->i<ps.length)->Room k (A.deeper (envOfC x (gv st) s.heap.objs.size f f9))->
   un (A.deeper (envOfC x (gv st) s.heap.objs.size f f9)) 60->un (A.deeper (envOfC x (gv st) s.heap.objs.size f f9)) 1->un (A.deeper (envOfC x (gv st) s.heap.objs.size f f9)) 62->un (A.deeper (envOfC x (gv st) s.heap.objs.size f f9)) 90->N.Nodup->
   f9=fd.code->T3 TB H->QQ (nX CX0 Z.P Z.w Z.K Z.mg Z.base N x (gv st) f f9 A outer s H E).nox (fun i=>i∈asg) L H (jX st) fs):
  FnOk Z.P Z.w Z.K Z.mg Z.base CX0 (k+1) f fd ps (spT TB (spF Z.K (evF N.length ps.length asg fs))):=by
 obtain⟨oc,od,kV,doc,pm,an,f9,ct,y9,rfl,lk,r9⟩:=F.ex;refine Kl lk r9 S (fun vs H Q E h=>Fo h.2) fun A outer s H vs Q E hr h=>?_;obtain⟨L,h1,h2⟩:=IT h.2;have:=hr.un;exact⟨_,((hb f9 A outer s H E L h1 hr (by unfold un;omega) (by unfold un;omega) (by unfold un;omega) (by unfold un;omega) S.nd rfl h.1).h).nox,h2⟩
theorem TV{Z:ZZ}{k:Nat}{x q:Str}{st:Stmt}{N ps:gT}{asg:hJ}{fs:FS}{f c Pt:gm}{fd:kR}{TB:List (Addr×Str)}(F:Fun Z.K x x st f fd)(hc:fd.code= .ref c)(hC:CodeHd Z.base c Pt)(hB:Z.base.BuiltinsAt Z.mg Pt)(hg:mainGlobals≠Pt)(hm:(Pt,q)∈TB)(S:FnScope N ps (gv st))
  (hb: ∀(f:gm) (f9:gy) (A:gG) (outer:List Env) (s:gu) (H:Hp) (E:XK) (L:iu),(∀i,L i->i<ps.length)->Room k (A.deeper (envOfC x (gv st) s.heap.objs.size f f9))->
   un (A.deeper (envOfC x (gv st) s.heap.objs.size f f9)) 60->un (A.deeper (envOfC x (gv st) s.heap.objs.size f f9)) 1->un (A.deeper (envOfC x (gv st) s.heap.objs.size f f9)) 62->un (A.deeper (envOfC x (gv st) s.heap.objs.size f f9)) 90->N.Nodup->
   TabX (nX CX0 Z.P Z.w Z.K Z.mg Z.base N x (gv st) f f9 A outer s H E).nox Pt->QQ (nX CX0 Z.P Z.w Z.K Z.mg Z.base N x (gv st) f f9 A outer s H E).nox (fun i=>i∈asg) L H (jX st) fs)
  (hq: ∀(L f:gm) (cd:gy),(envOfC x (gv st) L f cd).qual++"<lambda>"=q:=by exact fun _ _ _=>rfl):FnOk Z.P Z.w Z.K Z.mg Z.base CX0 (k+1) f fd ps (spT TB (spF Z.K (evF N.length ps.length asg fs))):=
 fnU F S fun f9 A outer s H E L hL hr h1 h2 h3 h4 nd he hT=>hb f f9 A outer s H E L hL hr h1 h2 h3 h4 nd ⟨by
  show MS ((envOfC x (gv st) s.heap.objs.size f f9).qual++"<lambda>") Pt H;rw[hq];exact hT _ hm,⟨c,he.trans hc,hC⟩,hB,hg⟩
def FzT(K:Frag)(mg:jK)(x:Str)(st:Stmt)(Pt:gm):Prop:= ∃f fd c,mg x=some (.ref f)/\Fun K x x st f fd/\fd.code= .ref c/\codeHdIn K c Pt=true
theorem fzT{K:Frag}{h:gL}{mg:jK}{x:Str}{st:Stmt}{f c Pt:gm}{oc:gy}{od an:Option Addr}{y9:qR}{kV doc pm ct:gy}(X:K.In h)(G:h.Ns mainGlobals mg)(a:nsIn K mainGlobals x=some (some (.ref f)))
  (l:K.lookup f=some ⟨oc,od,.func (fnOf x x (pd st) (jX st) (gv st) .none kV doc pm an (.ref c) ct),y9⟩)(e:codeIn K (.ref c) x=true)(k:keepIn K (.ref f)=true)(hc:codeHdIn K c Pt=true):FzT K mg x st Pt:=⟨f,_,c,mg_of X G a,Kj l e k,rfl,hc⟩
theorem FzT.cd{K:Frag}{mg:jK}{x:Str}{st:Stmt}{Pt:gm}(a:FzT K mg x st Pt): ∃c,codeHdIn K c Pt=true:=let⟨_,_,c,_,_,_,h⟩:=a;⟨c,h⟩
section
variable {X:Cx}{k:Nat}{f:gm}{fd:kR}{ps:gT}{x:Str}{p pos:Pos}{e a:gx}{es:jf}{ev:EvF}{fs:List FO}{fa:FO}{TB:List (Addr×Str)}
theorem sP{A L:iu}{H0:Hp}{b:gx}{y:Str}{px py pt aT:Pos}{kt k2:Nat}{i j:Nat}{gs:List F}(hN:X.N.Nodup)(h:QA X [a,b] (gs.map gq))(hc:X.calm=true:=by rfl)(hi:X.N[i]?=some x:=by rfl)(hj:X.N[j]?=some y:=by rfl)(o4:i≠j:=by decide)(hx:X.env.scope.names.lookup x=some .local:=by rfl)(hy:X.env.scope.names.lookup y=some .local:=by rfl)
  (hw:swappedStores [.Tuple [.Name x px,.Name y py] kt pt] (.Tuple [a,b] k2 aT) X.env=pure (some [x,y]):=by rfl)(hs:swapsWithSole [.Tuple [.Name x px,.Name y py] kt pt] (.Tuple [a,b] k2 aT) pos.line X.env=pure false:=by rfl)(hA:A i:=by decide)(hB:A j:=by decide):
  QS X A L H0 (.Assign [.Tuple [.Name x px,.Name y py] kt pt] (.Tuple [a,b] k2 aT) pos) (Lp i j gs):=⟨L4 hc hN hi hj o4 hx hy h.h hw hs hA hB⟩
theorem R8(hm:X.mg "sum"=none)(ha:QA X [a] [fa])(hc:X.calm=true:=by rfl)(hg:Gl X "sum":=by rfl)(he:SE X a []:=by rfl)(j5:BA X pos []:=by rfl):QX X (.Call (.Name "sum" p) [a] [] pos) (ig (g1 Pj) [fa]):=
 ⟨FC (Hs hc) hg hm (by decide+kernel) ha.h (by decide) (by decide) he j5⟩
end
structure ClsK(K:Frag)(mg:jK)(ct rs:List (Str×Nat))(CR:Nat):Prop where
 m: ∀p∈ct,mg p.1=some (.ref p.2)
 mr: ∀p∈rs,mg p.1=some (.ref p.2)
 is: ∀p∈rs,∀r∈ct,kitOne K (.ref p.2) (.ref r.2)=some (p.2==r.2)
 ve: ∀p∈rs,kitOne K (.ref p.2) (.type "ValueError")=some true
 ck: ∀p∈rs,ClK K p.2 CR
 ex: ∀p∈rs,excIn K p.2 veB "ValueError.__new__"=true
 su:mg "sum"=none
 vm:mg "ValueError"=none
 re:mg "RiddleError"=some (.ref CR)
theorem aN{α:Type}{P:α->Prop}: ∀p∈([]:List α),P p:=fun _ h=>nomatch h
theorem aC{α:Type}{P:α->Prop}{a:α}{l:List α}(h:P a)(r: ∀p∈l,P p): ∀p∈a::l,P p:=List.forall_mem_cons.mpr ⟨h,r⟩
def ctD(ct:List (Str×Nat))(z:Str):Nat:=(ct.lookup z).getD 0
section
variable {Z:ZZ}{ct rs:List (Str×Nat)}{CR:Nat}
theorem lkM{z:Str}{C:Nat}(h:ct.lookup z=some C):(z,C)∈ct:=oi h
theorem ClsK.x(c:ClsK Z.K Z.mg ct rs CR)(z:Str)(h:(rs.lookup z).isSome=true:=by decide):ClX Z z:=by
 obtain⟨C,hC⟩:=K5.mp h;exact⟨C,c.mr _ (lkM hC),c.ex _ (lkM hC)⟩
theorem ClsK.t(c:ClsK Z.K Z.mg ct rs CR)(z:Str)(h:(ct.lookup z).isSome=true:=by decide):ClT Z.K Z.mg (rs.map (·.2)) (ctD ct z) z:=by
 obtain⟨C,hC⟩:=K5.mp h;have:ctD ct z=C:=by unfold ctD;rw[hC];rfl
 rw[this];refine⟨c.m _ (lkM hC),fun D hD=>?_⟩;obtain⟨p,hp,rfl⟩:=oI.mp hD;exact c.is p hp _ (lkM hC)
theorem ClsK.v(c:ClsK Z.K Z.mg ct rs CR): ∀C∈rs.map (·.2),kitOne Z.K (.ref C) (.type "ValueError")=some true:=fun D hD=>by
 obtain⟨p,hp,rfl⟩:=oI.mp hD;exact c.ve p hp
theorem ClsK.ci(c:ClsK Z.K Z.mg ct rs CR): ∀z C0,rs.lookup z=some C0->Z.mg z=some (.ref C0)/\ClK Z.K C0 CR:=fun z C h=>⟨c.mr _ (lkM h),c.ck _ (lkM h)⟩
end
theorem TU{K:Frag}{mg:jK}{x y:Str}{st:Stmt}{fa Pt:gm}(a:FzT K mg x st Pt)(de:mg x=some (.ref fa))(b:BdA x st [y]): ∃fd c,Fun K x x st fa fd/\fd.code= .ref c/\codeHdIn K c Pt=true/\ ∀(s:gu) (v:gy),BindsTo s fd ⟨[v],[]⟩ [(y,v)]:=by
 obtain⟨f,fd,c,m,F,h1,h2⟩:=a;have e:=de.symm.trans m;cases e;refine⟨fd,c,F,h1,h2,?_⟩;obtain⟨oc,od,kV,doc,pm,an,f9,ct,y9,e,_⟩:=F.ex;exact fun s v=>by subst e;exact .of_eq (b kV doc pm an f9 ct [v] rfl)
def ME(a b c:Str)(fa fb:FO):F:=fun δ=>(fa δ).bind fun p=>(fb p.2).bind fun q=>match res p.2 p.1,res q.2 q.1 with
 |some (.int i),some (.int j)=>if i.natAbs.log2<1920/\j.natAbs.log2<1920 then some ((.str (((((Str.empty++a)++Str.ofString (toString i))++b)++Str.ofString (toString j))++c),false),q.2) else none
 |_,_=>none
section
variable {X:Cx}{x y a b c d:gx}{u v z:Str}{fa fb fc fd:FO}{pos p1 p2 p3 p4 p5:Pos}{j1 j2 j3:Nat}{op aa op'':CmpOp}
theorem Og(ha:PO X x fa)(hb:PO X y fb)(la:u.length<=1000)(lb:v.length<=1000)(lz:z.length<=1000):PX X (.JoinedStr [.Constant (.str u) j1 p1,.FormattedValue x (-1) none p2,.Constant (.str v) j2 p3,.FormattedValue y (-1) none p4,.Constant (.str z) j3 p5] pos) (ME u v z fa fb):=by
 intro pins s σ H Q I hw;obtain⟨δ,T,rr,δ',E,e,k⟩:=hw;obtain⟨⟨o1,δ1⟩,h1,e⟩:=gk e;obtain⟨⟨o2,δ2⟩,h2,e⟩:=gk e;dsimp only at e;split at e
 case h_2=>cases e
 rename_i i j hi hj;obtain⟨⟨l1,l2⟩,e⟩:=gY e;obtain⟨rfl,rfl⟩:=sJ e;have z1:=int_text_length_le (k:=1920) (by decide) l1;have z2:=int_text_length_le (k:=1920) (by decide) l2;have z0:Str.empty.length=0:=rfl;have sz:=iZ;rw[<-PySem.ofString_length] at z1 z2;refine JoinedStr_many (wa (Aq ⟨by rw[kS];lia,?_⟩));refine wa (HF (thn (ha pins _ σ H (fun v H1=>PostO X.K T σ δ H o1 δ1 v H1) (I.tok _) ⟨δ,T,o1,δ1,E,h1,fun _ _ P=>P⟩) fun w s1 ⟨x',H1,I1,r1,q1⟩=>?_));have E1:=q1.er E;cases gS ((Ops.cons E q1 (Ops.nil E1)).view (j:=0) rfl rfl hi);obtain⟨t,rfl⟩:=r1;refine HE l1 ⟨by rw[kS,kS];lia,?_⟩;refine wa (Aq ⟨by rw[kS,kS,kS];lia,?_⟩);refine wa (HF (thn (hb pins _ σ H1 (fun v H2=>PostO X.K (vO T o1 (.int i)) σ δ1 H1 o2 δ2 v H2) ((I1.tok _).tok _) ⟨δ1,_,o2,δ2,E1,h2,fun _ _ P=>P⟩) fun w s2 ⟨y',H2,I2,r2,q2⟩=>?_));have B:=Ops.cons E q1 (Ops.cons E1 q2 (Ops.nil (q2.er E1)));cases gS (B.view (j:=1) rfl rfl hj);obtain⟨t',rfl⟩:=r2;refine HE l2 ⟨by rw[kS,kS,kS,kS];lia,?_⟩;refine wa (Aq ⟨by rw[kS,kS,kS,kS,kS];lia,?_⟩);exact joinParts_nil ⟨.str _,H2,((I2.tok _).tok _).tok _,⟨_,rfl⟩,(B.done k) _ H2 (fun _ _ e=>e) Rep.mkStr⟩ (by rw[kS,kS,kS,kS,kS];lia)
theorem xFm(ha:QO X x fa)(hb:QO X y fb)(la:u.length<=1000:=by decide+kernel)(lb:v.length<=1000:=by decide+kernel)(lz:z.length<=1000:=by decide+kernel):QX X (.JoinedStr [.Constant (.str u) j1 p1,.FormattedValue x (-1) none p2,.Constant (.str v) j2 p3,.FormattedValue y (-1) none p4,.Constant (.str z) j3 p5] pos) (ME u v z fa fb):=⟨Og ha.h hb.h la lb lz⟩
end
theorem uZ{α:Type}{c:Prop}[Decidable c]{a:Option α}{b:α}(h:(if c then a else none)=some b):c/\a=some b:=by
 split at h
 ·rename_i q;exact⟨q,h⟩
 ·cases h
def wL(tg:Tg)(fb:FS)(x:XS):List D->XS
 |[],_=>none
 |d::ds,δ=>(tg d δ).bind fun δ1=>if qO δ1=true then(match x δ1 with
   |some c=>some c
   |none=>(fb δ1).bind fun o=>match o with
    | .nx δ2=>if qO δ2=true then wL tg fb x ds δ2 else none
    |_=>none) else none
def Iu(fi:FIt)(tg:Tg)(fb:FS)(x:XS):XS:=fun δ=>(fi δ).bind fun p=>if qO p.2=true then wL tg fb x p.1 p.2 else none
section
variable {X:Cx}{E:XK}{A:iu}{tg iter:gx}{body:List Stmt}{fi:FIt}{t:Tg}{fb:FS}{x:XS}{pos:Pos}
theorem P8(hp:PassesOwn (model X.prog X.w) X.A X.env X.xe)(hc:X.calm=true)(hi:PIX X (fun _=>False) tg iter fi)(hg:PGX X A tg t)(hb:yI X A (fun _=>True) (fun _=>none) body fb)(hz:PZs X E body x)(hs: ∀x,foldedSetIterable iter X.env x=pure x):
  PZ X E (.For tg iter body [] pos) (Iu fi t fb x):=PS.imp' (Jq hp hc hi hg (tb:=fun D σ H=>tS X.K A (fun _=>True) (fun _=>none) fb D σ H\/tZ X.K X.mg E x σ H) (fun pins s σ H D I h=>h.elim (hb pins s σ H D I) (hz pins s σ H D I)) hs) fun D σ H hw=>by
 obtain⟨δ,T,c,E0,no,e,k⟩:=hw;obtain⟨⟨ds,δ1⟩,h1,e⟩:=gk e;obtain⟨fz,e⟩:=uZ e;refine⟨δ,T,ds,δ1,E0,h1,fun J H1 K1 E1 ok=>?_⟩;have up1: ∀a o,H a=some o->H1 a=some o:=fun a o q=>K1.kp a o q (no a);refine⟨fun i m σ' H'=>m=ds.length-i/\i<=ds.length/\(∀a o,H a=some o->H' a=some o)/\ ∃δ',qO δ'=true/\SK A σ δ1 H1 σ' δ' H'/\ER X.K H' T σ' δ'/\wL t fb x (ds.drop i) δ'=some c,⟨ds.length,by simp,lI _,up1,δ1,fz,.refl,E1,by simpa using e⟩,?_⟩;rintro i m σ2 H2 ⟨rfl,hle,ar,δ2,fz2,S2,E2,e2⟩;have t6: ∀a o,H1 a=some o-> ¬OwB (fun _=>False) T σ δ1 a->H2 a=some o:=fun a o ea n=>S2.kp a o ea fun⟨i,d,z⟩=>n (.inl ⟨i,id,d,z⟩);by_cases k6:i<ds.length
 ·refine .inr ?_;have hd:ds[i]?=some ds[i]:=iM k6;obtain⟨go,yl⟩:=ok.go i _ H2 hd t6;rw[qW k6] at e2;obtain⟨δ3,h3,e3⟩:=gk e2;obtain⟨fz3,e3⟩:=uZ e3;refine⟨go,fun σ' H'=>(∀a o,H a=some o->H' a=some o)/\ ∃δ',qO δ'=true/\SK A σ δ1 H1 σ' δ' H'/\ER X.K H' T σ' δ'/\wL t fb x (ds.drop (i+1)) δ'=some c,fun σ' H' ⟨q0,δ',qz,q1,q2,q3⟩=>⟨ds.length-(i+1),by lia,rfl,k6,q0,δ',qz,q1,q2,q3⟩,fun y H' hy=>?_⟩;obtain⟨ext,rep⟩:=yl y H' hy;have bN:ER X.K H' T σ2 δ2:=E2.mono (fun b ob eb _=>ext b ob eb) (fun _ _ z=>z) (fun a z=>(E2.dom a z).up (ext a));have cR:SK A σ δ1 H1 σ2 δ2 H':=S2.trans (Keep.ext ext).sk;have rx:=rep (fun a=>OwnA σ2 δ2 a\/T a) (fun b hb z=>z.elim (fun z=>absurd z (qI fz2 σ2 b)) Or.inr) (fun b hb z=>z.elim (fun z=>E2.ownDom z hb) fun z=>(E2.dom b z).ne hb);refine⟨δ2,T,ds[i],δ3,bN,rx,h3,fun σ3 S3 E3=>?_⟩;have br:=cR.trans S3;have bt: ∀a o,H a=some o->H' a=some o:=fun a o q=>ext a o (ar a o q);split at e3
  ·rename_i c' hx;cases e3;exact .inr ⟨δ3,T,c,E3,qI fz3 σ3,hx,fun H4 C kp hm=>k H4 C (fun a o q=>kp a o (bt a o q)) hm⟩
  ·obtain⟨o,h4,e4⟩:=gk e3
   cases o with
   |nx δ4=>
    obtain⟨fz4,e4⟩:=uZ e4;exact .inl ⟨δ3,T,_,E3,⟨fun _ _ _=> .inl trivial,fun _ z=>absurd rfl z⟩,h4,fun σ4 H4 S4 E4=>⟨fun a o q=>S4.kp a o (bt a o q) (qI fz3 σ3 a),δ4,fz4,br.trans S4,E4,e4⟩⟩
   |_=>cases e4
 ·refine .inl ⟨ok.stop i H2 (by lia) t6,?_⟩;rw[rP (by lia)] at e2;cases e2
theorem zFr(hi:QI X (fun _=>False) tg iter fi)(hg:QG X A tg t)(hb:QQ X A (fun _=>True) (fun _=>none) body fb)(hz:PZs X E body x)(hp:PassesOwn (model X.prog X.w) X.A X.env X.xe:=by exact PassesOwn.leaving)(hc:X.calm=true:=by rfl)(hs: ∀x,foldedSetIterable iter X.env x=pure x:=by intro _;rfl):PZ X E (.For tg iter body [] pos) (Iu fi t fb x):=P8 hp hc hi.h hg.h hb.h hz hs
end
end PX
namespace PV
open PySem PySem.Spec PyProof.Rows L2 PX
abbrev RG:Nat:=100000
def qe:FS:=(gD (jG (EI (jQ (AY [.int]) (gn 0)) (Cs (jQ (AY [.bool]) (gn 0))))) hU)
def mf:EvF:=evF 1 1 [] qe
def mH:FS:=(gD (jG (EI (gB mf [(gn 0)]) (vf .LtE .LtE (gn 1) (gn 0) (gn 2)))) hU)
def jA:EvF:=evF 3 3 [] mH
def se:FS:=(gD (jG (gB jA [(gn 1),(gq (fC (.int 1))),(gn 0)])) hU)
def oX:EvF:=evF 2 2 [] se
def oV:FS:=(gD (jG (EI (gB mf [(gn 1)]) (gB oX [(gn 0),(gq (ig (g1 yT) [(gn 1)]))]))) hU)
def lQ:EvF:=evF 2 2 [] oV
def ke:FS:=(gD (sIf (Cr (ma (fT (jQ (AY [.tuple]) (gn 1)))) (fT (gK gNe (gq (ig (g1 yb) [(gn 1)])) (gn 0)))) (gD (jG (fC (.bl false))) hU) hU) (gD (sIf (ma (fT (ig (g1 Hl) [(gq (kj [0] 1 (jT (js 1)) (gW 1) kH (kJ (gB lQ [(gn 0),(gn 1)]))))]))) (gD (jG (fC (.bl false))) hU) hU) (gD (jG (gK gEq (gq (qJ [] 1 (jT (js 1)) (gW 0) kH (yF (ig (g1 yT) [(gn 0)])))) (gn 0))) hU)))
def iG:EvF:=evF 2 2 [] ke
def qc:FS:=(gD (jG (fIf (fT (gK (vb .Gt) (gn 1) (gq (fC (.int 0))))) (gK gIx (gn 0) (gq (gK gSub (gn 1) (gq (fC (.int 1)))))) (jQ pG (gq (gK gIx (gn 0) (gq (gK gSub (gq (jQ pG (gn 1))) (gq (fC (.int 1)))))))))) hU)
def md:EvF:=evF 2 2 [] qc
def lD:FS:=(gD (sIf (fT (gK (vb .Lt) (gn 1) (gq (ig (g1 yb) [(gn 0)])))) (gD (jG (gK gIx (gn 0) (gn 1))) hU) hU) (gD (jG (fC (.int 0))) hU))
def kr:EvF:=evF 2 2 [] lD
def mG:FS:=(gD (jh 2 (gB kr [(gn 0),(gn 1)])) (gD (sIf (fT (gK (vb .GtE) (gn 2) (gq (gK va (gq (fC (.int 10))) (gq (fC (.int 18))))))) (gD (jG (jw [(gK gSub (gn 2) (gq (gK va (gq (fC (.int 10))) (gq (fC (.int 18)))))),(fC (.bl true))])) hU) hU) (gD (jG (jw [(gK yS (gn 2) (gq (fC (.int 2147483647)))),(fC (.bl false))])) hU)))
def kA:EvF:=evF 3 2 [2] mG
def nQ:FS:=(gD (sIf (fT (gK gIx (gn 0) (gq (fC (.int 1))))) (gD (jh 2 (gK yS (gq (gK gIx (gn 0) (gq (fC (.int 0))))) (gn 1))) (gD (uT 0 (gK Ki (gq (gK gIx (gn 0) (gq (fC (.int 0))))) (gn 1)) (gq (fC (.int 0)))) (gD (qA 2) hU))) hU) (gD (uT 0 (gK yS (gq (gK kf (gq (gK ya (gq (gK gIx (gn 0) (gq (fC (.int 0))))) (gq (fC (.int 48271))))) (gq (fC (.int 29))))) (gq (fC (.int 2147483647)))) (gq (fC (.int 0)))) (gD (jh 3 (gK yS (gq (gK kf (gq (gK kf (gq (gK ya (gq (gK gIx (gn 0) (gq (fC (.int 0))))) (gq (gK gIx (gn 0) (gq (fC (.int 0))))))) (gq (gK ya (gq (fC (.int 39373))) (gq (gK gIx (gn 0) (gq (fC (.int 0))))))))) (gq (fC (.int 7))))) (gq (fC (.int 2147483629))))) (gD (jh 3 (gK yS (gq (gK kf (gq (gK ya (gn 3) (gn 3))) (gq (gK ya (gq (fC (.int 16807))) (gn 3))))) (gq (fC (.int 2147483587))))) (gD (jG (gK yS (gq (gK Ki (gn 3) (gq (fC (.int 8))))) (gn 1))) hU)))))
def gF:EvF:=evF 4 2 [2,3] nQ
def qd:FS:=(gD (jh 2 (ig (gRg .lst true) [(gq (fC (.int 1))),(gq (gK kf (gn 1) (gq (fC (.int 1)))))])) (gD (jh 3 (jw [])) (gD (tE (AR (gn 1)) (gW 4) (gD (lA (lW 3 (gK ya (gq (sf 2 (gq (gB gF [(gn 0),(gq (ig (g1 yb) [(gn 2)]))])))) (gq (gK gIx (gq (jw [(fC (.int 1)),(jQ pG (gq (fC (.int 1))))])) (gq (gB gF [(gn 0),(gq (fC (.int 2)))]))))))) hU)) (gD (jG (ig (g1 oU) [(gn 3)])) hU))))
def iF:EvF:=evF 5 2 [2,3,4] qd
def lO:FS:=(gD (jG (EI (jQ (AY [.int]) (gn 0)) (Cs (jQ (AY [.bool]) (gn 0))))) hU)
def iU:EvF:=evF 1 1 [] lO
def ki:FS:=(gD (sIf (Cr (ma (fT (jQ (AY [.tuple]) (gn 1)))) (ma (fT (ig (g1 Hl) [(gq (kj [] 1 (jT (js 1)) (gW 0) kH (kJ (gB iU [(gn 0)]))))])))) (gD (jG (fC (.bl false))) hU) hU) (gD (jG (gK gEq (gq (ig (g1 nO) [(gq (kj [] 1 (jT (js 1)) (gW 0) kH (kJ (ig (g1 yT) [(gn 0)]))))])) (gq (ig (gRg .lst true) [(gq (fC (.int 1))),(gq (gK kf (gn 0) (gq (fC (.int 1)))))])))) hU))
def iz:EvF:=evF 2 2 [] ki
def ye:FS:=(gD (jh 1 (jw [(fC .non),(fC (.bl true)),(fC (.bl false)),(jQ pG (gq (fC (.int 1)))),(fC (.int 0)),(fC (.int 1)),(fC (.str "")),(fC (.str "1")),(mZ []),(jw []),(mZ [(fC (.bl true))]),(jw [(fC (.int 1))]),(Gb 0 1),(mZ [(fC .non)]),(mZ [(mZ [(fC (.int 1))])]),(gK va (gq (fC (.int 10))) (gq (fC (.int 29))))])) (gD (jG (gK gIx (gq (gK kf (gn 1) (gq (jw [(mZ [(fC (.int 0))]),(mZ [(fC (.int 1)),(fC (.int 2))])])))) (gq (gB gF [(gn 0),(gq (fC (.int 18)))])))) hU))
def oW:EvF:=evF 2 1 [1] ye
def mE:FS:=(gD (jh 2 (ig (g1 yb) [(gn 1)])) (gD (sIf (fT (gK gEq (gn 2) (gq (fC (.int 0))))) (gD (jG (gK gIx (gq (jw [(mZ [(fC (.int 0))]),(mZ [(fC (.int 1))]),(jw []),(fC .non),(mZ [(mZ [])]),(mZ [(fC (.bl true))])])) (gq (gB gF [(gn 0),(gq (fC (.int 6)))])))) hU) hU) (gD (Lp 3 4 [(gB gF [(gn 0),(gn 2)]),(gB gF [(gn 0),(gn 2)])]) (gD (jh 5 (jw [(fC (.int 0)),(gK kf (gn 2) (gq (fC (.int 1)))),(gK gSub (gq (jQ pG (gn 2))) (gq (fC (.int 1)))),(fC (.bl true)),(fC .non),(fC (.str "1")),(mZ [(fC (.int 1))]),(gK gIx (gn 1) (gn 4)),(jQ pG (gq (gK gIx (gn 1) (gn 4)))),(jQ pG (gq (gK gIx (gn 1) (gn 3)))),(gK va (gq (fC (.int 10))) (gq (fC (.int 29))))])) (gD (jh 5 (gK gIx (gn 5) (gq (gB gF [(gn 0),(gq (fC (.int 11)))])))) (gD (jh 6 (jw [(gK kf (gq (gK kf (gq (qf (gn 1) (gn 3))) (gq (mZ [(js 5)])))) (gq (rC (gn 1) (gq (gK kf (gn 3) (gq (fC (.int 1)))))))),(gK kf (gq (gK kf (gq (qf (gn 1) (gn 3))) (gq (mZ [(js 5)])))) (gq (rC (gn 1) (gn 3)))),(ig (g1 F6) [(gn 1)]),(mZ [(js 1)])])) (gD (jh 6 (gK kf (gn 6) (gq (jw [(gK kf (gq (qf (gn 1) (gn 3))) (gq (rC (gn 1) (gq (gK kf (gn 3) (gq (fC (.int 1)))))))),(gK kf (gn 1) (gq (mZ [(gK kf (gn 2) (gq (fC (.int 1))))]))),(Ks (gn 1) (gq (jQ pG (gq (fC (.int 1)))))),(gK kf (gn 1) (gq (qf (gn 1) (gq (fC (.int 1))))))])))) (gD (jG (gK gIx (gn 6) (gq (gK gIx (gq (jw [(fC (.int 0)),(fC (.int 0)),(fC (.int 0)),(fC (.int 1)),(fC (.int 2)),(fC (.int 3)),(fC (.int 4)),(fC (.int 5)),(fC (.int 6)),(fC (.int 7))])) (gq (gB gF [(gn 0),(gq (fC (.int 10)))])))))) hU))))))))
def jJ:EvF:=evF 7 2 [2,3,4,5,6] mE
def kz:FS:=(gD (sIf (ma (fT (gB iG [(gn 0),(gn 1)]))) (gD xb hU) hU) hU)
def iV:EvF:=evF 2 2 [] kz
def zA:FS:=(gD (jG (ig (g1 oU) [(gq (kj [1] 1 (jT (js 0)) (gW 1) kH (kJ (gB md [(gn 0),(gn 1)]))))])) hU)
def oG:EvF:=evF 2 2 [] zA
def Co:FS:=(gD (jG (ig (gRg .tup false) [(gq (fC (.int 1))),(gq (gK kf (gn 0) (gq (fC (.int 1)))))])) hU)
def nj:EvF:=evF 1 1 [] Co
def kO:FS:=(gD (sIf (ma (fT (gB jA [(gn 0),(gn 1),(gn 2)]))) (gD xb hU) hU) hU)
def je:EvF:=evF 3 3 [] kO
def jx:XS:=(zIf (ma (fT (gB jA [(gn 0),(gn 1),(gn 2)]))) (wK "NoNumber" (ME "a whole number from " " to " " is wanted there" (gn 1) (gn 2))) zNo)
def kK:List D->Option Str:=xcF 3 3 jx
def CT:List (Str×Nat):=[("NoName",37),("NoBit",49),("NoTurning",61),("NoAnswer",73),("NoNumber",85),("NoClause",97),("NoPutting",109),("TooMany",121),("NoRiddle",133),("BadNote",145)]
def gH(ct rs:List (Str×Nat)):FS:=(gD (sIf (fT (gK gIs (gn 1) (gq (fC .non)))) (gD (jG (fC .non)) hU) hU) (gD (jh 3 (jw [(jQ (vN (rs.map (·.2)) (ctD ct "NoName")) (gn 1)),(jQ (vN (rs.map (·.2)) (ctD ct "NoBit")) (gn 1)),(jQ (vN (rs.map (·.2)) (ctD ct "NoTurning")) (gn 1))])) (gD (jh 3 (gK kf (gn 3) (gq (jw [(jQ (vN (rs.map (·.2)) (ctD ct "NoAnswer")) (gn 1)),(jQ (vN (rs.map (·.2)) (ctD ct "NoNumber")) (gn 1)),(jQ (vN (rs.map (·.2)) (ctD ct "NoClause")) (gn 1))])))) (gD (jh 3 (gK kf (gn 3) (gq (jw [(jQ (vN (rs.map (·.2)) (ctD ct "NoPutting")) (gn 1)),(jQ (vN (rs.map (·.2)) (ctD ct "TooMany")) (gn 1)),(jQ (vN (rs.map (·.2)) (ctD ct "NoRiddle")) (gn 1))])))) (gD (lA (lW 3 (jQ (vN (rs.map (·.2)) (ctD ct "BadNote")) (gn 1)))) (gD (sIf (Cr (ma (fT (jQ (Pk (rs.map (·.2))) (gn 1)))) (fT (gK gNe (gq (ig (g1 Pj) [(gq (kj [] 1 (xS (gn 3)) (gW 0) kH (kJ (ig (g1 EE) [(gn 0)]))))])) (gq (fC (.int 1)))))) (gD (jG (fC (.str "none of these"))) hU) hU) (gD (jh 4 (jw [(fC (.str "name")),(fC (.str "bit")),(fC (.str "turning")),(fC (.str "answer")),(fC (.str "number")),(fC (.str "clause")),(fC (.str "putting")),(fC (.str "many")),(fC (.str "riddle")),(fC (.str "note"))])) (gD (jG (gK gIx (gn 4) (gq (MD 3)))) hU))))))))
def jm:XS:=(zIf (ma (fT (gB iG [(gn 0),(gn 1)]))) (wK "NoTurning" (fC (.str "that is no turning of as many names"))) zNo)
def jL:List D->Option Str:=xcF 2 2 jm
def yd:FS:=(gD (jh 2 Kr) (gD (lA (vD 2 (gB nj [(gn 0)]))) (gD (jh 3 (jw [(gB nj [(gn 0)])])) (gD (lP (Kq (gn 3)) (gD (jh 4 (jw [])) (gD (tE (jT (js 3)) (gW 5) (gD (tE (jT (js 1)) (gW 6) (gD (jh 7 (gB oG [(gn 5),(gn 6)])) (gD (sIf (fT (gK tR (gn 7) (gn 2))) (gD (lA (vD 2 (js 7))) (gD (lA (lW 4 (js 7))) hU)) hU) hU))) hU)) (gD (jh 3 (js 4)) hU))) RG) (gD (jG (ig (g1 qb) [(gn 2)])) hU)))))
def si:EvF:=evF 8 2 [2,3,4,5,6,7] yd
def yc:FS:=(gD (lA (gB je [(gn 0),(gq (fC (.int 0))),(gq (fC (.int 4)))])) (gD (tE (jT (js 1)) (gW 2) (gD (lA (gB iV [(gn 0),(gn 2)])) hU)) (gD (jG (gB si [(gn 0),(gn 1)])) hU)))
def iP:EvF:=evF 3 2 [2] yc
def mR:XS:=(zOr (lr kK [(gn 0),(gq (fC (.int 0))),(gq (fC (.int 4)))]) (Ir (lA (gB je [(gn 0),(gq (fC (.int 0))),(gq (fC (.int 4)))])) (Iu (jT (js 1)) (gW 2) (gD (lA (gB iV [(gn 0),(gn 2)])) hU) (lr jL [(gn 0),(gn 2)]))))
def iT:List D->Option Str:=xcF 3 2 mR
def lX:List (Str×Nat):=[("NoTurning",61),("NoNumber",85)]
def yf:FS:=(gD (tE (AR (gq (ig (g2 Kh) [(gq (fC (.int 1))),(gq (ig (g2 Kg) [(gq (ig (g1 yb) [(gn 0)])),(gq (fC (.int 8)))]))]))) (gW 1) (gD (jh 2 (gB kA [(gn 0),(gn 1)])) (gD (jh 3 (gB gF [(gn 2),(gq (fC (.int 5)))])) (gD (jh 4 (kj [2,3] 1 (AR (gq (gK kf (gq (fC (.int 1))) (gq (gB gF [(gn 2),(gq (fC (.int 4)))]))))) (gW 2) kH (kJ (gB iF [(gn 0),(gn 1)])))) (gD (jh 5 (jw [(gB jJ [(gn 2),(gq (gK gIx (gn 4) (gq (fC (.int 0)))))]),(gB oW [(gn 2)]),(gB iF [(gn 2),(gq (gB gF [(gn 2),(gq (fC (.int 6)))]))])])) (gD (jh 5 (gK gIx (gn 5) (gq (gB gF [(gn 2),(gq (fC (.int 3)))])))) (gD (jh 6 (gB gF [(gn 2),(gq (ig (g1 yb) [(gn 4)]))])) (gD (jh 7 (gK kf (gq (gK kf (gq (qf (gn 4) (gn 6))) (gq (jw [(js 5)])))) (gq (rC (gn 4) (gq (gK kf (gn 6) (gq (fC (.int 1))))))))) (gD (jh 8 (gK gIx (gq (jw [(fC .non),(fC (.str "turning"))])) (gq (ig (g1 EE) [(gq (Cs (gB iz [(gn 3),(gn 5)])))])))) (gD (sIf (fT (gK ED (gq (fFz 4 (qP [3,4] (gB iP [(gn 0),(gn 1)]) (lr iT [(gn 0),(gn 1)]) 5 1 (gH CT lX) (fun z=>lX.lookup z)))) (gq (fC .non)))) (gD (jG (fC (.bl false))) hU) hU) (gD (sIf (fT (gK gNe (gq (fFz 7 (qP [3,7] (gB iP [(gn 0),(gn 1)]) (lr iT [(gn 0),(gn 1)]) 5 1 (gH CT lX) (fun z=>lX.lookup z)))) (gn 8))) (gD (jG (fC (.bl false))) hU) hU) (gD (sIf (fT (gK gNe (gq (fFz 7 (qP [3,7] (gB iP [(gn 0),(gq (ig (g1 oU) [(gn 1)]))]) (lr iT [(gn 0),(gq (ig (g1 oU) [(gn 1)]))]) 5 1 (gH CT lX) (fun z=>lX.lookup z)))) (gn 8))) (gD (jG (fC (.bl false))) hU) hU) (gD (jh 9 (gK gIx (gq (jw [(fC (.int 5)),(fC (.int 6)),(jQ pG (gq (fC (.int 1)))),(fC (.bl true)),(fC (.bl false)),(fC .non),(fC (.str "3")),(mZ [(fC (.int 3))]),(jw []),(gK va (gq (fC (.int 10))) (gq (fC (.int 29)))),(jQ pG (gq (gK va (gq (fC (.int 10))) (gq (fC (.int 29))))))])) (gq (gB gF [(gn 2),(gq (fC (.int 11)))])))) (gD (tE (jT (jw [(js 4),(js 7),(jw [])])) (gW 10) (gD (sIf (fT (gK gNe (gq (qP [9,10] (gB iP [(gn 0),(gn 1)]) (lr iT [(gn 0),(gn 1)]) 5 1 (gH CT lX) (fun z=>lX.lookup z))) (gq (fC (.str "number"))))) (gD (jG (fC (.bl false))) hU) hU) hU)) hU)))))))))))))) (gD (jG (fC (.bl true))) hU))
def rE:EvF:=evF 11 1 [1,2,3,4,5,6,7,8,9,10] yf
end PV
namespace K42
open PySem PySem.Spec PyProof.Rows L2 PX PV
def top(i:Nat):Stmt:=PySem.Challenge.pw_twinriddles_k42_spans_refused.main.body.getD i (.Pass ⟨0,0,0,0⟩)
abbrev TB42:List (Addr×Str):=[(295,"law.<locals>.<lambda>")]
section
variable {Z:ZZ}{k:Nat}
abbrev oN:Stmt:=top 14
theorem BM:FnScope ["thing"] ["thing"] (gv oN):=scM
abbrev sd(Z:ZZ)(k:Nat):Prop:=Oz Z k "is_whole" ["thing"] mf
theorem CH:BdA "is_whole" oN ["thing"]:=fun _ _ _ _ _ _=>us1 fun _=>us0 rfl
theorem B9(a:Fz Z.K Z.mg "is_whole" oN)(T:Tx Z.mg):sd Z (k+1):=by
 have S:=BM;refine ozB (asg:=[]) (fs:=qe) a S CH fun f f9 A outer s H E L hL hr hu r8 r6 u6 nd=>?_;exact(s1 (sR (K9 (xI T rfl xV) (xBo (Nw (xI T rfl xV))))) s0)
abbrev nG:Stmt:=top 15
theorem AB:FnScope ["thing","least","most"] ["thing","least","most"] (gv nG):=scM
abbrev nJ(Z:ZZ)(k:Nat):Prop:=Oz Z k "is_number" ["thing","least","most"] jA
theorem A9:BdA "is_number" nG ["thing","least","most"]:=fun _ _ _ _ _ _=>us1 fun _=>us1 fun _=>us1 fun _=>us0 rfl
theorem AL(a:Fz Z.K Z.mg "is_number" nG)(T:Tx Z.mg)(o5:sd Z k):nJ Z (k+1):=by
 have S:=AB;refine ozB (asg:=[]) (fs:=mH) a S A9 fun f f9 A outer s H E L hL hr hu r8 r6 u6 nd=>?_;exact(s1 (sR (K9 (xU o5 hr (xA xV xA0)) (xBo (xCh xV xV xV)))) s0)
abbrev km:Stmt:=top 16
theorem pA:FnScope ["thing","least","most"] ["thing","least","most"] (gv km):=scM
abbrev mX(Z:ZZ)(k:Nat):Prop:=Oz Z k "check_number" ["thing","least","most"] je
theorem pD:BdA "check_number" km ["thing","least","most"]:=fun _ _ _ _ _ _=>us1 fun _=>us1 fun _=>us1 fun _=>us0 rfl
abbrev pT(Z:ZZ)(k:Nat):Prop:=Oy Z k "check_number" ["thing","least","most"] kK
theorem vI{CR:Nat}(a:Fz Z.K Z.mg "check_number" km)(T:Tx Z.mg)(CK:ClsK Z.K Z.mg CT lX CR)(j9:nJ Z k):pT Z (k+1):=by
 have S:=pA;have xk:= @lL;refine oyB (xs:=jx) a S pD fun f f9 A outer s H E hr hu r8 r6 nd=>?_;exact(rV (zI (tNot (yM (xU j9 hr (xA xV (xA xV (xA xV xA0)))))) (rV (zR lL (CK.x "NoNumber") (xFm xV xV)))))
theorem vJ(a:Fz Z.K Z.mg "check_number" km)(T:Tx Z.mg)(j9:nJ Z k):mX Z (k+1):=by
 have S:=pA;refine ozB (asg:=[]) (fs:=kO) a S pD fun f f9 A outer s H E L hL hr hu r8 r6 u6 nd=>?_;exact(s1 (sI (tNot (yM (xU j9 hr (xA xV (xA xV (xA xV xA0)))))) (s1 sX s0) s0) s0)
abbrev qy:Stmt:=top 17
theorem DX:FnScope ["names","thing"] ["names","thing"] (gv qy):=scM
abbrev zo(Z:ZZ)(k:Nat):Prop:=Oz Z k "is_name" ["names","thing"] oX
theorem EY:BdA "is_name" qy ["names","thing"]:=fun _ _ _ _ _ _=>us1 fun _=>us1 fun _=>us0 rfl
theorem Eh(a:Fz Z.K Z.mg "is_name" qy)(T:Tx Z.mg)(j9:nJ Z k):zo Z (k+1):=by
 have S:=DX;refine ozB (asg:=[]) (fs:=se) a S EY fun f f9 A outer s H E L hL hr hu r8 r6 u6 nd=>?_;exact(s1 (sR (xU j9 hr (xA xV (xA (xO x3) (xA xV xA0))))) s0)
abbrev qx:Stmt:=top 18
theorem DW:FnScope ["names","thing"] ["names","thing"] (gv qx):=scM
abbrev zm(Z:ZZ)(k:Nat):Prop:=Oz Z k "is_sign" ["names","thing"] lQ
theorem EX:BdA "is_sign" qx ["names","thing"]:=fun _ _ _ _ _ _=>us1 fun _=>us1 fun _=>us0 rfl
theorem Eg(a:Fz Z.K Z.mg "is_sign" qx)(T:Tx Z.mg)(o5:sd Z k)(O_is_name:zo Z k):zm Z (k+1):=by
 have S:=DW;refine ozB (asg:=[]) (fs:=oV) a S EX fun f f9 A outer s H E L hL hr hu r8 r6 u6 nd=>?_;exact(s1 (sR (K9 (xU o5 hr (xA xV xA0)) (xBo (xU O_is_name hr (xA xV (xA (xO (xB T rfl ⟨vg⟩ (xA xV xA0))) xA0)))))) s0)
abbrev mF:Stmt:=top 20
theorem yO:FnScope ["names","thing"] ["names","thing"] (gv mF):=scM
abbrev oQ(Z:ZZ)(k:Nat):Prop:=Oz Z k "is_turning" ["names","thing"] iG
theorem yX:BdA "is_turning" mF ["names","thing"]:=fun _ _ _ _ _ _=>us1 fun _=>us1 fun _=>us0 rfl
theorem yP(a:Fz Z.K Z.mg "is_turning" mF)(T:Tx Z.mg)(O_is_sign:zm Z k):oQ Z (k+1):=by
 have S:=yO;refine ozB (asg:=[]) (fs:=ke) a S yX fun f f9 A outer s H E L hL hr hu r8 r6 u6 nd=>?_;exact(s1 (sI (tW (wOr (tNot (yM (xI T rfl xV))) (NC (tCmp ⟨(xw hu)⟩ (xO (xB T rfl ⟨mJ⟩ (xA xV xA0))) xV)))) (s1 (sR x2) s0) s0) (s1 (sI (tNot (yM (xB T rfl ⟨(zM rfl)⟩ (xA (xO (by exact xC (N':=["names","sign"]) (cOk S) (by decide+kernel) (iS xW) fun _ _ _ _ _ _ nd=>⟨(gN nd),f0,fun _=>bE (xU O_is_sign hr (xA xV (xA xV xA0)))⟩)) xA0)))) (s1 (sR x2) s0) s0) (s1 (sR (Qd ⟨(Ea hu)⟩ (xO (by exact xLS (N':=["sign"]) T (cOk S) (by decide+kernel) (iS xW) fun _ _ _ _ _ _ nd=>⟨(gN nd),f0,(xB T rfl ⟨vg⟩ (xA xV xA0))⟩)) xV)) s0)))
abbrev jZ:Stmt:=top 21
theorem oz:FnScope ["names","thing"] ["names","thing"] (gv jZ):=scM
abbrev mm(Z:ZZ)(k:Nat):Prop:=Oz Z k "check_turning" ["names","thing"] iV
theorem oH:BdA "check_turning" jZ ["names","thing"]:=fun _ _ _ _ _ _=>us1 fun _=>us1 fun _=>us0 rfl
abbrev pv(Z:ZZ)(k:Nat):Prop:=Oy Z k "check_turning" ["names","thing"] jL
theorem uP{CR:Nat}(a:Fz Z.K Z.mg "check_turning" jZ)(T:Tx Z.mg)(CK:ClsK Z.K Z.mg CT lX CR)(m5:oQ Z k):pv Z (k+1):=by
 have S:=oz;have xk:= @lL;refine oyB (xs:=jm) a S oH fun f f9 A outer s H E hr hu r8 r6 nd=>?_;exact(rV (zI (tNot (yM (xU m5 hr (xA xV (xA xV xA0))))) (rV (zR lL (CK.x "NoTurning") x4))))
theorem uW(a:Fz Z.K Z.mg "check_turning" jZ)(T:Tx Z.mg)(m5:oQ Z k):mm Z (k+1):=by
 have S:=oz;refine ozB (asg:=[]) (fs:=kz) a S oH fun f f9 A outer s H E L hL hr hu r8 r6 u6 nd=>?_;exact(s1 (sI (tNot (yM (xU m5 hr (xA xV (xA xV xA0))))) (s1 sX s0) s0) s0)
abbrev oK:Stmt:=top 22
theorem BK:FnScope ["turning","sign"] ["turning","sign"] (gv oK):=scM
abbrev xG(Z:ZZ)(k:Nat):Prop:=Oz Z k "led_sign" ["turning","sign"] md
theorem CF:BdA "led_sign" oK ["turning","sign"]:=fun _ _ _ _ _ _=>us1 fun _=>us1 fun _=>us0 rfl
theorem B7(a:Fz Z.K Z.mg "led_sign" oK)(T:Tx Z.mg):xG Z (k+1):=by
 have S:=BK;refine ozB (asg:=[]) (fs:=qc) a S CF fun f f9 A outer s H E L hL hr hu r8 r6 u6 nd=>?_;exact(s1 (sR (xIf (tCmp ⟨(AI (.inr (.inr (.inl rfl))) hu)⟩ xV (xO x3)) (xIx xV (xO (jg ⟨vU⟩ xV (xO x3)))) (yL (xO (xIx xV (xO (jg ⟨vU⟩ (xO (yL xV)) (xO x3)))))))) s0)
abbrev tD:Stmt:=top 23
theorem GK:FnScope ["one","other"] ["one","other"] (gv tD):=scM
abbrev Ca(Z:ZZ)(k:Nat):Prop:=Oz Z k "behind" ["one","other"] oG
theorem Hy:BdA "behind" tD ["one","other"]:=fun _ _ _ _ _ _=>us1 fun _=>us1 fun _=>us0 rfl
theorem G4(a:Fz Z.K Z.mg "behind" tD)(T:Tx Z.mg)(O_led_sign:xG Z k):Ca Z (k+1):=by
 have S:=GK;refine ozB (asg:=[]) (fs:=zA) a S Hy fun f f9 A outer s H E L hL hr hu r8 r6 u6 nd=>?_;exact(s1 (sR (xT T rfl ⟨nS⟩ (xA (xO (by exact xC (N':=["other","sign"]) (cOk S) (by decide+kernel) (iS xW) fun _ _ _ _ _ _ nd=>⟨(gN nd),f0,fun _=>bE (xU O_led_sign hr (xA xV (xA xV xA0)))⟩)) xA0))) s0)
abbrev vT:Stmt:=top 24
theorem IX:FnScope ["names"] ["names"] (gv vT):=scM
abbrev FV(Z:ZZ)(k:Nat):Prop:=Oz Z k "still" ["names"] nj
theorem KI:BdA "still" vT ["names"]:=fun _ _ _ _ _ _=>us1 fun _=>us0 rfl
theorem JR(a:Fz Z.K Z.mg "still" vT)(T:Tx Z.mg):FV Z (k+1):=by
 have S:=IX;refine ozB (asg:=[]) (fs:=Co) a S KI fun f f9 A outer s H E L hL hr hu r8 r6 u6 nd=>?_;exact(s1 (sR (Nv T rfl (xA (xO x3) (xA (xO (jg ⟨iw⟩ xV (xO x3))) xA0)))) s0)
abbrev qv:Stmt:=top 26
theorem DU:FnScope ["names","turnings","seen","fresh","reached","begun","turning","done"] ["names","turnings"] (gv qv):=scM
abbrev uX(Z:ZZ)(k:Nat):Prop:=Oz Z k "span_of" ["names","turnings"] si
theorem EV:BdA "span_of" qv ["names","turnings"]:=fun _ _ _ _ _ _=>us1 fun _=>us1 fun _=>us0 rfl
theorem Ee(a:Fz Z.K Z.mg "span_of" qv)(T:Tx Z.mg)(O_still:FV Z k)(O_behind:Ca Z k):uX Z (k+1):=by
 have S:=DU;refine ozB (asg:=[2,3,4,5,6,7]) (fs:=yd) a S EV fun f f9 A outer s H E L hL hr hu r8 r6 u6 nd=>?_;exact(s1 (sS nd (Qc T.n_set)) (s1 (sE (MZ u6 xV (xU O_still hr (xA xV xA0)))) (s1 (sS nd (lM (xL (xU O_still hr (xA xV xA0)) xL0))) (s1 (sW (tTr xV) (s1 (sS nd (lM xL0)) (s1 (sF (iS xW) (gN nd) (s1 (sF (iS xW) (gN nd) (s1 (sS nd (xU O_behind hr (xA xV (xA xV xA0)))) (s1 (sI (tCmp ⟨(D9 r6)⟩ xV xV) (s1 (sE (MZ u6 xV xW)) (s1 (sE (Nx xV xW)) s0)) s0) s0))) s0)) (s1 (sS nd xW) s0)))) (s1 (sR (xB T rfl ⟨(A4 rfl r6)⟩ (xA xV xA0))) s0)))))
abbrev oA:Stmt:=top 27
theorem wX:FnScope ["names","some","turning"] ["names","some"] (gv oA):=scM
abbrev zk(Z:ZZ)(k:Nat):Prop:=Oz Z k "spanned" ["names","some"] iP
theorem yB:BdA "spanned" oA ["names","some"]:=fun _ _ _ _ _ _=>us1 fun _=>us1 fun _=>us0 rfl
abbrev yZ(Z:ZZ)(k:Nat):Prop:=Oy Z k "spanned" ["names","some"] iT
theorem DK{CR:Nat}(a:Fz Z.K Z.mg "spanned" oA)(T:Tx Z.mg)(CK:ClsK Z.K Z.mg CT lX CR)(i7: ∃t,Z.mg "FEW_NAMES"=some (.int 4 t))(l3:mX Z k)(k8:mm Z k)(O_span_of:uX Z k)(Y_check_number:pT Z k)(Y_check_turning:pv Z k):yZ Z (k+1):=by
 have S:=wX;have xk:= @lL;refine oyB (xs:=mR) a S yB fun f f9 A outer s H E hr hu r8 r6 nd=>?_;exact(R0 (rV (zE (zC lL Y_check_number hr (xA xV (xA (xO x3) (xA (xO (x5 i7)) xA0)))))) (zN (A:=fun i=>i<40) (sE (xU l3 hr (xA xV (xA (xO x3) (xA (xO (x5 i7)) xA0))))) (rV (zFr (A:=fun i=>i<40) (iS xW) (gN nd) (s1 (sE (xU k8 hr (xA xV (xA xV xA0)))) s0) (rV (zE (zC lL Y_check_turning hr (xA xV (xA xV xA0)))))))))
theorem Ed(a:Fz Z.K Z.mg "spanned" oA)(T:Tx Z.mg)(i7: ∃t,Z.mg "FEW_NAMES"=some (.int 4 t))(l3:mX Z k)(k8:mm Z k)(O_span_of:uX Z k):zk Z (k+1):=by
 have S:=wX;refine ozB (asg:=[2]) (fs:=yc) a S yB fun f f9 A outer s H E L hL hr hu r8 r6 u6 nd=>?_;exact(s1 (sE (xU l3 hr (xA xV (xA (xO x3) (xA (xO (x5 i7)) xA0))))) (s1 (sF (iS xW) (gN nd) (s1 (sE (xU k8 hr (xA xV (xA xV xA0)))) s0)) (s1 (sR (xU O_span_of hr (xA xV (xA xV xA0)))) s0)))
abbrev lT:Stmt:=top 29
theorem xa:FnScope ["_law_script","_law_k"] ["_law_script","_law_k"] (gv lT):=scM
abbrev rq(Z:ZZ)(k:Nat):Prop:=Oz Z k "_law_cell_at" ["_law_script","_law_k"] kr
theorem yE:BdA "_law_cell_at" lT ["_law_script","_law_k"]:=fun _ _ _ _ _ _=>us1 fun _=>us1 fun _=>us0 rfl
theorem xF(a:Fz Z.K Z.mg "_law_cell_at" lT)(T:Tx Z.mg):rq Z (k+1):=by
 have S:=xa;refine ozB (asg:=[]) (fs:=lD) a S yE fun f f9 A outer s H E L hL hr hu r8 r6 u6 nd=>?_;exact(s1 (sI (tCmp ⟨(AI (.inl rfl) hu)⟩ xV (xO (xB T rfl ⟨mJ⟩ (xA xV xA0)))) (s1 (sR (xIx xV xV)) s0) s0) (s1 (sR x3) s0))
abbrev nE:Stmt:=top 30
theorem AA:FnScope ["_law_script","_law_k","_law_cell"] ["_law_script","_law_k"] (gv nE):=scM
abbrev vC(Z:ZZ)(k:Nat):Prop:=Oz Z k "_law_state" ["_law_script","_law_k"] kA
theorem A8:BdA "_law_state" nE ["_law_script","_law_k"]:=fun _ _ _ _ _ _=>us1 fun _=>us1 fun _=>us0 rfl
theorem AK(a:Fz Z.K Z.mg "_law_state" nE)(T:Tx Z.mg)(O_law_cell_at:rq Z k):vC Z (k+1):=by
 have S:=AA;refine ozB (asg:=[2]) (fs:=mG) a S A8 fun f f9 A outer s H E L hL hr hu r8 r6 u6 nd=>?_;exact(s1 (sS nd (xU O_law_cell_at hr (xA xV (xA xV xA0)))) (s1 (sI (tCmp ⟨(AI (.inr (.inr (.inr rfl))) hu)⟩ xV (xO (jg ⟨qC⟩ (xO x3) (xO x3)))) (s1 (sR (lM (xL (jg ⟨vU⟩ xV (xO (jg ⟨qC⟩ (xO x3) (xO x3)))) (xL x2 xL0)))) s0) s0) (s1 (sR (lM (xL (jg ⟨qE⟩ xV (xO x3)) (xL x2 xL0)))) s0)))
abbrev oM:Stmt:=top 31
theorem BL:FnScope ["_law_state_here","_law_many","_law_found","_law_mixed"] ["_law_state_here","_law_many"] (gv oM):=scM
abbrev mV(Z:ZZ)(k:Nat):Prop:=Oz Z k "_law_take" ["_law_state_here","_law_many"] gF
theorem CG:BdA "_law_take" oM ["_law_state_here","_law_many"]:=fun _ _ _ _ _ _=>us1 fun _=>us1 fun _=>us0 rfl
theorem B8(a:Fz Z.K Z.mg "_law_take" oM)(T:Tx Z.mg):mV Z (k+1):=by
 have S:=BL;refine ozB (asg:=[2,3]) (fs:=nQ) a S CG fun f f9 A outer s H E L hL hr hu r8 r6 u6 nd=>?_;exact(s1 (sI (yM (xIx xV (xO x3))) (s1 (sS nd (jg ⟨qE⟩ (xO (xIx xV (xO x3))) xV)) (s1 (sIx xV (jg ⟨FP⟩ (xO (xIx xV (xO x3))) xV) (xO x3)) (s1 (sRV (fun h=>absurd (hL _ h) (by decide))) s0))) s0) (s1 (sIx xV (jg ⟨qE⟩ (xO (jg ⟨iw⟩ (xO (jg ⟨qD⟩ (xO (xIx xV (xO x3))) (xO x3))) (xO x3))) (xO x3)) (xO x3)) (s1 (sS nd (jg ⟨qE⟩ (xO (jg ⟨iw⟩ (xO (jg ⟨iw⟩ (xO (jg ⟨qD⟩ (xO (xIx xV (xO x3))) (xO (xIx xV (xO x3))))) (xO (jg ⟨qD⟩ (xO x3) (xO (xIx xV (xO x3))))))) (xO x3))) (xO x3))) (s1 (sS nd (jg ⟨qE⟩ (xO (jg ⟨iw⟩ (xO (jg ⟨qD⟩ xV xV)) (xO (jg ⟨qD⟩ (xO x3) xV)))) (xO x3))) (s1 (sR (jg ⟨qE⟩ (xO (jg ⟨FP⟩ xV (xO x3))) xV)) s0)))))
abbrev lS:Stmt:=top 32
theorem wY:FnScope ["_law_state_here","_law_names","_law_rest","_law_found","_law_turn"] ["_law_state_here","_law_names"] (gv lS):=scM
abbrev rp(Z:ZZ)(k:Nat):Prop:=Oz Z k "_law_turning" ["_law_state_here","_law_names"] iF
theorem yC:BdA "_law_turning" lS ["_law_state_here","_law_names"]:=fun _ _ _ _ _ _=>us1 fun _=>us1 fun _=>us0 rfl
theorem xy(a:Fz Z.K Z.mg "_law_turning" lS)(T:Tx Z.mg)(b8:mV Z k):rp Z (k+1):=by
 have S:=wY;refine ozB (asg:=[2,3,4]) (fs:=qd) a S yC fun f f9 A outer s H E L hL hr hu r8 r6 u6 nd=>?_;exact(s1 (sS nd (Nv T rfl (xA (xO x3) (xA (xO (jg ⟨iw⟩ xV (xO x3))) xA0)))) (s1 (sS nd (lM xL0)) (s1 (sF (iR1 T (xA xV xA0)) (gN nd) (s1 (sE (Nx xV (jg ⟨qD⟩ (xO (Sa xV (xO (xU b8 hr (xA xV (xA (xO (xB T rfl ⟨mJ⟩ (xA xV xA0))) xA0)))))) (xO (xIx (xO (lM (xL x3 (xL (yL (xO x3)) xL0)))) (xO (xU b8 hr (xA xV (xA (xO x3) xA0))))))))) s0)) (s1 (sR (xT T rfl ⟨nS⟩ (xA xV xA0))) s0))))
abbrev nD:Stmt:=top 34
theorem Az:FnScope ["_law_thing"] ["_law_thing"] (gv nD):=scM
abbrev vB(Z:ZZ)(k:Nat):Prop:=Oz Z k "_law_whole" ["_law_thing"] iU
theorem A7:BdA "_law_whole" nD ["_law_thing"]:=fun _ _ _ _ _ _=>us1 fun _=>us0 rfl
theorem AJ(a:Fz Z.K Z.mg "_law_whole" nD)(T:Tx Z.mg):vB Z (k+1):=by
 have S:=Az;refine ozB (asg:=[]) (fs:=lO) a S A7 fun f f9 A outer s H E L hL hr hu r8 r6 u6 nd=>?_;exact(s1 (sR (K9 (xI T rfl xV) (xBo (Nw (xI T rfl xV))))) s0)
abbrev ku:Stmt:=top 35
theorem tx:FnScope ["_law_names","_law_thing"] ["_law_names","_law_thing"] (gv ku):=scM
abbrev oF(Z:ZZ)(k:Nat):Prop:=Oz Z k "_law_is_turning" ["_law_names","_law_thing"] iz
theorem uh:BdA "_law_is_turning" ku ["_law_names","_law_thing"]:=fun _ _ _ _ _ _=>us1 fun _=>us1 fun _=>us0 rfl
theorem tL(a:Fz Z.K Z.mg "_law_is_turning" ku)(T:Tx Z.mg)(O_law_whole:vB Z k):oF Z (k+1):=by
 have S:=tx;refine ozB (asg:=[]) (fs:=ki) a S uh fun f f9 A outer s H E L hL hr hu r8 r6 u6 nd=>?_;exact(s1 (sI (tW (wOr (tNot (yM (xI T rfl xV))) (NC (tNot (yM (xB T rfl ⟨(zM rfl)⟩ (xA (xO (by exact xC (N':=["_law_sign"]) (cOk S) (by decide+kernel) (iS xW) fun _ _ _ _ _ _ nd=>⟨(gN nd),f0,fun _=>bE (xU O_law_whole hr (xA xV xA0))⟩)) xA0))))))) (s1 (sR x2) s0) s0) (s1 (sR (Qd ⟨(Ea hu)⟩ (xO (xB T rfl ⟨(ud r6)⟩ (xA (xO (by exact xC (N':=["_law_sign"]) (cOk S) (by decide+kernel) (iS xW) fun _ _ _ _ _ _ nd=>⟨(gN nd),f0,fun _=>bE (xB T rfl ⟨vg⟩ (xA xV xA0))⟩)) xA0))) (xO (Nv T rfl (xA (xO x3) (xA (xO (jg ⟨iw⟩ xV (xO x3))) xA0)))))) s0))
abbrev qw:Stmt:=top 36
theorem DV:FnScope ["_law_state_here","_law_some"] ["_law_state_here"] (gv qw):=scM
abbrev zl(Z:ZZ)(k:Nat):Prop:=Oz Z k "_law_odd" ["_law_state_here"] oW
theorem EW:BdA "_law_odd" qw ["_law_state_here"]:=fun _ _ _ _ _ _=>us1 fun _=>us0 rfl
theorem Ef(a:Fz Z.K Z.mg "_law_odd" qw)(T:Tx Z.mg)(b8:mV Z k):zl Z (k+1):=by
 have S:=DV;refine ozB (asg:=[1]) (fs:=ye) a S EW fun f f9 A outer s H E L hL hr hu r8 r6 u6 nd=>?_;exact(s1 (sS nd (lM (xL x1 (xL x2 (xL x2 (xL (yL (xO x3)) (xL x3 (xL x3 (xL x4 (xL x4 (xL (pF xL0) (xL (lM xL0) (xL (pF (xL x2 xL0)) (xL (lM (xL x3 xL0)) (xL x8 (xL (pF (xL x1 xL0)) (xL (pF (xL (pF (xL x3 xL0)) xL0)) (xL (jg ⟨qC⟩ (xO x3) (xO x3)) xL0)))))))))))))))))) (s1 (sR (xIx (xO (jg ⟨iw⟩ xV (xO (lM (xL (pF (xL x3 xL0)) (xL (pF (xL x3 (xL x3 xL0))) xL0)))))) (xO (xU b8 hr (xA xV (xA (xO x3) xA0)))))) s0))
abbrev jU:Stmt:=top 37
theorem qM:FnScope ["_law_state_here","_law_turning_here","_law_names","_law_at","_law_to","_law_odd_here","_law_some"] ["_law_state_here","_law_turning_here"] (gv jU):=scM
abbrev mW(Z:ZZ)(k:Nat):Prop:=Oz Z k "_law_bent_turning" ["_law_state_here","_law_turning_here"] jJ
theorem qQ:BdA "_law_bent_turning" jU ["_law_state_here","_law_turning_here"]:=fun _ _ _ _ _ _=>us1 fun _=>us1 fun _=>us0 rfl
theorem qN(a:Fz Z.K Z.mg "_law_bent_turning" jU)(T:Tx Z.mg)(b8:mV Z k):mW Z (k+1):=by
 have S:=qM;refine ozB (asg:=[2,3,4,5,6]) (fs:=mE) a S qQ fun f f9 A outer s H E L hL hr hu r8 r6 u6 nd=>?_;exact(s1 (sS nd (xB T rfl ⟨mJ⟩ (xA xV xA0))) (s1 (sI (tCmp ⟨(Ea hu)⟩ xV (xO x3)) (s1 (sR (xIx (xO (lM (xL (pF (xL x3 xL0)) (xL (pF (xL x3 xL0)) (xL (lM xL0) (xL x1 (xL (pF (xL (pF xL0) xL0)) (xL (pF (xL x2 xL0)) xL0)))))))) (xO (xU b8 hr (xA xV (xA (xO x3) xA0)))))) s0) s0) (s1 (sP nd (xA (xO (xU b8 hr (xA xV (xA xV xA0)))) (xA (xO (xU b8 hr (xA xV (xA xV xA0)))) xA0))) (s1 (sS nd (lM (xL x3 (xL (jg ⟨iw⟩ xV (xO x3)) (xL (jg ⟨vU⟩ (xO (yL xV)) (xO x3)) (xL x2 (xL x1 (xL x4 (xL (pF (xL x3 xL0)) (xL (xIx xV xV) (xL (yL (xO (xIx xV xV))) (xL (yL (xO (xIx xV xV))) (xL (jg ⟨qC⟩ (xO x3) (xO x3)) xL0))))))))))))) (s1 (sS nd (xIx xV (xO (xU b8 hr (xA xV (xA (xO x3) xA0)))))) (s1 (sS nd (lM (xL (jg ⟨iw⟩ (xO (jg ⟨iw⟩ (xO (Iw xV xV)) (xO (pF (xL xW xL0))))) (xO (K8 xV (xO (jg ⟨iw⟩ xV (xO x3)))))) (xL (jg ⟨iw⟩ (xO (jg ⟨iw⟩ (xO (Iw xV xV)) (xO (pF (xL xW xL0))))) (xO (K8 xV xV))) (xL (xT T rfl ⟨ES⟩ (xA xV xA0)) (xL (pF (xL xW xL0)) xL0)))))) (s1 (sS nd (jg ⟨iw⟩ xV (xO (lM (xL (jg ⟨iw⟩ (xO (Iw xV xV)) (xO (K8 xV (xO (jg ⟨iw⟩ xV (xO x3)))))) (xL (jg ⟨iw⟩ xV (xO (pF (xL (jg ⟨iw⟩ xV (xO x3)) xL0)))) (xL (R9 xV (xO (yL (xO x3)))) (xL (jg ⟨iw⟩ xV (xO (Iw xV (xO x3)))) xL0)))))))) (s1 (sR (xIx xV (xO (xIx (xO (lM (xL x3 (xL x3 (xL x3 (xL x3 (xL x3 (xL x3 (xL x3 (xL x3 (xL x3 (xL x3 xL0)))))))))))) (xO (xU b8 hr (xA xV (xA (xO x3) xA0)))))))) s0))))))))
abbrev kd:Stmt:=top 38
theorem wZ:FnScope ["_law_call","_law_error","e","_law_sorts","_law_words"] ["_law_call"] (gv kd):=scM
theorem yD:BdA "_law_refused" kd ["_law_call"]:=fun _ _ _ _ _ _=>us1 fun _=>us0 rfl
abbrev rm(Z:ZZ)(k:Nat):Prop:=Rf Z kd ["_law_call","_law_error","e","_law_sorts","_law_words"] "_law_refused" "_law_call" "RiddleError" "_law_error" "e" 1 2 k [1,2,3,4] (gH CT lX) (fun z=>lX.lookup z)
theorem xD{CR:Nat}(a:Fz Z.K Z.mg "_law_refused" kd)(T:Tx Z.mg)(CK:ClsK Z.K Z.mg CT lX CR):rm Z k:=by
 have S:=wZ;obtain⟨f,fd,m,F⟩:=a;refine⟨f,fd,CR,F,F.binds yD,m,fun X hX=>?_,CK.ci⟩;subst hX;refine⟨S,by decide,rfl,rfl,by decide,by decide,rfl,rfl,rfl,rfl,CK.re,by decide,_,_,_,_,_,_,_,_,_,_,_,rfl,fun f9 A outer s H L hL hr=>?_⟩;have nd:=S.nd;have hq:=hr.un;have hu:un (A.deeper (envOfC "_law_refused" (gv kd) s.heap.objs.size f f9)) 60:=by unfold un;omega
 refine⟨rfl,rfl,QS.h (show QS _ _ _ _ _ _ from(sS nd x1)),QQ.h (show QQ _ _ _ _ _ (gH CT lX) from(s1 (sI (tCmp ⟨OP⟩ xV (xO x1)) (s1 (sR x1) s0) s0) (s1 (sS nd (lM (xL (xE T (CK.t "NoName") xV) (xL (xE T (CK.t "NoBit") xV) (xL (xE T (CK.t "NoTurning") xV) xL0))))) (s1 (sS nd (jg ⟨iw⟩ xV (xO (lM (xL (xE T (CK.t "NoAnswer") xV) (xL (xE T (CK.t "NoNumber") xV) (xL (xE T (CK.t "NoClause") xV) xL0))))))) (s1 (sS nd (jg ⟨iw⟩ xV (xO (lM (xL (xE T (CK.t "NoPutting") xV) (xL (xE T (CK.t "TooMany") xV) (xL (xE T (CK.t "NoRiddle") xV) xL0))))))) (s1 (sE (Nx xV (xE T (CK.t "BadNote") xV))) (s1 (sI (tW (wOr (tNot (yM (xEV T CK.vm CK.v xV))) (NC (tCmp ⟨(xw hu)⟩ (xO (R8 CK.su (xA (xO (by exact xC (N':=["_law_kind"]) (cOk S) (by decide+kernel) (iSV xV) fun _ _ _ _ _ _ nd=>⟨(gN nd),f0,fun _=>bE (xT T rfl ⟨zK⟩ (xA xV xA0))⟩)) xA0))) (xO x3))))) (s1 (sR x4) s0) s0) (s1 (sS nd (lM (xL x4 (xL x4 (xL x4 (xL x4 (xL x4 (xL x4 (xL x4 (xL x4 (xL x4 (xL x4 xL0)))))))))))) (s1 (sR (xIx xV (xO (Sb xV)))) s0)))))))))⟩
abbrev Ft:Stmt:=top 39
theorem NT:FnScope ["_law_script","_law_k","_law_state_here","_law_names","_law_some","_law_bad","_law_at","_law_bent","_law_due","_law_odd_here","_law_rows"] ["_law_script"] (gv Ft):=scM
theorem PU:BdA "law" Ft ["_law_script"]:=fun _ _ _ _ _ _=>us1 fun _=>us0 rfl
theorem OY{f c:gm}{fd:kR}(F:Fun Z.K "law" "law" Ft f fd)(hc:fd.code= .ref c)(hC:PySem.W.CodeHd Z.base c 295)(hB:Z.base.BuiltinsAt Z.mg 295)(T:Tx Z.mg)(P_law_state:vC Z k)(P_law_take:mV Z k)(P_law_turning:rp Z k)(P_law_bent_turning:mW Z k)(P_law_odd:zl Z k)(P_law_is_turning:oF Z k)(j6:rm Z k)(l7:zk Z k)(n8:yZ Z k):FnOk Z.P Z.w Z.K Z.mg Z.base CX0 (k+3) f fd ["_law_script"] (spT TB42 (spF Z.K rE)):=by
 have S:=NT;have O_law_state:=P_law_state.up (j:=k+2) (by omega);have b8:=P_law_take.up (j:=k+2) (by omega);have O_law_turning:=P_law_turning.up (j:=k+2) (by omega);have O_law_bent_turning:=P_law_bent_turning.up (j:=k+2) (by omega);have O_law_odd:=P_law_odd.up (j:=k+2) (by omega);have O_law_is_turning:=P_law_is_turning.up (j:=k+2) (by omega);have O_spanned:=l7.up (j:=k+2) (by omega);refine TV (q:="law.<locals>.<lambda>") (asg:=[1,2,3,4,5,6,7,8,9,10]) (fs:=yf) F hc hC hB (by decide) (by decide) S fun f f9 A outer s H E L hL hr hu r8 r6 u6 nd tb=>?_;exact(s1 (sF (iR1 T (xA (xO (xB T rfl ⟨(EO rfl)⟩ (xA (xO x3) (xA (xO (xB T rfl ⟨(EN rfl)⟩ (xA (xO (xB T rfl ⟨mJ⟩ (xA xV xA0))) (xA (xO x3) xA0)))) xA0)))) xA0)) (gN nd) (s1 (sS nd (xU O_law_state hr (xA xV (xA xV xA0)))) (s1 (sS nd (xU b8 hr (xA xV (xA (xO x3) xA0)))) (s1 (sS nd (by exact xC (N':=["_law_state_here","_law_names","_law_turn"]) (cOk S) (by decide+kernel) (iR1 T (xA (xO (jg ⟨iw⟩ (xO x3) (xO (xU b8 hr (xA xV (xA (xO x3) xA0)))))) xA0)) fun _ _ _ _ _ _ nd=>⟨(gN nd),f0,fun _=>bE (xU O_law_turning hr (xA xV (xA xV xA0)))⟩)) (s1 (sS nd (lM (xL (xU O_law_bent_turning hr (xA xV (xA (xO (xIx xV (xO x3))) xA0))) (xL (xU O_law_odd hr (xA xV xA0)) (xL (xU O_law_turning hr (xA xV (xA (xO (xU b8 hr (xA xV (xA (xO x3) xA0)))) xA0))) xL0))))) (s1 (sS nd (xIx xV (xO (xU b8 hr (xA xV (xA (xO x3) xA0)))))) (s1 (sS nd (xU b8 hr (xA xV (xA (xO (xB T rfl ⟨mJ⟩ (xA xV xA0))) xA0)))) (s1 (sS nd (jg ⟨iw⟩ (xO (jg ⟨iw⟩ (xO (Iw xV xV)) (xO (lM (xL xW xL0))))) (xO (K8 xV (xO (jg ⟨iw⟩ xV (xO x3))))))) (s1 (sS nd (xIx (xO (lM (xL x1 (xL x4 xL0)))) (xO (xT T rfl ⟨zK⟩ (xA (xO (Nw (xU O_law_is_turning hr (xA xV (xA xV xA0))))) xA0))))) (s1 (sI (tCmp ⟨GZ⟩ (xO (xFz (xRf (N':=["_law_names","_law_some"]) j6 tb hr (cOk S) (by decide+kernel) fun _ _ _ _ _ _ _ _ hr=>⟨xU l7 hr (xA xV (xA xV xA0)),zC sT n8 hr (xA xV (xA xV xA0))⟩))) (xO x1)) (s1 (sR x2) s0) s0) (s1 (sI (tCmp ⟨(xw hu)⟩ (xO (xFz (xRf (N':=["_law_names","_law_bent"]) j6 tb hr (cOk S) (by decide+kernel) fun _ _ _ _ _ _ _ _ hr=>⟨xU l7 hr (xA xV (xA xV xA0)),zC sT n8 hr (xA xV (xA xV xA0))⟩))) xV) (s1 (sR x2) s0) s0) (s1 (sI (tCmp ⟨(xw hu)⟩ (xO (xFz (xRf (N':=["_law_names","_law_bent"]) j6 tb hr (cOk S) (by decide+kernel) fun _ _ _ _ _ _ _ _ hr=>⟨xU l7 hr (xA xV (xA (xO (xT T rfl ⟨nS⟩ (xA xV xA0))) xA0)),zC sT n8 hr (xA xV (xA (xO (xT T rfl ⟨nS⟩ (xA xV xA0))) xA0))⟩))) xV) (s1 (sR x2) s0) s0) (s1 (sS nd (xIx (xO (lM (xL x3 (xL x3 (xL (yL (xO x3)) (xL x2 (xL x2 (xL x1 (xL x4 (xL (pF (xL x3 xL0)) (xL (lM xL0) (xL (jg ⟨qC⟩ (xO x3) (xO x3)) (xL (yL (xO (jg ⟨qC⟩ (xO x3) (xO x3)))) xL0))))))))))))) (xO (xU b8 hr (xA xV (xA (xO x3) xA0)))))) (s1 (sF (iS (lM (xL xW (xL xW (xL (lM xL0) xL0))))) (gN nd) (s1 (sI (tCmp ⟨(xw hu)⟩ (xO (xRf (N':=["_law_odd_here","_law_rows"]) j6 tb hr (cOk S) (by decide+kernel) fun _ _ _ _ _ _ _ _ hr=>⟨xU l7 hr (xA xV (xA xV xA0)),zC sT n8 hr (xA xV (xA xV xA0))⟩)) (xO x4)) (s1 (sR x2) s0) s0) s0)) s0)))))))))))))) (s1 (sR x2) s0))
end
theorem all_mk{l:PySem.W.OpenLaw}{w:gE}{K:gQ}{mg:jK}{fa:gm}(de:mg "law"=some (.ref fa))(T:Tx mg)
  (a0:Fz K mg "is_whole" oN)
  (a1:Fz K mg "is_number" nG)
  (a2:Fz K mg "check_number" km)
  (a3:Fz K mg "is_name" qy)
  (a4:Fz K mg "is_sign" qx)
  (a5:Fz K mg "is_turning" mF)
  (a6:Fz K mg "check_turning" jZ)
  (a7:Fz K mg "led_sign" oK)
  (a8:Fz K mg "behind" tD)
  (a9:Fz K mg "still" vT)
  (dR:Fz K mg "span_of" qv)
  (a11:Fz K mg "spanned" oA)
  (a12:Fz K mg "_law_cell_at" lT)
  (a13:Fz K mg "_law_state" nE)
  (a14:Fz K mg "_law_take" oM)
  (a15:Fz K mg "_law_turning" lS)
  (a16:Fz K mg "_law_whole" nD)
  (a17:Fz K mg "_law_is_turning" ku)
  (a18:Fz K mg "_law_odd" qw)
  (a19:Fz K mg "_law_bent_turning" jU)
  (a20:Fz K mg "_law_refused" kd)
  (a21:FzT K mg "law" Ft 295)
  (CK:ClsK K mg CT lX 24)
  (i7: ∃t,mg "FEW_NAMES"=some (.int 4 t))
  : ∃fd:FuncData,(∀(s:gu) (v:gy),BindsTo s fd ⟨[v],[]⟩ [("_law_script",v)])/\(∀p∈TB42,∃c,PySem.W.codeHdIn K c p.1=true)/\ ∀base:Heap,K.In base->base.Ns mainGlobals mg->(∀p∈TB42,base.BuiltinsAt mg p.1)->FnOk l.prog w K mg base CX0 10 fa fd ["_law_script"] (spT TB42 (spF K rE)):=by
 obtain⟨fd,c,F,hc,hC,hb⟩:=TU a21 de PU;refine⟨fd,hb,aC a21.cd (aN),fun base KB _ BB=>?_⟩;have O0:=B9 (Z:=⟨l.prog,w,K,mg,base⟩) (k:=0) a0 T;have O1:=AL (Z:=⟨l.prog,w,K,mg,base⟩) (k:=1) a1 T O0.up;have O2:=vJ (Z:=⟨l.prog,w,K,mg,base⟩) (k:=2) a2 T O1.up;have Y2:=vI (Z:=⟨l.prog,w,K,mg,base⟩) (k:=2) a2 T CK O1.up;have O3:=Eh (Z:=⟨l.prog,w,K,mg,base⟩) (k:=2) a3 T O1.up;have O4:=Eg (Z:=⟨l.prog,w,K,mg,base⟩) (k:=3) a4 T O0.up O3.up;have O5:=yP (Z:=⟨l.prog,w,K,mg,base⟩) (k:=4) a5 T O4.up;have O6:=uW (Z:=⟨l.prog,w,K,mg,base⟩) (k:=5) a6 T O5.up;have Y6:=uP (Z:=⟨l.prog,w,K,mg,base⟩) (k:=5) a6 T CK O5.up;have O7:=B7 (Z:=⟨l.prog,w,K,mg,base⟩) (k:=0) a7 T;have O8:=G4 (Z:=⟨l.prog,w,K,mg,base⟩) (k:=1) a8 T O7.up;have O9:=JR (Z:=⟨l.prog,w,K,mg,base⟩) (k:=0) a9 T;have O10:=Ee (Z:=⟨l.prog,w,K,mg,base⟩) (k:=2) dR T O9.up O8.up;have O11:=Ed (Z:=⟨l.prog,w,K,mg,base⟩) (k:=6) a11 T i7 O2.up O6.up O10.up;have Y11:=DK (Z:=⟨l.prog,w,K,mg,base⟩) (k:=6) a11 T CK i7 O2.up O6.up O10.up Y2.up Y6.up;have O12:=xF (Z:=⟨l.prog,w,K,mg,base⟩) (k:=0) a12 T;have O13:=AK (Z:=⟨l.prog,w,K,mg,base⟩) (k:=1) a13 T O12.up;have eQ:=B8 (Z:=⟨l.prog,w,K,mg,base⟩) (k:=0) a14 T;have O15:=xy (Z:=⟨l.prog,w,K,mg,base⟩) (k:=1) a15 T eQ.up;have O16:=AJ (Z:=⟨l.prog,w,K,mg,base⟩) (k:=0) a16 T;have O17:=tL (Z:=⟨l.prog,w,K,mg,base⟩) (k:=1) a17 T O16.up;have O18:=Ef (Z:=⟨l.prog,w,K,mg,base⟩) (k:=1) a18 T eQ.up;have O19:=qN (Z:=⟨l.prog,w,K,mg,base⟩) (k:=1) a19 T eQ.up;have O20:=xD (Z:=⟨l.prog,w,K,mg,base⟩) (k:=7) a20 T CK;exact OY (Z:=⟨l.prog,w,K,mg,base⟩) (k:=7) F hc (PySem.W.codeHd_of_K KB hC) (BB _ iN) T O13.up eQ.up O15.up O19.up O18.up O17.up O20 O11.up Y11.up
end K42
namespace PV
open PySem PySem.Spec PyProof.Rows L2 PX
@[simp] theorem Uw(d:D)(δ:Dn):fC d δ=some ((d,false),δ):=rfl
@[simp] theorem Ta(f:F)(δ:Dn):gq f δ=(f δ).bind fun p=>some (.val p.1,p.2):=rfl
@[simp] theorem RT(x:D×Bool)(δ:Dn):gn 0 (some x::δ)=some (.slot 0,some x::δ):=rfl
@[simp] theorem RS(a:Sl)(x:D×Bool)(δ:Dn):gn 1 (a::some x::δ)=some (.slot 1,a::some x::δ):=rfl
@[simp] theorem RQ(a b:Sl)(x:D×Bool)(δ:Dn):gn 2 (a::b::some x::δ)=some (.slot 2,a::b::some x::δ):=rfl
@[simp] theorem RP(a b c:Sl)(x:D×Bool)(δ:Dn):gn 3 (a::b::c::some x::δ)=some (.slot 3,a::b::c::some x::δ):=rfl
@[simp] theorem RO(a b c d:Sl)(x:D×Bool)(δ:Dn):gn 4 (a::b::c::d::some x::δ)=some (.slot 4,a::b::c::d::some x::δ):=rfl
@[simp] theorem RN(a b c d e:Sl)(x:D×Bool)(δ:Dn):gn 5 (a::b::c::d::e::some x::δ)=some (.slot 5,a::b::c::d::e::some x::δ):=rfl
@[simp] theorem RM(a b c d e f:Sl)(x:D×Bool)(δ:Dn):gn 6 (a::b::c::d::e::f::some x::δ)=some (.slot 6,a::b::c::d::e::f::some x::δ):=rfl
@[simp] theorem RL(a b c d e f g:Sl)(x:D×Bool)(δ:Dn):gn 7 (a::b::c::d::e::f::g::some x::δ)=some (.slot 7,a::b::c::d::e::f::g::some x::δ):=rfl
@[simp] theorem RK(a b c d e f g h:Sl)(x:D×Bool)(δ:Dn):gn 8 (a::b::c::d::e::f::g::h::some x::δ)=some (.slot 8,a::b::c::d::e::f::g::h::some x::δ):=rfl
@[simp] theorem SO(δ:Dn)(r:D×Bool):res δ (.val r)=some r.1:=rfl
@[simp] theorem S9(x:D×Bool)(δ:Dn):res (some x::δ) (.slot 0)=some x.1:=rfl
@[simp] theorem S8(a:Sl)(x:D×Bool)(δ:Dn):res (a::some x::δ) (.slot 1)=some x.1:=rfl
@[simp] theorem S6(a b:Sl)(x:D×Bool)(δ:Dn):res (a::b::some x::δ) (.slot 2)=some x.1:=rfl
@[simp] theorem S0(a b c:Sl)(x:D×Bool)(δ:Dn):res (a::b::c::some x::δ) (.slot 3)=some x.1:=rfl
@[simp] theorem SY(a b c d:Sl)(x:D×Bool)(δ:Dn):res (a::b::c::d::some x::δ) (.slot 4)=some x.1:=rfl
@[simp] theorem SW(a b c d e:Sl)(x:D×Bool)(δ:Dn):res (a::b::c::d::e::some x::δ) (.slot 5)=some x.1:=rfl
@[simp] theorem SV(a b c d e f:Sl)(x:D×Bool)(δ:Dn):res (a::b::c::d::e::f::some x::δ) (.slot 6)=some x.1:=rfl
@[simp] theorem SU(a b c d e f g:Sl)(x:D×Bool)(δ:Dn):res (a::b::c::d::e::f::g::some x::δ) (.slot 7)=some x.1:=rfl
@[simp] theorem SR(a b c d e f g h:Sl)(x:D×Bool)(δ:Dn):res (a::b::c::d::e::f::g::h::some x::δ) (.slot 8)=some x.1:=rfl
@[simp] theorem Tq(g:D->Option (D×Bool))(fa:FO)(δ:Dn):jQ g fa δ=(fa δ).bind fun p=>(res p.2 p.1).bind fun x=>(g x).bind fun z=>some (z,p.2):=rfl
@[simp] theorem Tp(g:D->D->Option (D×Bool))(fa fb:FO)(δ:Dn):gK g fa fb δ=(fa δ).bind fun p=>(fb p.2).bind fun q=>(res q.2 p.1).bind fun x=>(res q.2 q.1).bind fun y=>(g x y).bind fun z=>some (z,q.2):=rfl
@[simp] theorem QD(δ:Dn):ja [] δ=some ([],δ):=rfl
@[simp] theorem RX(f:FO)(fs:List FO)(δ:Dn):ja (f::fs) δ=(f δ).bind fun p=>(ja fs p.2).bind fun q=>some (p.1::q.1,q.2):=rfl
@[simp] theorem RI(δ:Dn):tH δ []=some []:=rfl
@[simp] theorem SQ(δ:Dn)(o:Opd)(os:List Opd):tH δ (o::os)=(res δ o).bind fun d=>(tH δ os).bind fun l=>some (d::l):=rfl
@[simp] theorem RW(g:List D->Option (D×Bool))(fs:List FO)(δ:Dn):ig g fs δ=(ja fs δ).bind fun p=>(tH p.2 p.1).bind fun ds=>(g ds).bind fun z=>some (z,p.2):=rfl
@[simp] theorem RH:mT []=some []:=rfl
@[simp] theorem SA(r:D×Bool)(os:List Opd):mT (.val r::os)=(mT os).map (r.1:: ·):=rfl
@[simp] theorem Tn(fs:List F)(δ:Dn):mZ fs δ=(ja (fs.map gq) δ).bind fun p=>(mT p.1).bind fun ds=>if ds.length<=sizeLine then some ((.tup ds,false),p.2) else none:=rfl
@[simp] theorem Je(fs:List F)(δ:Dn):jw fs δ=(ja (fs.map gq) δ).bind fun p=>(mT p.1).bind fun ds=>if ds.length<=sizeLine then some ((.lst ds,true),p.2) else none:=rfl
@[simp] theorem Ul(b o:Bool)(δ:Dn):asB ((.bl b,o),δ)=some (b,δ):=rfl
@[simp] theorem Uv(f:F)(δ:Dn):fT f δ=(f δ).bind asB:=rfl
@[simp] theorem RY(f g:FT)(δ:Dn):Rt f g δ=(f δ).bind fun p=>if p.1=true then g p.2 else some (false,p.2):=rfl
@[simp] theorem To(f g:FT)(δ:Dn):Cr f g δ=(f δ).bind fun p=>if p.1=true then some (true,p.2) else g p.2:=rfl
@[simp] theorem RU(f:FT)(δ:Dn):ma f δ=(f δ).bind fun p=>some (!p.1,p.2):=rfl
@[simp] theorem Tr(f g:F)(δ:Dn):EI f g δ=(f δ).bind fun p=>(asB p).bind fun q=>if q.1=true then g q.2 else some ((.bl false,false),q.2):=rfl
@[simp] theorem Uh(f g:F)(δ:Dn):fOr f g δ=(f δ).bind fun p=>(asB p).bind fun q=>if q.1=true then some ((.bl true,false),q.2) else g q.2:=rfl
@[simp] theorem N0(f:F)(δ:Dn):Cs f δ=(f δ).bind fun p=>(asB p).bind fun q=>some ((.bl (!q.1),false),q.2):=rfl
@[simp] theorem Ui(t:FT)(f g:F)(δ:Dn):fIf t f g δ=(t δ).bind fun p=>if p.1=true then f p.2 else g p.2:=rfl
@[simp] theorem SM(δ:Dn):hU δ=some (.nx δ):=rfl
def nxt(g:FS):Out->Option Out
 | .nx δ1=>g δ1
 |o=>some o
@[simp] theorem Te(g:FS)(δ:Dn):nxt g (.nx δ)=g δ:=rfl
@[simp] theorem Tb(g:FS)(r:D×Bool)(δ:Dn):nxt g (.rt r δ)=some (.rt r δ):=rfl
@[simp] theorem xj(f g:FS)(δ:Dn):gD f g δ=(f δ).bind (nxt g):=by
 unfold gD
 cases f δ with
 |none=>rfl
 |some o=>cases o<;>rfl
@[simp] theorem Fy(f:F)(δ:Dn):lA f δ=(f δ).bind fun p=>some (.nx p.2):=rfl
@[simp] theorem SJ(f:F)(δ:Dn):jG f δ=(f δ).bind fun p=>some (.rt p.1 p.2):=rfl
@[simp] theorem T9(t:FT)(f g:FS)(δ:Dn):sIf t f g δ=(t δ).bind fun p=>if p.1=true then f p.2 else g p.2:=rfl
@[simp] theorem SI(i:Nat)(f:F)(δ:Dn):jh i f δ=(f δ).bind fun p=>if i<p.2.length then some (.nx (p.2.set i (some p.1))) else none:=rfl
@[simp] theorem SH(tg:Tg)(f:F)(δ:Dn):Sw tg f δ=(f δ).bind fun p=>(tg p.1.1 p.2).bind fun δ1=>some (.nx δ1):=rfl
@[simp] theorem Uu(g:D->Option (D×Bool))(d:D):g1 g [d]=g d:=rfl
@[simp] theorem Ut(g:D->D->Option (D×Bool))(d e:D):g2 g [d,e]=g d e:=rfl
@[simp] theorem QH(i j:Int):kf (.int i) (.int j)=some (.int (i+j),false):=rfl
@[simp] theorem T8(i j:Int):PX.gSub (.int i) (.int j)=some (.int (i-j),false):=rfl
@[simp] theorem Ua(i:Int):pG (.int i)=some (.int (-i),false):=rfl
@[simp] theorem Um(i:Int):yT (.int i)=some (.int (if i<0 then -i else i),false):=rfl
@[simp] theorem Ti(l:List D):yb (.tup l)=some (.int l.length,false):=rfl
@[simp] theorem NY(l:List D):yb (.lst l)=some (.int l.length,false):=rfl
@[simp] theorem SF(l:List D):oU (.lst l)=some (.tup l,false):=rfl
@[simp] theorem SD(l:List D):oU (.tup l)=some (.tup l,false):=rfl
@[simp] theorem Tf(l:List D):F6 (.tup l)=some (.lst l,true):=rfl
@[simp] theorem Th(l:List D):F6 (.lst l)=some (.lst l,true):=rfl
@[simp] theorem NZ(b:Bool):EE (.bl b)=some (.int (if b then 1 else 0),false):=rfl
@[simp] theorem Tj(b:Int):EE (.int b)=some (.int b,false):=rfl
@[simp] theorem Ue(i j:Int):Kh (.int i) (.int j)=some (.int (if j>i then j else i),false):=rfl
@[simp] theorem Ud(i j:Int):Kg (.int i) (.int j)=some (.int (if j<i then j else i),false):=rfl
@[simp] theorem Ug(ts:List Ty)(d:D):AY ts d=some (.bl (ts.any (isT d)),false):=rfl
@[simp] theorem Uj(i j:Int):gEq (.int i) (.int j)=some (.bl (i==j),false):=by unfold gEq;rw[gz (by simp[D.dep])];simp[D.eqb]
@[simp] theorem Ub(i j:Int):gNe (.int i) (.int j)=some (.bl (!(i==j)),false):=by unfold gNe;rw[gz (by simp[D.dep])];simp[D.eqb]
@[simp] theorem Uk(i j:Bool):gEq (.bl i) (.bl j)=some (.bl (i==j),false):=by unfold gEq;rw[gz (by simp[D.dep])];simp[D.eqb]
@[simp] theorem Uc(i j:Bool):gNe (.bl i) (.bl j)=some (.bl (!(i==j)),false):=by unfold gNe;rw[gz (by simp[D.dep])];simp[D.eqb]
@[simp] theorem Uo(i j:Int):vb .Lt (.int i) (.int j)=some (.bl (decide (i<j)),false):=by simp[vb,lF,jr,D.dep]
@[simp] theorem Uq(i j:Int):vb .LtE (.int i) (.int j)=some (.bl (decide (i<=j)),false):=by simp[vb,lF,jr,D.dep]
@[simp] theorem Ur(i j:Int):vb .Gt (.int i) (.int j)=some (.bl (decide (i>j)),false):=by simp[vb,lF,jr,D.dep]
@[simp] theorem Us(i j:Int):vb .GtE (.int i) (.int j)=some (.bl (decide (i>=j)),false):=by simp[vb,lF,jr,D.dep]
@[simp] theorem AE(f:F)(δ:Dn):jT f δ=(f δ).bind fun p=>match p.1.1 with| .lst l=>some (l,p.2)| .tup l=>some (l,p.2)|_=>none:=rfl
@[simp] theorem SN(fi:FIt)(tg:Tg)(fb:FS)(δ:Dn):tE fi tg fb δ=(fi δ).bind fun p=>tV tg fb p.1 p.2:=rfl
@[simp] theorem AF(δ:Dn):kH δ=some (true,δ):=rfl
@[simp] theorem AG(f:F)(acc:List D)(δ:Dn):kJ f acc δ=(f δ).bind fun p=>if acc.length<sizeLine then some (acc++[p.1.1],p.2) else none:=rfl
theorem Lm(h:n<=10000):n<=sizeLine:=by rw[iZ];omega
theorem Ll(h:n<=10000):n<sizeLine:=by rw[iZ];omega
abbrev enc(t:ie):D×Bool:=(.tup (t.map .int),false)
abbrev stt(a:Int)(b:Bool):Sl:=some (.lst [.int a,.bl b],true)
abbrev lsi(l:ie):Sl:=some (.lst (l.map .int),true)
@[simp] theorem Lu(ev:EvF)(fs:List FO)(δ:Dn):gB ev fs δ=(ja fs δ).bind fun p=>(iR p.2 p.1).bind fun args=>if(gP p.1 args).Nodup then(ev args).bind fun q=>some (q.1,wb p.1 args q.2 p.2) else none:=rfl
@[simp] theorem GL(δ:Dn):iR δ []=some []:=rfl
@[simp] theorem QE(δ:Dn)(o:Opd)(os:List Opd):iR δ (o::os)=(uk δ o).bind fun a=>(iR δ os).bind fun l=>some (a::l):=rfl
@[simp] theorem Tt(δ:Dn)(r:D×Bool):uk δ (.val r)=some (r.1,false):=rfl
@[simp] theorem Tu(δ:Dn)(i:Nat):uk δ (.slot i)=(δ[i]?).join:=rfl
theorem qr(a:Int)(b:Bool)(m:Int)(hm:0<m)(bI:m<1073741824):
  ∃v a',0<=v/\v<m/\gF [(.lst [.int a,.bl b],true),(.int m,false)]=some ((.int v,false),[some (.lst [.int a',.bl b],true),some (.int m,false)]):=by
 cases b
 ·have h1: ∀x:Int, -18446744073709551616<x%2147483647/\x%2147483647<18446744073709551616:=fun x=>by omega
  have h2: ∀x:Int, -18446744073709551616<x%2147483629/\x%2147483629<18446744073709551616:=fun x=>by omega
  simp only[gF,nQ];simp[evF,gIx,atI,ixN,yS,gI,Ki,ya,va,uT,qA,hE,gP,wb,HA,vP,CMul,hm,bI,h1,h2];exact⟨C3 _ (by omega),C4 _ hm⟩
 ·simp only[gF,nQ];simp[evF,gIx,atI,ixN,yS,gI,Ki,ya,va,uT,qA,hE,gP,wb,HA,vP,CMul,hm,bI];exact⟨C3 _ (by omega),C4 _ hm⟩
theorem Gp(x y:Int):(x==y)=decide (x=y):=rfl
theorem ng{g:List D->Option (D×Bool)}{fs:List FO}{δ δ':Dn}{os:List Opd}{ds:List D}{z:D×Bool}(h1:ja fs δ=some (os,δ'))(h2:tH δ' os=some ds)(h3:g ds=some z):ig g fs δ=some (z,δ'):=by
 unfold ig;rw[h1];simp only[jb];rw[h2];simp only[jb];rw[h3];rfl
theorem oY(h1:args.length=np/\np<=n/\(args.zipIdx.all fun p=>!(p.1.2&&asg.contains p.2))=true)(h2:f (args.map some++List.replicate (n-np) none)=some (.rt r δ)):evF n np asg f args=some (r,hE args δ):=by
 unfold evF;rw[gz h1,h2]
theorem gO(h:f δ=some (.nx δ1)):gD f g δ=g δ1:=by unfold gD;rw[h];rfl
theorem lU{r}(h:f δ=some (.rt r δ1)):gD f g δ=some (.rt r δ1):=by unfold gD;rw[h];rfl
theorem nH{r}(h:f δ=some (r,δ1)):jG f δ=some (.rt r δ1):=by unfold jG;rw[h];rfl
theorem kx{r}(h:f δ=some (r,δ1))(hi:i<δ1.length):jh i f δ=some (.nx (δ1.set i (some r))):=by unfold jh;rw[h];simp only[jb];rw[gz hi]
theorem tY(h:f δ=some ((.bl b,o),δ1)):fT f δ=some (b,δ1):=by unfold fT;rw[h];rfl
theorem gX{r}(h:f δ=some (r,δ1)):gq f δ=some (.val r,δ1):=by unfold gq;rw[h];rfl
theorem jI(h1:fa δ=some (o1,δ1))(h2:fb δ1=some (o2,δ2))(h3:res δ2 o1=some x)(h4:res δ2 o2=some y)(h5:g x y=some z):gK g fa fb δ=some (z,δ2):=by
 unfold gK;rw[h1];simp only[jb];rw[h2];simp only[jb];rw[h3,h4];simp only[jb];rw[h5];rfl
theorem ko{ev:EvF}{fs:List FO}{δ δ1:Dn}{os:List Opd}{args:List (D×Bool)}{r:D×Bool}{outs:Dn}(h1:ja fs δ=some (os,δ1))(h2:iR δ1 os=some args)(h3:(gP os args).Nodup)(h4:ev args=some (r,outs)):gB ev fs δ=some (r,wb os args outs δ1):=by
 unfold gB;rw[h1];simp only[jb];rw[h2];simp only[jb];rw[gz h3,h4];rfl
theorem Pw(h:f δ=some (false,δ1)):Cr f g δ=g δ1:=by unfold Cr;rw[h];rfl
theorem ua(h:f δ=some (b,δ1)):ma f δ=some (!b,δ1):=by unfold ma;rw[h];rfl
theorem xg(h:t δ=some (false,δ1)):sIf t f g δ=g δ1:=by unfold sIf;rw[h];rfl
theorem Fu(h:t δ=some (true,δ1)):sIf t f g δ=f δ1:=by unfold sIf;rw[h];rfl
theorem ni{fa fb:FO}{δ δ1 δ2:Dn}{o1 o2:Opd}(h1:fa δ=some (o1,δ1))(h2:fb δ1=some (o2,δ2)):ja [fa,fb] δ=some ([o1,o2],δ2):=by
 simp only[ja];rw[h1];simp only[jb];rw[h2];rfl
theorem sh{fa:FO}{δ δ1:Dn}{o1:Opd}(h1:fa δ=some (o1,δ1)):ja [fa] δ=some ([o1],δ1):=by
 simp only[ja];rw[h1];rfl
theorem oO(h:fi δ=some (ds,δ1)):tE fi tg fb δ=tV tg fb ds δ1:=by unfold tE;rw[h];rfl
theorem nh{os}(h1:fa δ=some (o1,δ1))(h2:ja fs δ1=some (os,δ2)):ja (fa::fs) δ=some (o1::os,δ2):=by
 simp only[ja];rw[h1];simp only[jb];rw[h2];rfl
theorem MC{fs:List F}{δ δ1:Dn}{os:List Opd}{ds:List D}(h1:ja (fs.map gq) δ=some (os,δ1))(h2:mT os=some ds)(h3:ds.length<=sizeLine):jw fs δ=some ((.lst ds,true),δ1):=by
 unfold jw;rw[h1];simp only[jb];rw[h2];simp only[jb];rw[gz h3]
theorem MJ(ns:ie)(k:Nat): ∃c,kr [(.lst (ns.map .int),false),(.int k,false)]=some ((.int c,false),[some (.lst (ns.map .int),false),some (.int k,false)]):=by
 by_cases hk:k<ns.length
 ·refine⟨ns[k],?_⟩;simp[kr,lD,evF,gIx,atI,ixN,hE,hk]
 ·refine⟨0,?_⟩;simp[kr,lD,evF,hE,hk]
theorem Nd:va (.int 10) (.int 18)=some (.int 1000000000000000000,false):=by
 have:vP 10 18:=by unfold vP;decide+kernel
 show((if vP 10 18 then some (D.int (10^(18:Int).toNat)) else none).map fun z=>(z,false))=_;rw[gz this];rfl
theorem Jv:va (.int 10) (.int 29)=some (.int 100000000000000000000000000000,false):=by
 have:vP 10 29:=by unfold vP;decide+kernel
 show((if vP 10 29 then some (D.int (10^(29:Int).toNat)) else none).map fun z=>(z,false))=_;rw[gz this];rfl
theorem IS(ns:ie)(k:Nat): ∃a b,kA [(.lst (ns.map .int),false),(.int k,false)]=some ((.lst [.int a,.bl b],true),[some (.lst (ns.map .int),false),some (.int k,false)]):=by
 obtain⟨c,hc⟩:=MJ ns k;by_cases h:c>=1000000000000000000
 ·refine⟨c-1000000000000000000,true,?_⟩;simp[kA,mG,evF,hc,gP,wb,Nd,h,iZ,hE]
 ·refine⟨c%2147483647,false,?_⟩;simp[kA,mG,evF,hc,gP,wb,Nd,h,iZ,hE,yS,gI]
def st(n:Nat):List Int:=(List.range n).map fun(k:Nat)=>(1+(k:Int))
theorem Av(n:Nat):(st n).map D.int=iH 1 n:=by simp[st,iH]
def kW:Nat->List Int->List Int->List (List Int)
 |0,_,f=>[f]
 |k+1,r,f=>(List.range r.length).flatMap fun v=>kW k (r.eraseIdx v) (f++[r.getD v 0*1])++kW k (r.eraseIdx v) (f++[r.getD v 0* -1])
theorem zF(f:Int->D): ∀(l:ie) (k:Nat),(l.map f).eraseIdx k=(l.eraseIdx k).map f
 |[],k=>by simp
 |x::l,0=>by simp
 |x::l,k+1=>by simp[zF f l k]
theorem Hm{i:Nat}{f:FO}{δ δ1:Dn}{o:Opd}{l0 l:List D}{k:Int}{j:Nat}{d:D}(h0:δ[i]?=some (some (.lst l0,true)))(h1:f δ=some (o,δ1))(h2:res δ1 o=some (.int k))(h3:δ1[i]?=some (some (.lst l,true)))(h4: -(2^63)<=k/\k<2^63)(h5:ixN l.length k=some j)(h6:l[j]?=some d):
  sf i f δ=some ((d,false),δ1.set i (some (.lst (l.eraseIdx j),true))):=by
 unfold sf;rw[h0];simp only[];rw[h1];simp only[jb];rw[h2,h3];simp only[];rw[gz h4,h5];simp only[jb];rw[h6];rfl
theorem yn{i:Nat}{f:F}{δ δ1:Dn}{r:D×Bool}{l0 l:List D}(h0:δ[i]?=some (some (.lst l0,true)))(h1:f δ=some (r,δ1))(h3:δ1[i]?=some (some (.lst l,true)))(h4:l.length<sizeLine):
  lW i f δ=some ((.non,false),δ1.set i (some (.lst (l++[r.1]),true))):=by
 unfold lW;rw[h0];simp only[];rw[h1];simp only[jb];rw[h3];simp only[];rw[gz h4]
theorem oB{r}(h:f δ=some (r,δ1)):lA f δ=some (.nx δ1):=by unfold lA;rw[h];rfl
abbrev fPop:F:=(sf 2 (gq (gB gF [(gn 0),(gq (ig (g1 yb) [(gn 2)]))])))
abbrev Rr:F:=(gK gIx (gq (jw [(fC (.int 1)),(jQ pG (gq (fC (.int 1))))])) (gq (gB gF [(gn 0),(gq (fC (.int 2)))])))
abbrev fbT:FS:=(gD (lA (lW 3 (gK ya (gq fPop) (gq Rr)))) hU)
theorem OC(a:Int)(b:Bool)(n:Sl)(r f:ie)(x:Sl)(h0:0<r.length)(h5:r.length<=5): ∃v a',v<r.length/\fPop [stt a b,n,lsi r,lsi f,x]=some ((.int (r.getD v 0),false),[stt a' b,n,lsi (r.eraseIdx v),lsi f,x]):=by
 obtain⟨v,a',eB,hv,e⟩:=qr a b r.length (by omega) (by omega);have hn:v.toNat<r.length:=by omega
 refine⟨v.toNat,a',hn,?_⟩;have e1:(lsi (r.eraseIdx v.toNat):Sl)=some (.lst ((r.map D.int).eraseIdx v.toNat),true):=by rw[zF]
 rw[e1];refine Hm (k:=v) (δ1:=[stt a' b,n,lsi r,lsi f,x]) rfl (gX (r:=(.int v,false)) (ko (δ1:=[stt a b,n,lsi r,lsi f,x]) (os:=[.slot 0,.val (.int r.length,false)]) (args:=[(.lst [.int a,.bl b],true),(.int r.length,false)]) ?_ rfl (show([0]:List Nat).Nodup from by decide) e)) rfl rfl ⟨by omega,by omega⟩ (j:=v.toNat) ?_ ?_
 ·show some ([Opd.slot 0,Opd.val (D.int ((r.map D.int).length:Nat),false)],_)=_;rw[jk]
 ·unfold ixN;rw[gz eB,gz (by simpa using hv)]
 ·simp[hn]
theorem NS(a:Int)(b:Bool)(n y z x:Sl): ∃s a',(s=1\/s= -1)/\Rr [stt a b,n,y,z,x]=some ((.int s,false),[stt a' b,n,y,z,x]):=by
 obtain⟨v,a',eB,hv,e⟩:=qr a b 2 (by omega) (by omega);have hl: ∀δ:Dn,jw [(fC (.int 1)),(jQ pG (gq (fC (.int 1))))] δ=some ((.lst [.int 1,.int (-1)],true),δ):=fun δ=>rfl;refine⟨if v=0 then 1 else -1,a',by split<;>simp,?_⟩;refine jI (δ1:=[stt a b,n,y,z,x]) (gX (hl _)) (gX (δ1:=[stt a' b,n,y,z,x]) (ko (δ1:=[stt a b,n,y,z,x]) (os:=[.slot 0,.val (.int 2,false)]) (args:=[(.lst [.int a,.bl b],true),(.int 2,false)]) rfl rfl (show([0]:List Nat).Nodup from by decide) e)) rfl rfl ?_;rcases(show v=0\/v=1 by omega) with rfl|rfl<;>rfl
theorem Pq(a:Int)(b:Bool)(n:Sl)(r f:ie)(x:Sl)(h0:0<r.length)(h5:r.length<=5)(hf:f.length<=5): ∃v s a',v<r.length/\(s=1\/s= -1)/\fbT [stt a b,n,lsi r,lsi f,x]=some (.nx [stt a' b,n,lsi (r.eraseIdx v),lsi (f++[r.getD v 0*s]),x]):=by
 obtain⟨v,a1,hv,e1⟩:=OC a b n r f x h0 h5;obtain⟨s,a2,hs,e2⟩:=NS a1 b n (lsi (r.eraseIdx v)) (lsi f) x;refine⟨v,s,a2,hv,hs,?_⟩
 have hm:ya (.int (r.getD v 0)) (.int s)=some (.int (r.getD v 0*s),false):=by
  have:CMul (r.getD v 0) s:= .inr (by omega);show((if CMul (r.getD v 0) s then some (D.int (r.getD v 0*s)) else none).map fun z=>(z,false))=_;rw[gz this];rfl
 have hl:(f.map D.int).length<sizeLine:=by rw[jk];exact wk hf (by decide)
 have e3:=yn (i:=3) (δ:=[stt a b,n,lsi r,lsi f,x]) (l0:=f.map .int) rfl (jI (gX e1) (gX e2) rfl rfl hm) (l:=f.map .int) rfl hl;refine(gO (oB e3)).trans ?_;simp[hU,lsi]
theorem Nk(b:Bool)(n:Sl): ∀(ds:List D) (a:Int) (r f:ie) (x:Sl),ds.length=r.length->f.length+r.length<=5->
  ∃a' t r' x',t∈kW ds.length r f/\tV (gW 4) fbT ds [stt a b,n,lsi r,lsi f,x]=some (.nx [stt a' b,n,lsi r',lsi t,x'])
 |[],a,r,f,x,_,_=>⟨a,f,r,x,by simp[kW],rfl⟩
 |d::ds,a,r,f,x,h,hl=>by
  simp only[jq] at h;obtain⟨v,s,a1,hv,hs,e⟩:=Pq a b n r f (some (d,false)) (by omega) (by omega) (by omega);obtain⟨a',t,r',x',ht,e'⟩:=Nk b n ds a1 (r.eraseIdx v) (f++[r.getD v 0*s]) (some (d,false)) (by rw[wd,gz hv];omega) (by rw[wd,gz hv,mz];simp only[jq,pM];omega);refine⟨a',t,r',x',?_,?_⟩
  ·simp only[jq,kW,List.mem_flatMap,nu,sQ];refine⟨v,hv,?_⟩;rcases hs with rfl|rfl
   ·exact .inl ht
   ·exact .inr ht
  ·unfold tV;rw[show gW 4 d [stt a b,n,lsi r,lsi f,x]=some [stt a b,n,lsi r,lsi f,some (d,false)] from rfl];simp only[jb];rw[e];simp only[jb];exact e'
theorem IZ(n:Nat)(hn:n<=5):gRg .lst true [.int 1,.int ((n:Int)+1)]=some (.lst ((st n).map .int),true):=by
 have:n=0\/n=1\/n=2\/n=3\/n=4\/n=5:=by omega
 have h1:RgOk 1 ((n:Int)+1):=by rcases this with rfl|rfl|rfl|rfl|rfl|rfl<;>decide+kernel
 have h2:((n:Int)+1-1).toNat=n:=by omega
 show(if RgOk 1 ((n:Int)+1) then some (D.lst (iH 1 ((n:Int)+1-1).toNat),true) else none)=_;rw[gz h1,h2,<-Av]
theorem AQ{f:FO}{δ δ1:Dn}{o:Opd}{n:Nat}(h1:f δ=some (o,δ1))(h2:res δ1 o=some (.int n))(hn:n<=63):AR f δ=some (iH 0 n,δ1):=by
 have hb:(-(2^62)<=(n:Int)/\(n:Int)<2^62):=⟨by omega,by omega⟩
 have h3:ja [f] δ=some ([o],δ1):=by simp[ja,h1]
 have h4:tH δ1 [o]=some [.int n]:=by simp[tH,h2]
 unfold AR;rw[h3];simp only[jb];rw[h4];simp only[];rw[gz hb];rfl
theorem wU(a:Int)(b:Bool)(n:Nat)(hn:n<=5): ∃a' t,t∈kW n (st n) []/\iF [(.lst [.int a,.bl b],true),(.int n,false)]=some (enc t,[stt a' b,some (.int n,false)]):=by
 have hlen:(iH 0 n).length=n:=by simp[iH]
 have u9:(st n).length=n:=by simp[st]
 obtain⟨a',t,r',x',ht,e⟩:=Nk b (some (.int n,false)) (iH 0 n) a (st n) [] none (by rw[hlen,u9]) (by rw[u9];simpa using hn);rw[hlen] at ht;refine⟨a',t,ht,?_⟩;refine oY (δ:=[stt a' b,some (.int n,false),lsi r',lsi t,x']) ⟨rfl,by decide,rfl⟩ ?_;refine(gO (δ1:=[stt a b,some (.int n,false),lsi (st n),none,none]) (kx (i:=2) (δ1:=[stt a b,some (.int n,false),none,none,none]) (ng (os:=[.val (.int 1,false),.val (.int ((n:Int)+1),false)]) rfl rfl (IZ n hn)) (show 2<5 by decide))).trans ?_;refine(gO (δ1:=[stt a b,some (.int n,false),lsi (st n),lsi [],none]) rfl).trans ?_;refine(gO ((oO (AQ (o:= .slot 1) rfl rfl (by omega))).trans e)).trans ?_;exact lU (nH (ng (os:=[.slot 3]) rfl rfl rfl))
theorem uV: ∀(k:Nat) (r f t:ie),r.length=k->t∈kW k r f->t.length=f.length+k
 |0,r,f,t,_,h=>by simp[kW] at h;subst h;simp
 |k+1,r,f,t,hr,h=>by
  simp only[kW,List.mem_flatMap,nu,sQ] at h;obtain⟨v,hv,h⟩:=h;have hl:(r.eraseIdx v).length=k:=by rw[wd,gz hv];omega
  rcases h with h|h
  ·have:=uV k _ _ t hl h;simp at this;omega
  ·have:=uV k _ _ t hl h;simp at this;omega
theorem IF{n:Nat}{t:ie}(h:t∈kW n (st n) []):t.length=n:=by
 have:=uV n (st n) [] t (by simp[st]) h;simpa using this
theorem uc: ∀t:List Int,D.depL (t.map .int)=0
 |[]=>by simp[D.depL]
 |s::t=>by simp[D.depL,D.dep,uc t]
theorem yo: ∀a b:List Int,D.eqbL (a.map .int) (b.map .int)=decide (a=b)
 |[],[]=>by simp[D.eqbL]
 |[],_::_=>by simp[D.eqbL]
 |_::_,[]=>by simp[D.eqbL]
 |x::a,y::b=>by simp[D.eqbL,D.eqb,yo a b,Bool.decide_and,Gp]
@[simp] theorem Hk(a b:ie):gEq (.lst (a.map .int)) (.lst (b.map .int))=some (.bl (decide (a=b)),false):=by unfold gEq;rw[gz (by simp[D.dep,uc])];simp[D.eqb,yo]
theorem FX: ∀(l m:ie),l.Nodup->(∀x∈l,x∈m)->m.length<=l.length->l.Perm m
 |[],m,_,_,h=>by
  have:m=[]:=MU.mp (by simpa using h);subst this;exact vn _
 |x::l,m,nd,hs,h=>by
  rw[Bg] at nd;have hx:=hs x iN;have hp:=HD hx;refine((FX l (m.erase x) nd.2 (fun y hy=>?_) ?_).cons x).trans hp.symm
  ·have eZ:=hs y (iK _ hy);have w9:y≠x:=fun e=>nd.1 (e▸hy);exact(CZ w9).mpr eZ
  ·have:=hp.length_eq;simp only[jq] at this h;omega
theorem NL:x∈st n↔1<=x/\x<=n:=by
 simp only[st,oI,sQ];constructor
 ·rintro⟨k,h,rfl⟩;omega
 ·rintro⟨h1,h2⟩;exact⟨(x-1).toNat,by omega,by omega⟩
theorem M9(n:Nat):(st n).Pairwise (· < ·):=by
 simp only[st];rw[List.pairwise_map];exact KY.imp fun h=>by omega
theorem Qr(n:Nat):(st n).Nodup:=(M9 n).imp fun h=>by omega
theorem JB{n:Nat}{l:ie}:l.Perm (st n)↔l.length=n/\(∀x∈l,1<=x/\x<=n)/\l.Nodup:=by
 constructor
 ·intro h;refine⟨by rw[h.length_eq];simp[st],fun x hx=>NL.mp (h.mem_iff.mp hx),h.symm.nodup (Qr n)⟩
 ·rintro⟨h1,h2,h3⟩;exact FX l (st n) h3 (fun x hx=>NL.mpr (h2 x hx)) (by simp[st,h1])
theorem NN(n:Nat):((st n).map D.int).Pairwise (fun a b=>ltT b a=false):=by
 rw[List.pairwise_map];refine(M9 n).imp fun {a b} h=>?_;have h1: ¬b<a:=by omega
 have h2: ¬b=a:=by omega
 rw[kX];simp[cT,h1,h2]
theorem Hw(h1:ltT (.int i) (.int j)=false)(h2:ltT (.int j) (.int i)=false):i=j:=by
 rw[kX] at h1 h2;simp only[cT] at h1 h2;by_cases a:i<j
 ·simp[a] at h1
 ·by_cases b:j<i
  ·simp[b] at h2
  ·omega
theorem IU{n:Nat}{l:ie}:lu ltT (l.map .int)=(st n).map .int↔l.Perm (st n):=by
 constructor
 ·intro h;have hp:=jd ltT (l.map D.int);rw[h] at hp;have:=(hp.map fun d=>match d with|D.int i=>i|_=>0)
  simp only[lG] at this;have e:((fun d=>match d with|D.int i=>i|_=>0)∘D.int)=id:=rfl;rw[e,qT,qT] at this;exact this.symm
 ·intro h;refine C9 (fun x y hx hy h1 h2=>?_) (qu _) (NN n) ((jd ltT _).trans (h.map _));obtain⟨i,_,rfl⟩:=oI.mp ((jd ltT (l.map D.int)).mem_iff.mp hx);obtain⟨j,_,rfl⟩:=oI.mp hy;rw[Hw h2 h1]
theorem AS{l:ie}{m:List D}(h:m.Perm (l.map D.int)): ∃k:List Int,m=k.map .int:=by
 refine⟨m.map fun d=>match d with|D.int i=>i|_=>0,?_⟩;rw[lG]
 symm
 rw[rK (g:=id),qT];intro d hd;obtain⟨i,_,rfl⟩:=oI.mp (h.mem_iff.mp hd);rfl
theorem BF(l:ie):lN (l.map .int)=true:=by
 unfold lN
 cases l with
 |nil=>rfl
 |cons x l=>
  rw[wj];right;simp only[iY];simp[jP,D.pr,D.dep,lF]
theorem AX(l:ie)(hl:l.length<64):nO (.lst (l.map .int))=some (.lst (lu ltT (l.map .int)),true):=by
 simp only[nO,BJ,jb,kb];rw[gz ⟨BF l,by first|(simpa using hl)|(rw[iZ];simp;omega)⟩]
theorem GC(l:ie)(n:Nat):gEq (.lst (lu ltT (l.map .int))) (.lst (iH 1 n))=some (.bl (decide (l.Perm (st n))),false):=by
 obtain⟨k,e⟩:=AS (jd ltT (l.map D.int));rw[<-Av,e,Hk]
 have:k=st n↔l.Perm (st n):=by
  rw[<-IU,e];constructor
  ·intro h;rw[h]
  ·intro h;have:=oj (List.map fun d=>match d with|D.int i=>i|_=>0) h;simp only[lG] at this;have e:((fun d=>match d with|D.int i=>i|_=>0)∘D.int)=id:=rfl;rw[e,qT,qT] at this;exact this
 simp only[this]
theorem zg: ∀l:List Int,(∀k,(lZ (l.reverse.map .int)).1 k=decide (k∈l.reverse))/\(lZ (l.reverse.map .int)).2<=l.length/\((lZ (l.reverse.map .int)).2=l.length↔l.Nodup)
 |[]=>⟨fun k=>by simp[lZ],by simp[lZ],by simp[lZ]⟩
 |x::l=>by
  obtain⟨h1,h2,h3⟩:=zg l;rw[wB,wm,iY,rR,zh];refine⟨fun k=>?_,?_,?_⟩
  ·dsimp only;rw[h1 k];by_cases a:k∈l.reverse<;>by_cases b:k=x<;>simp_all
  ·dsimp only;rw[jq];split<;>omega
  ·dsimp only;rw[h1 x,Bg];by_cases a:x∈l
   ·simp only[List.mem_reverse,a,decide_true,iA,not_true_eq_false,false_and,iff_false,jq];omega
   ·simp only[List.mem_reverse,a,decide_false,iJ,iX,not_false_eq_true,true_and,jq];rw[<-h3];omega
theorem Lo(l:ie):(lZ (l.map .int)).2=l.length↔l.Nodup:=by
 have:=(zg l.reverse).2.2;rw[List.reverse_reverse,C8,List.reverse_perm l |>.nodup_iff] at this;exact this
theorem As(pre:Dn)(x:Sl)(d:D):gW pre.length d (pre++[x])=some (pre++[some (d,false)]):=by
 unfold gW;rw[gz (by simp)];simp[List.set_append]
theorem A6(f:F)(g:D->D)(pre:Dn): ∀(l acc:List D) (x:Sl),(∀d∈l,∃o,f (pre++[some (d,false)])=some ((g d,o),pre++[some (d,false)]))->acc.length+l.length<=sizeLine->
  ∃x',kY (gW pre.length) kH (kJ f) l acc (pre++[x])=some (acc++l.map g,pre++[x'])
 |[],acc,x,_,_=>⟨x,by simp[kY]⟩
 |d::l,acc,x,h,hl=>by
  obtain⟨o,hd⟩:=h d iN;obtain⟨x',e⟩:=A6 f g pre l (acc++[g d]) (some (d,false)) (fun d' h'=>h d' (iK _ h')) (by simp at hl ⊢;omega);refine⟨x',?_⟩;have hs:acc.length<sizeLine:=by simp at hl;omega
  rw[kY,As];simp only[jb,AF,iA,AG];rw[hd];simp only[jb];rw[gz hs];simp only[jb];rw[e];simp
theorem KG(f:F)(g:D->Int)(pre:Dn): ∀(l acc:List D) (x:Sl),(∀d∈l,∃o,f (pre++[some (d,false)])=some ((.int (g d),o),pre++[some (d,false)]))->acc.length+l.length<=1000->
  ∃x',kY (gW pre.length) kH (yF f) l acc (pre++[x])=some (acc++l.map fun d=> .int (g d),pre++[x'])
 |[],acc,x,_,_=>⟨x,by simp[kY]⟩
 |d::l,acc,x,h,hl=>by
  obtain⟨o,hd⟩:=h d iN;obtain⟨x',e⟩:=KG f g pre l (acc++[.int (g d)]) (some (d,false)) (fun d' h'=>h d' (iK _ h')) (by simp at hl ⊢;omega);refine⟨x',?_⟩;have hb:scanBound=4096:=rfl;have hs:acc.length+1<scanBound:=by simp at hl;omega
  rw[kY,As];simp only[jb,AF,iA,yF];rw[hd];simp only[jb];rw[gz hs];simp only[jb];rw[e];simp
theorem zO(p:D->Bool): ∀l:List D,nU (l.map fun d=> .bl (p d))=some (l.map p)
 |[]=>rfl
 |d::l=>by simp[nU,zO p l]
theorem vG(p:D->Bool)(l:List D):Hl (.lst (l.map fun d=> .bl (p d)))=some (.bl (l.all p),false):=by
 simp[Hl,zO,List.all_map,Function.comp_def]
def ab(s:Int):Int:=if s<0 then -s else s
def wh:D->Bool
 | .int _=>true
 |_=>false
def sg(n:Int):D->Bool
 | .int s=>decide (1<=ab s)&&decide (ab s<=n)
 |_=>false
def iOf:D->Int
 | .int s=>s
 |_=>0
theorem sU(d:D):mf [(d,false)]=some ((.bl (wh d),false),[some (d,false)]):=by
 cases d<;>simp[mf,qe,evF,hE,wh,isT]
theorem G9(d:D):iU [(d,false)]=some ((.bl (wh d),false),[some (d,false)]):=by
 cases d<;>simp[iU,lO,evF,hE,wh,isT]
theorem zp(d:D)(lo hi:Int):jA [(d,false),(.int lo,false),(.int hi,false)]=some ((.bl (match d with| .int s=>decide (lo<=s)&&decide (s<=hi)|_=>false),false),[some (d,false),some (.int lo,false),some (.int hi,false)]):=by
 cases d with
 |int s=>by_cases h:lo<=s<;>simp[jA,mH,evF,hE,sU,wh,gP,wb,vf,jr,h]
 |_=>simp[jA,mH,evF,hE,sU,wh,gP,wb]
theorem FY(d:D)(n:Int):oX [(.int n,false),(d,false)]=some ((.bl (match d with| .int s=>decide (1<=s)&&decide (s<=n)|_=>false),false),[some (.int n,false),some (d,false)]):=by
 simp[oX,se,evF,hE,zp,gP,wb]
theorem Ln(n:Int)(d:D):lQ [(.int n,false),(d,false)]=some ((.bl (sg n d),false),[some (.int n,false),some (d,false)]):=by
 cases d with
 |int s=>
  simp[lQ,oV,evF,hE,sU,FY,wh,gP,wb,sg,ab];rfl
 |_=>simp[lQ,oV,evF,hE,sU,FY,wh,gP,wb,sg,ab]
theorem DT(h:sg n d=true):d= .int (iOf d):=by cases d<;>simp_all [sg,iOf]
theorem DM(h:wh d=true):d= .int (iOf d):=by cases d<;>simp_all [wh,iOf]
def tB(n:Nat):D->Bool
 | .tup l=>decide (l.length=n)&&(l.all (sg n)&&decide ((l.map fun d=>ab (iOf d)).Nodup))
 |_=>false
def lB(n:Nat):D->Bool
 | .tup l=>l.all wh&&decide ((l.map fun d=>ab (iOf d)).Perm (st n))
 |_=>false
theorem Fn(n:Nat)(d:D):tB n d=lB n d:=by
 cases d with
 |tup l=>
  rw[tB,lB,Bool.eq_iff_iff];simp only[jY,pK,kZ,JB,jk,oI];constructor
  ·rintro⟨h1,h2,h3⟩;refine⟨fun d hd=>?_,h1,?_,h3⟩
   ·rw[DT (h2 d hd)];rfl
   ·rintro x ⟨d,hd,rfl⟩;have:=h2 d hd;rw[DT this] at this;simpa[sg] using this
  ·rintro⟨h1,h2,h3,h4⟩;refine⟨h2,fun d hd=>?_,h4⟩;have:=h3 _ ⟨d,hd,rfl⟩;rw[DM (h1 d hd)];simpa[sg] using this
 |_=>rfl
theorem pW(n:Nat)(d:D)(hd: ∀l,d= .tup l->l.length<=60):iG [(.int n,false),(d,false)]=some ((.bl (tB n d),false),[some (.int n,false),some (d,false)]):=by
 cases d with
 |tup l=>
  have hl:=hd l rfl;by_cases h1:l.length=n
  ·obtain⟨x1,e1⟩:=A6 (gB lQ [gn 0,gn 1]) (fun d=> .bl (sg n d)) [some (.int n,false)] l [] none (fun d _=>⟨false,by simp[Ln,gP,wb]⟩) (by rw[iZ];simp;omega);simp only[um,qU,jq,pM,Nat.zero_add] at e1;by_cases h2:l.all (sg n)=true
   ·have hi: ∀d∈l,∃o,ig (g1 yT) [gn 0] ([]++[some (d,false)])=some ((.int (ab (iOf d)),o),([]++[some (d,false)]:Dn)):=fun d hd=>⟨false,by
     rw[kZ] at h2;rw[DT (h2 d hd)];rfl⟩
    obtain⟨x2,e2⟩:=KG (ig (g1 yT) [gn 0]) (fun d=>ab (iOf d)) [] l [] none hi (by simp;omega);simp only[um,qU,jq,pM] at e2
    have e3:(lZ (l.map fun d=>D.int (ab (iOf d)))).2=l.length↔(l.map fun d=>ab (iOf d)).Nodup:=by
     have:=Lo (l.map fun d=>ab (iOf d));rw[lG,jk] at this;exact this
    have e4:(((lZ (l.map fun d=>D.int (ab (iOf d)))).2:Int)==(n:Int))=decide ((l.map fun d=>ab (iOf d)).Nodup):=by
     rw[Gp,<-h1];by_cases q:(l.map fun d=>ab (iOf d)).Nodup
     ·rw[Aj q,e3.mpr q];simp
     ·rw[sO q];simp only[decide_eq_false_iff_not,Int.natCast_inj];exact fun z=>q (e3.mp z)
    simp[iG,ke,evF,isT,h1,kj,qJ,js,e1,e2,vG,h2,hE,gP,wb,tB,e4]
   ·have cO:l.all (sg n)=false:=by simpa using h2
    simp[iG,ke,evF,isT,h1,kj,qJ,js,e1,vG,cO,hE,gP,wb,tB]
  ·have: ¬((l.length:Int)=(n:Int)):=by omega
   simp[iG,ke,evF,isT,this,h1,hE,gP,wb,tB]
 |_=>simp[iG,ke,evF,isT,hE,tB]
theorem Lq(n:Nat)(hn:n<=5):gRg .lst true [.int 1,.int ((n:Int)+1)]=some (.lst (iH 1 n),true):=by rw[IZ n hn,Av]
theorem vK(n:Nat)(hn:n<=5)(d:D)(hd: ∀l,d= .tup l->l.length<=60):iz [(.int n,false),(d,false)]=some ((.bl (lB n d),false),[some (.int n,false),some (d,false)]):=by
 cases d with
 |tup l=>
  have hl:=hd l rfl;obtain⟨x1,e1⟩:=A6 (gB iU [gn 0]) (fun d=> .bl (wh d)) [] l [] none (fun d _=>⟨false,by simp[G9,gP,wb]⟩) (by rw[iZ];simp;omega);simp only[um,qU,jq,pM,Nat.zero_add] at e1;by_cases h2:l.all wh=true
  ·have hi: ∀d∈l,∃o,ig (g1 yT) [gn 0] ([]++[some (d,false)])=some ((.int (ab (iOf d)),o),([]++[some (d,false)]:Dn)):=fun d hd=>⟨false,by
    rw[kZ] at h2;rw[DM (h2 d hd)];rfl⟩
   obtain⟨x2,e2⟩:=A6 (ig (g1 yT) [gn 0]) (fun d=> .int (ab (iOf d))) [] l [] none hi (by rw[iZ];simp;omega);simp only[um,qU,jq,pM] at e2;have e3:(l.map fun d=>D.int (ab (iOf d)))=(l.map fun d=>ab (iOf d)).map .int:=by rw[lG];rfl
   have e4:=AX (l.map fun d=>ab (iOf d)) (by simp;omega);have e5:=GC (l.map fun d=>ab (iOf d)) n;rw[<-e3] at e4 e5
   have c1:kj [] 1 (jT (js 1)) (gW 0) kH (kJ (gB iU [(gn 0)])) [some (.int n,false),some (.tup l,false)]=some ((.lst (l.map fun d=> .bl (wh d)),true),[some (.int n,false),some (.tup l,false)]):=by
    simp[kj,js,e1,gP,wb]
   have c2:kj [] 1 (jT (js 1)) (gW 0) kH (kJ (ig (g1 yT) [(gn 0)])) [some (.int n,false),some (.tup l,false)]=some ((.lst (l.map fun d=> .int (ab (iOf d))),true),[some (.int n,false),some (.tup l,false)]):=by
    simp only[kj,js,AE,List.getElem?_cons_succ,List.getElem?_cons_zero,jb,List.set_cons_succ,List.set_cons_zero,rR,GL,gP,rJ,iA,qU,List.replicate_succ,List.replicate_zero];rw[e2];rfl
   have c3:ig (g1 Hl) [(gq (kj [] 1 (jT (js 1)) (gW 0) kH (kJ (gB iU [(gn 0)]))))] [some (.int n,false),some (.tup l,false)]=some ((.bl true,false),[some (.int n,false),some (.tup l,false)]):=
    ng (sh (gX c1)) rfl ((vG wh l).trans (by rw[h2]))
   have hB:lB n (.tup l)=decide ((l.map fun d=>ab (iOf d)).Perm (st n)):=by rw[lB,h2,Bool.true_and]
   rw[hB];refine oY (δ:=[some (.int n,false),some (.tup l,false)]) ⟨rfl,by decide,rfl⟩ ?_;refine(gO (δ1:=[some (.int n,false),some (.tup l,false)]) ((xg (Pw (δ1:=[some (.int n,false),some (.tup l,false)]) rfl |>.trans (ua (tY c3)))).trans rfl)).trans ?_;exact lU (nH (jI (gX (ng (sh (gX c2)) rfl e4)) (gX (ng (os:=[.val (.int 1,false),.val (.int ((n:Int)+1),false)]) rfl rfl (Lq n hn))) rfl rfl e5))
  ·have cO:l.all wh=false:=by simpa using h2
   simp[iz,ki,evF,isT,kj,js,e1,vG,cO,hE,gP,wb,lB]
 |_=>simp[iz,ki,evF,isT,hE,lB]
def OkD(d:D):Prop:= ∀l,d= .tup l->l.length<=60
theorem ixl(h0:0<=v)(h:v<L.length):gIx (.lst L) (.int v)=some (L.getD v.toNat .non,false):=by
 have h1:v.toNat<L.length:=by omega
 simp[gIx,atI,ixN,h0,h,h1]
theorem ixi{t:ie}{v:Int}(h0:0<=v)(h:v<t.length):gIx (.tup (t.map .int)) (.int v)=some (.int (t.getD v.toNat 0),false):=by
 have h1:v.toNat<t.length:=by omega
 simp[gIx,atI,ixN,h0,h,h1]
theorem TN{t:ie}{v:Int}(h0:0<=v)(h:v<t.length):gIx (.lst (t.map .int)) (.int v)=some (.int (t.getD v.toNat 0),false):=by
 have h1:v.toNat<t.length:=by omega
 simp[gIx,atI,ixN,h0,h,h1]
theorem qj{P:D->Prop}{L:List D}(hn:P .non)(h: ∀d∈L,P d)(k:Nat):P (L.getD k .non):=by
 rw[qS]
 cases e:L[k]? with
 |none=>exact hn
 |some d=>exact h d (kF e)
theorem vW:OkD .non:=fun l h=>by cases h
theorem RC(h1:l.length<=1000)(h2:m.length<=1000):kf (.tup l) (.tup m)=some (.tup (l++m),false):=by
 simp only[kf];rw[gz (by rw[iZ];omega)]
theorem MQ(h1:l.length<=1000)(h2:m.length<=1000):kf (.lst l) (.lst m)=some (.lst (l++m),true):=by
 simp only[kf];rw[gz (by rw[iZ];omega)]
def Ek:List D:=[.non,.bl true,.bl false,.int (-1),.int 0,.int 1,.str "",.str "1",.tup [],.lst [],.tup [.bl true],.lst [.int 1],.oth .dct [.int 0] [.int 1],.tup [.non],.tup [.tup [.int 1]],.int 100000000000000000000000000000,.tup [.int 0],.tup [.int 1,.int 2]]
theorem G3: ∀d∈Ek,OkD d:=by
 intro d hd;simp only[Ek,lq,mP,pR] at hd;rcases hd with rfl|rfl|rfl|rfl|rfl|rfl|rfl|rfl|rfl|rfl|rfl|rfl|rfl|rfl|rfl|rfl|rfl|rfl<;>intro l h<;>cases h<;>decide
theorem qt(a:Int)(b:Bool)(m:Int)(hm:0<m)(bI:m<1073741824): ∃v a',0<=v/\v<m/\ ∀(fo:FO) (δ:Dn) (o:Opd),fo (stt a b::δ)=some (o,stt a b::δ)->uk (stt a b::δ) o=some (.int m,false)->gB gF [gn 0,fo] (stt a b::δ)=some ((.int v,false),stt a' b::δ):=by
 obtain⟨v,a',h0,h1,e⟩:=qr a b m hm bI;refine⟨v,a',h0,h1,fun fo δ o h2 h3=>?_⟩;refine(ko (os:=[.slot 0,o]) (args:=[(.lst [.int a,.bl b],true),(.int m,false)]) (ni rfl h2) ?_ ?_ e).trans ?_
 ·simp[h3]
 ·cases o<;>simp[gP]
 ·cases o<;>simp[wb]
theorem OZ(a:Int)(b:Bool): ∃a' d,OkD d/\oW [(.lst [.int a,.bl b],true)]=some ((d,false),[stt a' b]):=by
 obtain⟨v,a',h0,h1,e⟩:=qt a b 18 (by omega) (by omega);refine⟨a',Ek.getD v.toNat .non,qj vW G3 _,?_⟩;refine oY (δ:=[stt a' b,some (.lst (Ek.take 16),true)]) ⟨rfl,by decide,rfl⟩ ?_;refine(gO (δ1:=[stt a b,some (.lst (Ek.take 16),true)]) ?_).trans ?_
 ·simp[Jv,iZ,Gb,Ek]
 ·refine lU (nH (jI (o1:= .val (.lst Ek,true)) (o2:= .val (.int v,false)) (gX (δ1:=[stt a b,some (.lst (Ek.take 16),true)]) (jI (o1:= .slot 1) (o2:= .val (.lst [.tup [.int 0],.tup [.int 1,.int 2]],true)) rfl (gX ?_) rfl rfl ?_)) (gX (e _ _ _ rfl rfl)) rfl rfl (ixl h0 (by simpa[Ek] using h1))))
  ·simp[iZ]
  ·exact MQ (by decide) (by decide)
theorem nR(l:List D)(lo hi:Option Int):(mq l lo hi).length<=l.length:=by
 unfold PX.mq;rw[pk,rS];omega
def rH(t:ie)(i:Int)(x:D):List D:=
  [.tup (mq (t.map .int) none (some i)++[x]++mq (t.map .int) (some (i+1)) none),.tup (mq (t.map .int) none (some i)++[x]++mq (t.map .int) (some i) none),.lst (t.map .int),.tup [.tup (t.map .int)],
   .tup (mq (t.map .int) none (some i)++mq (t.map .int) (some (i+1)) none),.tup (t.map .int++[.int (t.length+1)]),.tup (t.map D.int).reverse,.tup (t.map .int++mq (t.map .int) none (some 1))]
theorem JQ(t:ie)(ht:t.length<=5)(i:Int)(x:D): ∀d∈rH t i x,OkD d:=by
 intro d hd;have hc: ∀lo hi,(mq (t.map D.int) lo hi).length<=5:=fun lo hi=>ll (nR _ _ _) (by simpa using ht);have c1:=hc none (some i);have c2:=hc (some (i+1)) none;have c3:=hc (some i) none;have c4:=hc none (some 1);simp only[rH,lq,mP,pR] at hd;rcases hd with rfl|rfl|rfl|rfl|rfl|rfl|rfl|rfl<;>intro l h<;>cases h<;>simp<;>omega
def b0L:List D:=[.tup [.int 0],.tup [.int 1],.lst [],.non,.tup [.tup []],.tup [.bl true]]
theorem OX: ∀d∈b0L,OkD d:=by
 intro d hd;simp only[b0L,lq,mP,pR] at hd;rcases hd with rfl|rfl|rfl|rfl|rfl|rfl<;>intro l h<;>cases h<;>decide
theorem ML(a:Int)(b:Bool)(t:ie)(ht:t.length<=5): ∃a' d,OkD d/\jJ [(.lst [.int a,.bl b],true),enc t]=some ((d,false),[stt a' b,some (enc t)]):=by
 by_cases hn:t.length=0
 ·have:t=[]:=MU.mp hn;subst this;obtain⟨v,a',h0,h1,e⟩:=qt a b 6 (by omega) (by omega);refine⟨a',b0L.getD v.toNat .non,qj vW OX _,?_⟩;refine oY (δ:=[stt a' b,some (enc []),some (.int 0,false),none,none,none,none]) ⟨rfl,by decide,rfl⟩ ?_;refine(gO (δ1:=[stt a b,some (enc []),some (.int 0,false),none,none,none,none]) rfl).trans ?_;refine lU ((Fu (δ1:=[stt a b,some (enc []),some (.int 0,false),none,none,none,none]) (by simp)).trans ?_);refine lU (nH (jI (o1:= .val (.lst b0L,true)) (o2:= .val (.int v,false)) (gX (δ1:=[stt a b,some (enc []),some (.int 0,false),none,none,none,none]) ?_) (gX (e _ _ _ rfl rfl)) rfl rfl (ixl h0 (by simpa[b0L] using h1))));simp[iZ,b0L]
 ·have hp:(0:Int)<t.length:=by omega
  obtain⟨i,a1,i0,i1,e1⟩:=qt a b t.length hp (by omega);obtain⟨j,a2,j0,j1,e2⟩:=qt a1 b t.length hp (by omega);obtain⟨w,a3,w0,w1,e3⟩:=qt a2 b 11 (by omega) (by omega);obtain⟨v,a4,v0,v1,e4⟩:=qt a3 b 10 (by omega) (by omega)
  let nL:List D:=[.int 0,.int (t.length+1),.int (-t.length-1),.bl true,.non,.str "1",.tup [.int 1],.int (t.getD j.toNat 0),.int (-(t.getD j.toNat 0)),.int (-(t.getD i.toNat 0)),.int 100000000000000000000000000000]
  let x:=nL.getD w.toNat .non
  let pL:List Int:=[0,0,0,1,2,3,4,5,6,7]
  let q:=pL.getD v.toNat 0
  have hq:0<=q/\q<8:=by
   have:v.toNat=0\/v.toNat=1\/v.toNat=2\/v.toNat=3\/v.toNat=4\/v.toNat=5\/v.toNat=6\/v.toNat=7\/v.toNat=8\/v.toNat=9:=by omega
   rcases this with h|h|h|h|h|h|h|h|h|h<;>simp[q,pL,h]
  have hc: ∀lo hi,(mq (t.map D.int) lo hi).length<=1000:=fun lo hi=>ll (nR _ _ _) (by simp;omega);have bh: ∀lo hi,(mq (t.map D.int) lo hi).length<=999:=fun lo hi=>ll (nR _ _ _) (by simp;omega);have eC:t.length<=1000:=by omega
  refine⟨a4,(rH t i x).getD q.toNat .non,qj vW (JQ t ht i x) _,?_⟩;refine oY (δ:=[stt a4 b,some (enc t),some (.int t.length,false),some (.int i,false),some (.int j,false),some (x,false),some (.lst (rH t i x),true)]) ⟨rfl,by decide,rfl⟩ ?_;refine(gO (δ1:=[stt a b,some (enc t),some (.int t.length,false),none,none,none,none]) (by simp)).trans ?_;refine(gO (δ1:=[stt a b,some (enc t),some (.int t.length,false),none,none,none,none]) ((xg (by simp[hn])).trans rfl)).trans ?_;refine(gO (δ1:=[stt a2 b,some (enc t),some (.int t.length,false),some (.int i,false),some (.int j,false),none,none]) ?_).trans ?_
  ·unfold Lp;simp only[iY,rR];rw[ni (gX (e1 _ _ _ rfl rfl)) (gX (e2 _ _ _ rfl rfl))];rfl
  refine(gO (δ1:=[stt a2 b,some (enc t),some (.int t.length,false),some (.int i,false),some (.int j,false),some (.lst nL,true),none]) ?_).trans ?_
  ·simp[ixi i0 i1,ixi j0 j1,Jv,iZ,nL]
  refine(gO (δ1:=[stt a3 b,some (enc t),some (.int t.length,false),some (.int i,false),some (.int j,false),some (x,false),none]) ?_).trans ?_
  ·exact kx (i:=5) (δ1:=[stt a3 b,some (enc t),some (.int t.length,false),some (.int i,false),some (.int j,false),some (.lst nL,true),none]) (jI (o1:= .slot 5) (o2:= .val (.int w,false)) rfl (gX (e3 _ [some (enc t),some (.int t.length,false),some (.int i,false),some (.int j,false),some (.lst nL,true),none] _ rfl rfl)) rfl rfl (ixl (L:=nL) w0 (by simpa[nL] using w1))) (show 5<7 by decide)
  refine(gO (δ1:=[stt a3 b,some (enc t),some (.int t.length,false),some (.int i,false),some (.int j,false),some (x,false),some (.lst ((rH t i x).take 4),true)]) ?_).trans ?_
  ·generalize x=y;simp[qf,rC,gSl,RC,hc,bh,eC,iZ,rH,js]
  refine(gO (δ1:=[stt a3 b,some (enc t),some (.int t.length,false),some (.int i,false),some (.int j,false),some (x,false),some (.lst (rH t i x),true)]) ?_).trans ?_
  ·generalize x=y;simp[qf,rC,gSl,RC,MQ,hc,bh,eC,iZ,rH,js,Ks,Rm]
  refine lU (nH (jI (o1:= .slot 6) (o2:= .val (.int q,false)) rfl (gX (jI (o1:= .val (.lst (pL.map .int),true)) (o2:= .val (.int v,false)) (gX (δ1:=[stt a3 b,some (enc t),some (.int t.length,false),some (.int i,false),some (.int j,false),some (x,false),some (.lst (rH t i x),true)]) ?_) (gX (e4 _ _ _ rfl rfl)) rfl rfl ?_)) rfl rfl (ixl hq.1 (by simpa[rH] using hq.2))))
  ·simp[iZ,pL]
  ·exact TN v0 (by simpa[pL] using v1)
def led(u:ie)(s:Int):Int:=if 0<s then u.getD (s-1).toNat 0 else -(u.getD (-s-1).toNat 0)
theorem Pa(u:ie)(s:Int)(h0:s≠0)(h1: -(u.length:Int)<=s)(h2:s<=u.length):
  md [enc u,(.int s,false)]=some ((.int (led u s),false),[some (enc u),some (.int s,false)]):=by
 simp only[md,qc];by_cases h:0<s
 ·have:=ixi (t:=u) (v:=s-1) (by omega) (by omega);simp only[evF];simp[h,led,this,hE]
 ·have:=ixi (t:=u) (v:= -s-1) (by omega) (by omega);simp only[evF];simp[h,led,this,hE]
theorem ot(a:Int)(b:Bool)(m:Int)(hm:0<m)(bI:m<1073741824): ∃v a',0<=v/\v<m/\ ∀(fo:FO) (c0 c1:Sl) (δ:Dn) (o:Opd),fo (c0::c1::stt a b::δ)=some (o,c0::c1::stt a b::δ)->uk (c0::c1::stt a b::δ) o=some (.int m,false)->gB gF [gn 2,fo] (c0::c1::stt a b::δ)=some ((.int v,false),c0::c1::stt a' b::δ):=by
 obtain⟨v,a',h0,h1,e⟩:=qr a b m hm bI;refine⟨v,a',h0,h1,fun fo c0 c1 δ o h2 h3=>?_⟩;refine(ko (os:=[.slot 2,o]) (args:=[(.lst [.int a,.bl b],true),(.int m,false)]) (ni rfl h2) ?_ ?_ e).trans ?_
 ·simp[h3]
 ·cases o<;>simp[gP]
 ·cases o<;>simp[wb]
theorem IG(a:Int)(b:Bool)(n:Nat)(hn:n<=5): ∃t a',t∈kW n (st n) []/\ ∀(fo:FO) (c0 c1:Sl) (δ0 δ:Dn) (o:Opd),fo δ0=some (o,c0::c1::stt a b::δ)->gn 2 δ0=some (.slot 2,δ0)->uk (c0::c1::stt a b::δ) o=some (.int n,false)->gB iF [gn 2,fo] δ0=some (enc t,c0::c1::stt a' b::δ):=by
 obtain⟨a',t,ht,e⟩:=wU a b n hn;refine⟨t,a',ht,fun fo c0 c1 δ0 δ o h2 h4 h3=>?_⟩;refine(ko (os:=[.slot 2,o]) (args:=[(.lst [.int a,.bl b],true),(.int n,false)]) (ni h4 h2) ?_ ?_ e).trans ?_
 ·simp[h3]
 ·cases o<;>simp[gP]
 ·cases o<;>simp[wb]
theorem He(h:f δ=some ((.lst l,o),δ1)):jT f δ=some (l,δ1):=by unfold jT;rw[h];rfl
theorem E9(h:0<=i):ab i=i:=by unfold ab;rw[gC (by omega)]
theorem KN(h:0<=i):ab (-i)=i:=by unfold ab;split<;>omega
theorem El{α:Type}[BEq α][LawfulBEq α]: ∀(l m:List α),l.Nodup->(∀x∈l,x∈m)->l.length<=m.length
 |[],m,_,_=>lI _
 |x::l,m,nd,hs=>by
  rw[Bg] at nd;have hx:=hs x iN;have hp:=HD hx
  have:=El l (m.erase x) nd.2 (fun y hy=>by
   have eZ:=hs y (iK _ hy);have w9:y≠x:=fun e=>nd.1 (e▸hy);exact(CZ w9).mpr eZ)
  have h2:=hp.length_eq;simp only[jq] at h2 ⊢;omega
theorem Hz(i:Int):ab (-i)=ab i:=by unfold ab;split<;>split<;>omega
theorem Hh{l:ie}{k:Nat}(h:k<l.length):l.getD k 0∈l:=by
 rw[qS,iM h];exact kl h
abbrev cD(c:ie):D:= .tup (c.map .int)
theorem PC(c:ie):D.dep (cD c)=1:=by simp[D.dep,uc]
theorem Py(a b:ie):D.eqb (cD a) (cD b)=decide (a=b):=by simp[D.eqb,yo]
theorem E5(c:ie): ∀cs:List (List Int),(cs.map cD).any (fun d=>D.eqb d (cD c))=decide (c∈cs)
 |[]=>by simp
 |x::cs=>by
  simp only[iY,List.any_cons,E5 c cs,Py,lq];by_cases h:x=c
  ·simp[h]
  ·have: ¬c=x:=fun e=>h e.symm;simp[h,this]
abbrev lsC(cs:mK):Sl:=some (.lst (cs.map cD),true)
def E8(vs:mK)(c:ie):List (List Int):=if c∈vs then vs else vs++[c]
def dd(cs:mK):List (List Int):=cs.foldl E8 []
theorem MP(vs:mK)(c:ie):Bb (vs.map cD) (cD c)=(E8 vs c).map cD:=by
 unfold Bb E8;rw[show(vs.map cD).any (D.eqb · (cD c))=decide (c∈vs) from E5 c vs];by_cases h:c∈vs<;>simp[h]
theorem MR(h:vs.Nodup):(E8 vs c).Nodup:=by
 unfold E8;split
 ·exact h
 ·rename_i hm;rw[List.nodup_append];exact⟨h,by simp,fun x hx y hy e=>by simp at hy;subst hy;subst e;exact hm hx⟩
theorem xm: ∀l:List Int,D.prL (l.map .int)=true
 |[]=>by simp[D.prL]
 |x::l=>by simp[D.prL,D.pr,xm l]
theorem Ej(c:ie):okS (cD c)=true:=by simp[okS,xm,uc]
theorem Ei(cs:mK):(cs.map cD).all okS=true:=by
 rw[kZ];intro d hd;obtain⟨c,_,rfl⟩:=oI.mp hd;exact Ej c
theorem zH(op:CmpOp): ∀a b:List Int,(pe op (a.map .int) (b.map .int)).isSome=true
 |[],b=>by simp[pe]
 |x::a,[]=>by simp[pe]
 |x::a,y::b=>by
  simp only[iY,pe];split
  ·exact zH op a b
  ·simp[lF]
theorem GG(cs:mK)(h: ∀c∈cs,c≠[]):lN (cs.map cD)=true:=by
 have hk: ∀c:List Int,c≠[]->jP (cD c)=some 1:=fun c hc=>by
  cases c with
  |nil=>exact absurd rfl hc
  |cons=>rfl
 unfold lN
 cases cs with
 |nil=>rfl
 |cons c cs=>
  rw[wj];right;simp only[iY];rw[jY,jY,hk c (h c iN)];refine⟨⟨rfl,?_⟩,?_⟩
  ·rw[kZ];intro d hd;rw[<-iY (f:=cD)] at hd;obtain⟨x,hx,rfl⟩:=oI.mp hd;rw[hk x (h x hx),PC];simp[D.pr,xm]
  ·rw[kZ];intro d hd;rw[kZ];intro e he;rw[<-iY (f:=cD)] at hd he;obtain⟨x,hx,rfl⟩:=oI.mp hd;obtain⟨y,hy,rfl⟩:=oI.mp he;simp only[lF];exact zH _ _ _
def unC:D->List Int
 | .tup l=>l.map iOf
 |_=>[]
theorem IE(c:ie):unC (cD c)=c:=by
 simp only[unC,lG];rw[rK (g:=id),qT];intro x _;rfl
abbrev ii(n:Int):Sl:=some (.int n,false)
abbrev frz(ds:List D):Dn:=ds.map fun d=>some (d,false)
theorem qa: ∀(os:List Opd) (ds:List D),gP os (ds.map fun d=>(d,false))=[]
 |[],_=>by simp[gP]
 |_::_,[]=>by simp[gP]
 |o::os,d::ds=>by cases o<;>simp[gP,qa os ds]
theorem Bp: ∀(os:List Opd) (ds:List D) (outs δ:Dn),wb os (ds.map fun d=>(d,false)) outs δ=δ
 |[],_,_,_=>by simp[wb]
 |_::_,[],_,_=>by simp[wb]
 |_::_,_::_,[],_=>by simp[wb]
 |o::os,d::ds,x::xs,δ=>by cases o<;>simp[wb,Bp os ds xs]
theorem PQ{f:F}{ti:FT}{g:D->D}{p:D->Bool}{pre:Dn}: ∀(l acc:List D) (x:Sl),(∀d∈l,ti (pre++[some (d,false)])=some (p d,pre++[some (d,false)])/\(p d=true-> ∃o,f (pre++[some (d,false)])=some ((g d,o),pre++[some (d,false)])))->acc.length+l.length<=sizeLine->
  ∃x',kY (gW pre.length) ti (kJ f) l acc (pre++[x])=some (acc++(l.filter p).map g,pre++[x'])
 |[],acc,x,_,_=>⟨x,by simp[kY]⟩
 |d::l,acc,x,h,hl=>by
  obtain⟨h1,h2⟩:=h d iN;have hs:acc.length<sizeLine:=by simp at hl;omega
  rw[kY,As];simp only[jb];rw[h1]
  cases hp:p d with
  |false=>
   obtain⟨x',e⟩:=PQ l acc (some (d,false)) (fun d' h'=>h d' (iK _ h')) (by simp at hl ⊢;omega);exact⟨x',by simp[e,hp]⟩
  |true=>
   obtain⟨o,hd⟩:=h2 hp;obtain⟨x',e⟩:=PQ l (acc++[g d]) (some (d,false)) (fun d' h'=>h d' (iK _ h')) (by simp at hl ⊢;omega);refine⟨x',?_⟩;simp only[jb,iA,AG];rw[hd];simp only[jb];rw[gz hs];simp only[jb];rw[e];simp[hp]
theorem PH{caps:hJ}{fi:FIt}{f:F}{ti:FT}{δ δ1:Dn}{l args:List D}(g:D->D)(p:D->Bool)(h1:fi δ=some (l,δ1))(h2:iR δ1 (caps.map .slot)=some (args.map fun d=>(d,false)))(hc:args.length=caps.length)
  (h: ∀d∈l,ti (frz args++[some (d,false)])=some (p d,frz args++[some (d,false)])/\(p d=true-> ∃o,f (frz args++[some (d,false)])=some ((g d,o),frz args++[some (d,false)])))(hl:l.length<=10000):
  kj caps 1 fi (gW caps.length) ti (kJ f) δ=some ((.lst ((l.filter p).map g),true),δ1):=by
 obtain⟨x',e⟩:=PQ (f:=f) (ti:=ti) (g:=g) (p:=p) (pre:=frz args) l [] none h (by rw[iZ];simp;omega);unfold kj;rw[h1];simp only[jb];rw[h2];simp only[jb,qa,rJ,iA,lG,Bp];rw[show gW caps.length=gW (frz args).length from by rw[jk,hc]];rw[show((args.map (some∘fun d=>(d,false)))++List.replicate 1 none:Dn)=frz args++[none] from rfl,e];simp
theorem PF{caps:hJ}{fi:FIt}{f:F}{δ δ1:Dn}{l args:List D}(g:D->D)(h1:fi δ=some (l,δ1))(h2:iR δ1 (caps.map .slot)=some (args.map fun d=>(d,false)))(hc:args.length=caps.length)
  (h: ∀d∈l,∃o,f (frz args++[some (d,false)])=some ((g d,o),frz args++[some (d,false)]))(hl:l.length<=10000):
  kj caps 1 fi (gW caps.length) kH (kJ f) δ=some ((.lst (l.map g),true),δ1):=by
 rw[PH g (fun _=>true) h1 h2 hc (fun d hd=>⟨rfl,fun _=>h d hd⟩) hl,List.filter_eq_self.mpr fun _ _=>rfl]
theorem tU{tg:Tg}{fb:FS}(I:List D->Dn->Prop)(step: ∀d ds δ,I (d::ds) δ-> ∃δ1 δ2,tg d δ=some δ1/\fb δ1=some (.nx δ2)/\I ds δ2): ∀(ds:List D) (δ:Dn),I ds δ-> ∃δ',I [] δ'/\tV tg fb ds δ=some (.nx δ')
 |[],δ,h=>⟨δ,h,rfl⟩
 |d::ds,δ,h=>by
  obtain⟨δ1,δ2,h1,h2,h3⟩:=step d ds δ h;obtain⟨δ',h4,h5⟩:=tU I step ds δ2 h3;refine⟨δ',h4,?_⟩;unfold tV;rw[h1];simp only[jb];rw[h2];exact h5
theorem KH{tg:Tg}{f:F}(I:List D->List D->Dn->Prop)(step: ∀d ds acc δ,I (d::ds) acc δ-> ∃δ1 r o δ2,tg d δ=some δ1/\f δ1=some ((r,o),δ2)/\acc.length<=10000/\I ds (acc++[r]) δ2): ∀(ds acc:List D) (δ:Dn),I ds acc δ-> ∃k7 δ',I [] k7 δ'/\kY tg kH (kJ f) ds acc δ=some (k7,δ')
 |[],acc,δ,h=>⟨acc,δ,h,rfl⟩
 |d::ds,acc,δ,h=>by
  obtain⟨δ1,r,o,δ2,h1,h2,hs,h3⟩:=step d ds acc δ h;obtain⟨k7,δ',h4,h5⟩:=KH I step ds _ δ2 h3;refine⟨k7,δ',h4,?_⟩;unfold kY;rw[h1];simp only[jb,AF,iA,AG];rw[h2];simp only[jb];rw[gz (Ll hs)];exact h5
theorem Ku{caps:hJ}{k:Nat}{fi:FIt}{tg:Tg}{ti:FT}{fb:FB}{δ δ1 δ':Dn}{l acc:List D}{args:List (D×Bool)}(h1:fi δ=some (l,δ1))(h2:iR δ1 (caps.map .slot)=some args)(h3:(gP (caps.map .slot) args).Nodup)(h4:kY tg ti fb l [] (args.map some++List.replicate k none)=some (acc,δ')):
  kj caps k fi tg ti fb δ=some ((.lst acc,true),wb (caps.map .slot) args (hE args δ') δ1):=by
 unfold kj;rw[h1];simp only[jb];rw[h2];simp only[jb];rw[gz h3,h4];rfl
theorem Nf{t:ie}(h:t.length<=60):OkD (cD t):=fun l e=>by cases e;simpa using h
theorem xZ{d:D}(h:d.dep<=50):gNe d d=some (.bl false,false):=by unfold gNe;rw[gz ⟨h,h⟩,D.eqb_refl];rfl
def TT(n:Nat)(t:ie):Prop:=(t.map ab).Perm (st n)
def SG(n:Nat)(s:Int):Prop:=1<=ab s/\ab s<=n
def beh(t u:ie):List Int:=t.map (led u)
theorem TT.len{n:Nat}{t:ie}(h:TT n t):t.length=n:=by simpa using(JB.mp h).1
theorem TT.sg{n:Nat}{t:ie}(h:TT n t){x:Int}(hx:x∈t):SG n x:=(JB.mp h).2.1 _ (wc hx)
theorem BH{n:Nat}{s:Int}(h:SG n s): ∃k:Nat,k<n/\(s=(k:Int)+1\/s= -((k:Int)+1)):=by
 have:=h;unfold SG ab at this;split at this
 ·exact⟨(-s-1).toNat,by omega,.inr (by omega)⟩
 ·exact⟨(s-1).toNat,by omega,.inl (by omega)⟩
theorem Mq(t:ie)(k:Nat):led t ((k:Int)+1)=t.getD k 0:=by
 unfold led;rw[gz (by omega),show((k:Int)+1-1).toNat=k by omega]
theorem J7(t:ie)(k:Nat):led t (-((k:Int)+1))= -t.getD k 0:=by
 unfold led;rw[gC (by omega),show(- -((k:Int)+1)-1).toNat=k by omega]
theorem PY{n:Nat}{t:ie}(ht:t.length=n){s:Int}(h:SG n s):ab (led t s)=(t.map ab).getD ((ab s).toNat-1) 0:=by
 obtain⟨k,hk,rfl|rfl⟩:=BH h
 ·rw[Mq,E9 (i:=(k:Int)+1) (by omega),show(((k:Int)+1).toNat-1)=k by omega];simp[qS,ht,hk]
 ·rw[J7,Hz,KN (by omega),show(((k:Int)+1).toNat-1)=k by omega];simp[qS,ht,hk]
theorem TT.beh{n:Nat}{t u:ie}(h:TT n t)(hu:TT n u):TT n (beh t u):=by
 unfold TT
 have e:(PV.beh t u).map ab=(t.map ab).map fun j=>(u.map ab).getD (j.toNat-1) 0:=by
  unfold PV.beh;rw[lG,lG];refine rK fun x hx=>?_;exact PY hu.len (h.sg hx)
 rw[e];refine(h.map _).trans (List.Perm.trans (wo ?_) hu);apply Dl
 ·simp[st,hu.len]
 ·intro i h1 h2;have hi:i<n:=by simpa[st] using h1
  have e2:((1:Int)+(i:Int)).toNat-1=i:=by omega
  simp only[st,lG,List.getElem_map,List.getElem_range,Function.comp,e2];simp[qS,hu.len,hi]
theorem NM(n:Nat):(st n).length=n:=by simp[st]
theorem Na(n:Nat):TT n (st n):=by
 have:(st n).map ab=st n:=by
  conv=>rhs;rw[<-qT (st n)]
  refine rK fun x hx=>?_;have:=NL.mp hx;exact E9 (by omega)
 unfold TT;rw[this]
theorem rZ: ∀(k:Nat) (r f t:ie),r.length=k->(∀x∈r,0<=x)->t∈kW k r f->(t.map ab).Perm (f.map ab++r)
 |0,r,f,t,hr,_,h=>by
  simp[kW] at h;subst h;rw[MU.mp hr];simp
 |k+1,r,f,t,hr,h0,h=>by
  simp only[kW,List.mem_flatMap,nu,sQ] at h;obtain⟨v,hv,h⟩:=h;have hl:(r.eraseIdx v).length=k:=by rw[wd,gz hv];omega
  have hz: ∀x∈r.eraseIdx v,0<=x:=fun x hx=>h0 x (List.mem_of_mem_eraseIdx hx);have hx:=h0 _ (Hh hv)
  have fin: ∀y:Int,ab y=r.getD v 0->(List.map ab (f++[y])++r.eraseIdx v).Perm (f.map ab++r):=fun y hy=>by
   rw[wm,jF];refine qV _ ?_;simp only[iY,rR,um,qU,hy];have e:r.getD v 0=r[v]:=by simp[qS,hv]
   rw[e];rw[HS];have e2:r=r.take v++r[v]::r.drop (v+1):=by rw[<-qW hv,lh]
   conv=>rhs;rw[e2]
   exact Bj.symm
  rcases h with h|h
  ·exact(rZ k _ _ t hl hz h).trans (fin _ (by rw[DG];exact E9 hx))
  ·exact(rZ k _ _ t hl hz h).trans (fin _ (by rw[Int.mul_neg,DG];exact KN hx))
theorem Le{n:Nat}{t:ie}(h:t∈kW n (st n) []):TT n t:=by
 have:=rZ n (st n) [] t (NM n) (fun x hx=>by have:=NL.mp hx;omega) h;unfold TT;simpa using this
def RJ(fo:FO)(δ:Dn)(d:D):Prop:= ∃o,fo δ=some (o,δ)/\res δ o=some d
def FJ(fo:FO)(δ:Dn)(d:D):Prop:= ∃o,fo δ=some (o,δ)/\res δ o=some d/\uk δ o=some (d,false)
theorem FJ.r{fo:FO}{δ:Dn}{d:D}(h:FJ fo δ d):RJ fo δ d:=let⟨o,a,b,_⟩:=h;⟨o,a,b⟩
theorem jV{i:Nat}{δ:Dn}{d:D}(h:δ[i]?=some (some (d,false))):FJ (gn i) δ d:=⟨.slot i,by unfold gn;rw[h],by unfold res;simp[h],by simp[h]⟩
theorem jR{i:Nat}{δ:Dn}{d:D}{b:Bool}(h:δ[i]?=some (some (d,b))):RJ (gn i) δ d:=⟨.slot i,by unfold gn;rw[h],by unfold res;simp[h]⟩
theorem jE{f:F}{δ:Dn}{d:D}{b:Bool}(h:f δ=some ((d,b),δ)):FJ (gq f) δ d:=⟨.val (d,b),gX h,rfl,rfl⟩
theorem jU1{ev:EvF}{fa:FO}{δ:Dn}{a:D}{r:D×Bool}{outs:Dn}(h:ev [(a,false)]=some (r,outs))(ha:FJ fa δ a):gB ev [fa] δ=some (r,δ):=by
 obtain⟨o,h1,_,h3⟩:=ha;refine(ko (sh h1) (args:=[a].map fun d=>(d,false)) (by simp[h3]) (by rw[qa];exact rJ) h).trans ?_;rw[Bp]
theorem jU2{ev:EvF}{fa fb:FO}{δ:Dn}{a b:D}{r:D×Bool}{outs:Dn}(h:ev [(a,false),(b,false)]=some (r,outs))(ha:FJ fa δ a)(hb:FJ fb δ b):gB ev [fa,fb] δ=some (r,δ):=by
 obtain⟨o,h1,_,h3⟩:=ha;obtain⟨o',k1,_,k3⟩:=hb;refine(ko (ni h1 k1) (args:=[a,b].map fun d=>(d,false)) (by simp[h3,k3]) (by rw[qa];exact rJ) h).trans ?_;rw[Bp]
theorem jO{g:D->D->Option (D×Bool)}{fa fb:FO}{δ:Dn}{a b:D}{r:D×Bool}(h:g a b=some r)(ha:RJ fa δ a)(hb:RJ fb δ b):gK g fa fb δ=some (r,δ):=by
 obtain⟨o,h1,h2⟩:=ha;obtain⟨o',k1,k2⟩:=hb;exact jI h1 k1 h2 k2 h
theorem jC{g:D->Option (D×Bool)}{fa:FO}{δ:Dn}{a:D}{r:D×Bool}(h:g a=some r)(ha:RJ fa δ a):ig (g1 g) [fa] δ=some (r,δ):=by
 obtain⟨o,h1,h2⟩:=ha;exact ng (ds:=[a]) (sh h1) (by simp[h2]) h
theorem Qu{f:F}{np:Nat}{args:List (D×Bool)}{r:D×Bool}{δ:Dn}(h1:args.length=np/\np<=np/\(args.zipIdx.all fun p=>!(p.1.2&&([]:List Nat).contains p.2))=true)(h2:f (args.map some++List.replicate (np-np) none)=some (r,δ)):evF np np [] (gD (jG f) hU) args=some (r,hE args δ):=
 oY h1 (lU (nH h2))
theorem Qt{n:Nat}{s:Int}(h:SG n s):s≠0/\ -(n:Int)<=s/\s<=n:=by
 obtain⟨k,hk,rfl|rfl⟩:=BH h<;>omega
theorem TK{n:Nat}{u:ie}(hu:u.length=n){s:Int}(h:SG n s):md [enc u,(.int s,false)]=some ((.int (led u s),false),[some (enc u),some (.int s,false)]):=by
 obtain⟨a,b,c⟩:=Qt h;exact Pa u s a (by rw[hu];exact b) (by rw[hu];exact c)
theorem JZ(f:Int->Int)(l:ie):(l.map D.int).map (fun d=>D.int (f (iOf d)))=(l.map f).map D.int:=by rw[lG,lG];rfl
theorem Ho{caps:hJ}{fi:FIt}{f:F}{δ δ1:Dn}{l:ie}{args:List D}(g:Int->Int)(h1:fi δ=some (l.map D.int,δ1))(h2:iR δ1 (caps.map .slot)=some (args.map fun d=>(d,false)))(hc:args.length=caps.length)
  (h: ∀x∈l,∃o,f (frz args++[some (.int x,false)])=some ((.int (g x),o),frz args++[some (.int x,false)]))(hl:l.length<=10000):
  kj caps 1 fi (gW caps.length) kH (kJ f) δ=some ((.lst ((l.map g).map D.int),true),δ1):=by
 rw[PF (fun d=> .int (g (iOf d))) h1 h2 hc (fun d hd=>by obtain⟨x,hx,rfl⟩:=oI.mp hd;exact h x hx) (by simpa using hl),JZ]
theorem Hx{n:Nat}(hn:n<=5){t u:ie}(ht:TT n t)(hu:u.length=n):oG [enc t,enc u]=some (enc (beh t u),[some (enc t),some (enc u)]):=by
 refine Qu ⟨rfl,by decide,rfl⟩ (jC (a:= .lst ((beh t u).map D.int)) rfl (jE (b:=true) (Ho (args:=[cD u]) (led u) rfl rfl rfl (fun x hx=>⟨false,?_⟩) (by rw[ht.len];omega))).r);exact jU2 (TK hu (ht.sg hx)) (jV rfl) (jV rfl)
theorem NW(n:Nat)(hn:n<=5):gRg .tup false [.int 1,.int ((n:Int)+1)]=some (.tup ((st n).map .int),false):=by
 have:n=0\/n=1\/n=2\/n=3\/n=4\/n=5:=by omega
 have h1:RgOk 1 ((n:Int)+1):=by rcases this with rfl|rfl|rfl|rfl|rfl|rfl<;>decide+kernel
 have h2:((n:Int)+1-1).toNat=n:=by omega
 show(if RgOk 1 ((n:Int)+1) then some (D.tup (iH 1 ((n:Int)+1-1).toNat),false) else none)=_;rw[gz h1,h2,<-Av]
theorem IQ{n:Nat}(hn:n<=5):nj [(.int n,false)]=some (enc (st n),[ii n]):=
 Qu ⟨rfl,by decide,rfl⟩ (ng (os:=[.val (.int 1,false),.val (.int ((n:Int)+1),false)]) rfl rfl (NW n hn))
theorem Bv{n:Nat}(hn:n<=5){t:ie}(ht:TT n t):iG [(.int n,false),enc t]=some ((.bl true,false),[ii n,some (enc t)]):=by
 have h:tB n (cD t)=true:=by
  rw[Fn];simp only[lB,jY,kZ,pK,lG];refine⟨fun d hd=>?_,ht⟩;obtain⟨x,_,rfl⟩:=oI.mp hd;rfl
 rw[pW n (cD t) (fun l e=>by cases e;rw[jk,ht.len];omega),h]
theorem Kz{n:Nat}(hn:n<=5){t:ie}(ht:TT n t):iV [(.int n,false),enc t]=some ((.non,false),[ii n,some (enc t)]):=by
 have:sIf (ma (fT (gB iG [(gn 0),(gn 1)]))) (gD xb hU) hU [ii n,some (enc t)]=some (.nx [ii n,some (enc t)]):=
  (xg (ua (tY (jU2 (Bv hn ht) (jV rfl) (jV rfl))))).trans rfl
 have e:kz [ii n,some (enc t)]=some (.nx [ii n,some (enc t)]):=(gO this).trans rfl;simp only[iV,evF];rw[gz ⟨rfl,by decide,rfl⟩];show(match kz [ii n,some (enc t)] with|some (.rt r δ)=>some (r,hE _ δ)|some (.nx δ)=>some ((D.non,false),hE _ δ)|_=>none)=_;rw[e];rfl
theorem Lc{ft:FT}{fb:FS}{k:Nat}{δ δ1 δ2:Dn}(h:ft δ=some (true,δ1))(hb:fb δ1=some (.nx δ2)):lP ft fb (k+1) δ=lP ft fb k δ2:=by
 rw[lP,h];simp only[jb,iA];rw[hb];rfl
theorem Ff{ft:FT}{fb:FS}{k:Nat}{δ δ1:Dn}(h:ft δ=some (false,δ1)):lP ft fb (k+1) δ=some (.nx δ1):=by
 rw[lP,h];rfl
theorem TJ{a b:D}{fa fb:FO}{δ:Dn}(h:a=b)(hd:a.dep<=50)(ha:RJ fa δ a)(hb:RJ fb δ b):fT (gK gNe fa fb) δ=some (false,δ):=by
 subst h;exact tY (o:=false) (jO (xZ hd) ha hb)
theorem no{t:FT}{f:FS}{δ:Dn}(g:FS)(h:t δ=some (false,δ)):gD (sIf t f hU) g δ=g δ:=(gO ((xg h).trans rfl))
theorem K7{f:FS}{x:XS}{δ δ1:Dn}(h:f δ=some (.nx δ1))(hf:qO δ1=true):Ir f x δ=x δ1:=by unfold Ir;rw[h];simp only[jb];rw[gz hf]
theorem MX{t:FT}{x y:XS}{δ:Dn}(h:t δ=some (true,δ))(hf:qO δ=true):zIf t x y δ=x δ:=by unfold zIf;rw[h];simp only[jb];rw[gz hf];rfl
theorem MY{t:FT}{x y:XS}{δ:Dn}(h:t δ=some (false,δ))(hf:qO δ=true):zIf t x y δ=y δ:=by unfold zIf;rw[h];simp only[jb];rw[gz hf];rfl
theorem ub{n np:Nat}{asg:hJ}{f:FS}{args:List (D×Bool)}(h:f (args.map some++List.replicate (n-np) none)=none):evF n np asg f args=none:=by
 unfold evF;split
 ·rw[h]
 ·rfl
theorem Ga{caps:hJ}{f:F}{x:XS}{n i:Nat}{fs:FS}{CI:Str->Option Nat}{δ:Dn}{args:List (D×Bool)}{c:Str}{C:Nat}{d:D}(h1:iR δ (caps.map .slot)=some args)(h2:(args.all fun a=>!a.2)=true)(h3:f (args.map some)=none)(h4:x (args.map some)=some c)(h5:CI c=some C)(h6:sZ n i fs (.oth (.exc C) [] [])=some d):qP caps f x n i fs CI δ=some ((d,false),δ):=by
 unfold qP;rw[h1];simp only[jb];rw[gz h2,h3];simp only[];rw[h4];simp only[jb];rw[h5];simp only[jb];rw[h6];rfl
theorem Kt{caps:hJ}{f:F}{x:XS}{n i:Nat}{fs:FS}{CI:Str->Option Nat}{δ:Dn}{args:List (D×Bool)}{r}{d:D}(h1:iR δ (caps.map .slot)=some args)(h2:(args.all fun a=>!a.2)=true)(h3:f (args.map some)=some r)(h6:sZ n i fs .non=some d):qP caps f x n i fs CI δ=some ((d,false),δ):=by
 unfold qP;rw[h1];simp only[jb];rw[gz h2,h3];simp only[];rw[h6];rfl
theorem ym{ev:EvF}{fs:List FO}{δ δ1:Dn}{os:List Opd}{args:List (D×Bool)}(h1:ja fs δ=some (os,δ1))(h2:iR δ1 os=some args)(h3:ev args=none):gB ev fs δ=none:=by
 rw[Lu,h1];simp only[jb];rw[h2];simp only[jb];rw[h3];split<;>rfl
theorem jU3{ev:EvF}{fa fb fc:FO}{δ:Dn}{a b c:D}{r:D×Bool}{outs:Dn}(h:ev [(a,false),(b,false),(c,false)]=some (r,outs))(ha:FJ fa δ a)(hb:FJ fb δ b)(hc:FJ fc δ c):gB ev [fa,fb,fc] δ=some (r,δ):=by
 obtain⟨o,h1,_,h3⟩:=ha;obtain⟨o',k1,_,k3⟩:=hb;obtain⟨o2,m1,_,m3⟩:=hc;refine(ko (nh h1 (ni k1 m1)) (args:=[a,b,c].map fun d=>(d,false)) (by simp[h3,k3,m3]) (by rw[qa];exact rJ) h).trans ?_;rw[Bp]
def nb(d:D)(lo hi:Int):Bool:=match d with| .int s=>decide (lo<=s)&&decide (s<=hi)|_=>false
section
variable {d:D}{lo hi:Int}
theorem Ry:ma (fT (gB jA [(gn 0),(gn 1),(gn 2)])) [some (d,false),ii lo,ii hi]=some (!nb d lo hi,[some (d,false),ii lo,ii hi]):=
 ua (tY (jU3 (zp d lo hi) (jV rfl) (jV rfl) (jV rfl)))
theorem PK(h:nb d lo hi=true):je [(d,false),(.int lo,false),(.int hi,false)]=some ((.non,false),[some (d,false),ii lo,ii hi]):=by
 have e:kO [some (d,false),ii lo,ii hi]=some (.nx [some (d,false),ii lo,ii hi]):=(no _ (Ry.trans (by rw[h];rfl))).trans rfl;simp only[je,evF];rw[gz ⟨rfl,by decide,rfl⟩];show(match kO [some (d,false),ii lo,ii hi] with|some (.rt r δ)=>some (r,hE _ δ)|some (.nx δ)=>some ((D.non,false),hE _ δ)|_=>none)=_;rw[e];rfl
theorem Rz(h:nb d lo hi=false):je [(d,false),(.int lo,false),(.int hi,false)]=none:=by
 refine ub ?_;show gD _ _ [some (d,false),ii lo,ii hi]=none;rw[xj,Fu (Ry.trans (by rw[h];rfl))];rfl
theorem Qb(h:nb d lo hi=false)(l1:lo.natAbs<=5)(l2:hi.natAbs<=5):kK [d,.int lo,.int hi]=some "NoNumber":=by
 show jx [some (d,false),ii lo,ii hi]=_;unfold jx;rw[MX (Ry.trans (by rw[h];rfl)) rfl];have z: ∀n:Nat,n<=5->n.log2<1920:=fun n hn=>wk (Nat.log2_le_self n) (by lia)
 have e:ME "a whole number from " " to " " is wanted there" (gn 1) (gn 2) [some (d,false),ii lo,ii hi]=some ((.str (((((Str.empty++"a whole number from ")++Str.ofString (toString lo))++" to ")++Str.ofString (toString hi))++" is wanted there"),false),[some (d,false),ii lo,ii hi]):=by
  show(if lo.natAbs.log2<1920/\hi.natAbs.log2<1920 then _ else none)=_;rw[gz ⟨z _ l1,z _ l2⟩]
 unfold wK;rw[e];rfl
theorem Nu(h:nb d lo hi=true):kK [d,.int lo,.int hi]=none:=by
 show jx [some (d,false),ii lo,ii hi]=_;unfold jx;rw[MY (Ry.trans (by rw[h];rfl)) rfl];rfl
end
theorem Qa{x y:XS}{δ:Dn}{c:Str}(h:x δ=some c):zOr x y δ=some c:=by unfold zOr;rw[h]
theorem P9{x y:XS}{δ:Dn}(h:x δ=none):zOr x y δ=y δ:=by unfold zOr;rw[h]
section
variable {a b c:D}
theorem zU3{xc:List D->Option Str}{fa fb fc:FO}{δ:Dn}{a b c:D}(ha:FJ fa δ a)(hb:FJ fb δ b)(hc:FJ fc δ c):lr xc [fa,fb,fc] δ=xc [a,b,c]:=by
 obtain⟨o,h1,_,h3⟩:=ha;obtain⟨o',k1,_,k3⟩:=hb;obtain⟨o2,m1,_,m3⟩:=hc;unfold lr;rw[nh h1 (ni k1 m1)];simp[h3,k3,m3]
theorem uN3{ev:EvF}{fa fb fc:FO}{δ:Dn}{a b c:D}(h:ev [(a,false),(b,false),(c,false)]=none)(ha:FJ fa δ a)(hb:FJ fb δ b)(hc:FJ fc δ c):gB ev [fa,fb,fc] δ=none:=by
 obtain⟨o,h1,_,h3⟩:=ha;obtain⟨o',k1,_,k3⟩:=hb;obtain⟨o2,m1,_,m3⟩:=hc;exact ym (nh h1 (ni k1 m1)) (args:=[(a,false),(b,false),(c,false)]) (by simp[h3,k3,m3]) h
end
theorem Gd: ∀(r:ie) (v:Nat) (h:v<r.length),r.Perm (r[v]::r.eraseIdx v)
 |x::r,0,_=> .refl _
 |x::r,v+1,h=>((Gd r v (by simpa using h)).cons x).trans (.swap _ _ _)
theorem BI{α:Type}: ∀{l:List α} {i:Nat} {a:α},l[i]?=some a->l.set i a=l
 |[],i,a,h=>by simp at h
 |x::l,0,a,h=>by simp at h;simp[h]
 |x::l,i+1,a,h=>by simp at h;simp[BI h]
theorem xv: ∀(t r f:ie),(t.map ab).Perm r->f++t∈kW t.length r f
 |[],r,f,h=>by simp[kW]
 |s::t,r,f,h=>by
  have hs:ab s∈r:=h.mem_iff.mp (by simp);obtain⟨v,hv,e⟩:=uD hs
  have hp:(t.map ab).Perm (r.eraseIdx v):=by
   have h1:r.Perm (r[v]::r.eraseIdx v):=Gd r v hv;rw[e] at h1;exact(List.perm_cons _).mp ((show(ab s::t.map ab).Perm r from h).trans h1)
  have hg:r.getD v 0=ab s:=by rw[qS,iM hv,e];rfl
  rw[jq,kW,List.mem_flatMap];refine⟨v,sQ.mpr hv,?_⟩;rw[nu,hg];have hx:s=ab s*1\/s=ab s* -1:=by unfold ab;split<;>lia
  rcases hx with q|q
  ·left;have:=xv t (r.eraseIdx v) (f++[ab s*1]) hp;rw[<-q,jF] at this;rw[<-q];exact this
  ·right;have:=xv t (r.eraseIdx v) (f++[ab s* -1]) hp;rw[<-q,jF] at this;rw[<-q];exact this
theorem MN: ∀n:Nat,n<5->(kW n (st n) []).length<=384:=by decide+kernel
theorem few{n:Nat}(hn:n<=4){V:mK}(nd:V.Nodup)(h: ∀t∈V,TT n t):V.length<=384:=
 ll (El V (kW n (st n) []) nd fun t ht=>by
  have:=xv t (st n) [] (h t ht)
  rwa [(h t ht).len] at this) (MN n (by lia))
abbrev lE(V:mK):Sl:=some (.oth .set [] (V.map cD),true)
theorem G7(V:mK)(t:ie):tR (cD t) (.oth .set [] (V.map cD))=some (.bl (!decide (t∈V)),false):=by
 show((if(V.map cD).all okS=true/\okS (cD t)=true then some ((V.map cD).any (D.eqb · (cD t))) else none).map fun b=>(D.bl (!b),false))=_;rw[gz ⟨Ei V,Ej t⟩,E5 t V];rfl
theorem BN{i:Nat}{f:F}{δ:Dn}{V:mK}{t:ie}(h0:δ[i]?=some (lE V))(h1:f δ=some ((cD t,false),δ))(hl:V.length<500):vD i f δ=some ((.non,false),δ.set i (lE (E8 V t))):=by
 unfold vD;rw[h0];simp only[];rw[h1];simp only[jb];rw[h0];simp only[];rw[gz ⟨Ei V,Ej t,by simpa using hl⟩,MP]
abbrev fbI:FS:=(gD (jh 7 (gB oG [(gn 5),(gn 6)])) (gD (sIf (fT (gK tR (gn 7) (gn 2))) (gD (lA (vD 2 (js 7))) (gD (lA (lW 4 (js 7))) hU)) hU) hU))
abbrev Pr:FS:=(gD (tE (jT (js 1)) (gW 6) fbI) hU)
abbrev Rq:FS:=(gD (jh 4 (jw [])) (gD (tE (jT (js 3)) (gW 5) Pr) (gD (jh 3 (js 4)) hU)))
structure SP(n m:Nat)(V R:mK):Prop where
 nd:V.Nodup
 tt: ∀t∈V,TT n t
 rt: ∀t∈R,TT n t
 len:V.length=m+R.length
section
variable {n m:Nat}{V R:mK}{d:D}
theorem Pu(hn:n<=4)(h:SP n m V R){b t:ie}(hb:TT n b)(ht:TT n t)(c3 c7:Sl): ∃V' R',SP n m V' R'/\fbI [ii n,some (d,false),lE V,c3,lsC R,some (enc b),some (enc t),c7]=some (.nx [ii n,some (d,false),lE V',c3,lsC R',some (enc b),some (enc t),some (enc (beh b t))]):=by
 have hd:=hb.beh ht;have hl:=few hn h.nd h.tt
 let δ:Sl->Sl->Sl->Dn:=fun x y z=>[ii n,some (d,false),x,c3,y,some (enc b),some (enc t),z]
 have s1:jh 7 (gB oG [(gn 5),(gn 6)]) (δ (lE V) (lsC R) c7)=some (.nx (δ (lE V) (lsC R) (some (enc (beh b t))))):=kx (i:=7) (jU2 (Hx (by lia) hb ht.len) (jV rfl) (jV rfl)) (show 7<8 by decide);have t1:fT (gK tR (gn 7) (gn 2)) (δ (lE V) (lsC R) (some (enc (beh b t))))=some (!decide (beh b t∈V),δ (lE V) (lsC R) (some (enc (beh b t)))):=tY (o:=false) (jO (G7 V _) (jV rfl).r (jR rfl));by_cases hm:beh b t∈V
 ·exact⟨V,R,h,(gO s1).trans ((no _ (t1.trans (by rw[Aj hm];rfl))).trans rfl)⟩
 ·have hv: ∀x y,js 7 (δ x y (some (enc (beh b t))))=some (enc (beh b t),δ x y (some (enc (beh b t)))):=fun _ _=>rfl;have ha:E8 V (beh b t)=V++[beh b t]:=gC hm
  have hp:SP n m (V++[beh b t]) (R++[beh b t]):=by
   refine⟨by rw[<-ha];exact MR h.nd,fun x hx=>?_,fun x hx=>?_,by simp[h.len];lia⟩
   ·rcases nu.mp hx with z|z
    ·exact h.tt x z
    ·cases nV.mp z;exact hd
   ·rcases nu.mp hx with z|z
    ·exact h.rt x z
    ·cases nV.mp z;exact hd
  have hR:R.length<=384:=by have:=h.len;lia
  refine⟨_,_,hp,(gO s1).trans ((gO ((Fu (t1.trans (by rw[sO hm];rfl))).trans ?_)).trans rfl)⟩;refine(gO (δ1:=δ (lE (V++[beh b t])) (lsC R) (some (enc (beh b t)))) (oB ((BN (i:=2) (V:=V) rfl (hv _ _) (by lia)).trans (by rw[ha];rfl)))).trans ?_;exact(gO (δ1:=δ (lE (V++[beh b t])) (lsC (R++[beh b t])) (some (enc (beh b t)))) (oB (r:=(.non,false)) ((yn (i:=4) (l0:=R.map cD) (l:=R.map cD) (r:=enc (beh b t)) rfl (hv _ _) rfl (by rw[iZ];simp;lia)).trans (by simp only[lsC,wm];rfl)))).trans rfl
def sq(d:D)(L:mK):Prop:=d= .lst (L.map cD)\/d= .tup (L.map cD)
theorem Ri{L:mK}(h:sq d L){i:Nat}{δ:Dn}(hi:δ[i]?=some (some (d,false))):jT (js i) δ=some (L.map cD,δ):=by
 have e:js i δ=some ((d,false),δ):=by
  unfold js;rw[hi];simp only[];rw[BI hi]
 rw[AE,e];rcases h with rfl|rfl<;>rfl
theorem Kk(hn:n<=4){L:mK}(hs:sq d L)(hL: ∀t∈L,TT n t)(h:SP n m V R){b:ie}(hb:TT n b)(c3 c6 c7:Sl): ∃V' R' bZ bY,SP n m V' R'/\Pr [ii n,some (d,false),lE V,c3,lsC R,some (enc b),c6,c7]=some (.nx [ii n,some (d,false),lE V',c3,lsC R',some (enc b),bZ,bY]):=by
 obtain⟨_,⟨V',R',x,y,hp,_,rfl⟩,e⟩:=tU (tg:=gW 6) (fb:=fbI) (fun l δ=> ∃V R x y,SP n m V R/\(∀d∈l,∃t,d=cD t/\TT n t)/\δ=[ii n,some (d,false),lE V,c3,lsC R,some (enc b),x,y]) (fun z l δ ⟨V,R,x,y,h1,h2,h3⟩=>by
  subst h3;obtain⟨t,rfl,ht⟩:=h2 z iN;obtain⟨V',R',h4,e⟩:=Pu (d:=d) hn h1 hb ht c3 y
  exact⟨_,_,rfl,e,V',R',_,_,h4,fun q hq=>h2 q (iK _ hq),rfl⟩) (L.map cD) [ii n,some (d,false),lE V,c3,lsC R,some (enc b),c6,c7] ⟨V,R,c6,c7,h,fun q hq=>by
   obtain⟨t,ht,rfl⟩:=oI.mp hq;exact⟨t,rfl,hL t ht⟩,rfl⟩
 exact⟨V',R',x,y,hp,(gO ((oO (Ri hs rfl)).trans e)).trans rfl⟩
theorem Pp(hn:n<=4){L:mK}(hs:sq d L)(hL: ∀t∈L,TT n t)(nd:V.Nodup)(tt: ∀t∈V,TT n t){W:mK}(hW: ∀t∈W,TT n t)(f:Bool)(c4 c5 c6 c7:Sl): ∃V' R' dQ dP bZ bY,SP n V.length V' R'/\Rq [ii n,some (d,false),lE V,some (.lst (W.map cD),f),c4,c5,c6,c7]=some (.nx [ii n,some (d,false),lE V',some (.lst (R'.map cD),false),dQ,dP,bZ,bY]):=by
 let W3:Sl:=some (.lst (W.map cD),false)
 obtain⟨_,⟨V',R',x,y,z,hp,_,rfl⟩,e⟩:=tU (tg:=gW 5) (fb:=Pr) (fun l δ=> ∃V' R' x y z,SP n V.length V' R'/\(∀d∈l,∃t,d=cD t/\TT n t)/\δ=[ii n,some (d,false),lE V',W3,lsC R',x,y,z]) (fun q l δ ⟨V1,R1,x,y,z,h1,h2,h3⟩=>by
  subst h3;obtain⟨t,rfl,ht⟩:=h2 q iN;obtain⟨V',R',bZ,bY,h4,e⟩:=Kk hn hs hL h1 ht W3 y z
  exact⟨_,_,rfl,e,V',R',_,_,_,h4,fun q hq=>h2 q (iK _ hq),rfl⟩) (W.map cD) [ii n,some (d,false),lE V,W3,lsC [],c5,c6,c7] ⟨V,[],c5,c6,c7,⟨nd,tt,by simp,by simp⟩,fun q hq=>by
   obtain⟨t,ht,rfl⟩:=oI.mp hq;exact⟨t,rfl,hW t ht⟩,rfl⟩
 refine⟨V',R',some (.lst (R'.map cD),false),x,y,z,hp,?_⟩;refine(gO (δ1:=[ii n,some (d,false),lE V,some (.lst (W.map cD),f),lsC [],c5,c6,c7]) rfl).trans ?_;exact(gO ((oO (ds:=W.map cD) (δ1:=[ii n,some (d,false),lE V,W3,lsC [],c5,c6,c7]) rfl).trans e)).trans rfl
theorem IL(W:mK)(f:Bool)(x0 x1 x2:Sl)(δ:Dn):Kq (gn 3) (x0::x1::x2::some (.lst (W.map cD),f)::δ)=some (!W.isEmpty,x0::x1::x2::some (.lst (W.map cD),f)::δ):=by
 show some (!(W.map cD).isEmpty,_)=_;cases W<;>rfl
theorem IC(hn:n<=4){L:mK}(hs:sq d L)(hL: ∀t∈L,TT n t): ∀(fuel:Nat) (V W:mK) (f:Bool) (c4 c5 c6 c7:Sl),V.Nodup->(∀t∈V,TT n t)->(∀t∈W,TT n t)->386<fuel+V.length-> ∃V' c3 dQ dP bZ bY,V'.Nodup/\(∀t∈V',TT n t)/\lP (Kq (gn 3)) Rq fuel [ii n,some (d,false),lE V,some (.lst (W.map cD),f),c4,c5,c6,c7]=some (.nx [ii n,some (d,false),lE V',c3,dQ,dP,bZ,bY])
 |0,V,W,f,c4,c5,c6,c7,nd,tt,hW,hf=>by have:=few hn nd tt;lia
 |fuel+1,V,W,f,c4,c5,c6,c7,nd,tt,hW,hf=>by
  have t1:=IL W f (ii n) (some (d,false)) (lE V) [c4,c5,c6,c7]
  cases hw:W.isEmpty with
  |true=>exact⟨V,_,_,_,_,_,nd,tt,Ff (t1.trans (by rw[hw];rfl))⟩
  |false=>
   obtain⟨V',R',dQ,dP,bZ,bY,hp,e⟩:=Pp hn hs hL nd tt hW f c4 c5 c6 c7;have u9:=Lc (k:=fuel) (t1.trans (by rw[hw];rfl)) e;by_cases hR:R'=[]
   ·subst hR;have hv:=few hn nd tt
    cases fuel with
    |zero=>lia
    |succ fuel=>exact⟨V',_,_,_,_,_,hp.nd,hp.tt,u9.trans (Ff (IL [] false _ _ _ _))⟩
   ·have hl:=hp.len;have:0<R'.length:=List.length_pos_iff.mpr hR;obtain⟨V2,x3,x4,x5,x6,x7,h1,h2,e2⟩:=IC hn hs hL fuel V' R' false dQ dP bZ bY hp.nd hp.tt hp.rt (by lia);exact⟨V2,x3,x4,x5,x6,x7,h1,h2,u9.trans e2⟩
theorem Lg(hn:n<=4){L:mK}(hs:sq d L)(hL: ∀t∈L,TT n t): ∃r outs,si [(.int n,false),(d,false)]=some (r,outs):=by
 have s0: ∀δ:Dn,gB nj [(gn 0)] (ii n::δ)=some (enc (st n),ii n::δ):=fun δ=>jU1 (IQ (by lia)) (jV rfl);obtain⟨V,c3,c4,c5,c6,c7,nd,tt,e⟩:=IC hn hs hL RG [st n] [st n] true none none none none (by simp) (fun t ht=>by cases nV.mp ht;exact Na n) (fun t ht=>by cases nV.mp ht;exact Na n) (by show 386<100000+1;decide);have hl:=few hn nd tt
 have srt: ∃z,qb (.oth .set [] (V.map cD))=some z:=by
  have ok:lN (V.map cD)=true:=by
   by_cases hz:n=0
   ·subst hz;have h1: ∀a∈V,a=[]:=fun a ha=>MU.mp (tt a ha).len;have h2:V.length<=1:=El V [[]] nd fun a ha=>by rw[h1 a ha];simp
    match V,h1,h2 with
    |[],_,_=>rfl
    |[x],h1,_=>rw[h1 x (by simp)];rfl
    |_::_::_,_,h2=>simp at h2
   ·exact GG _ fun a ha e=>hz (by rw[<-(tt a ha).len,e];rfl)
  show ∃z,(if(V.map cD).all okS=true then kb (V.map cD) else none)=some z;rw[gz (Ei V)];unfold kb;rw[gz ⟨ok,by rw[iZ];simp;lia⟩];exact⟨_,rfl⟩
 obtain⟨z,srt⟩:=srt;refine⟨z,_,oY (δ:=[ii n,some (d,false),lE V,c3,c4,c5,c6,c7]) ⟨rfl,by decide,rfl⟩ ?_⟩;refine(gO (δ1:=[ii n,some (d,false),lE [],none,none,none,none,none]) rfl).trans ?_;refine(gO (δ1:=[ii n,some (d,false),lE [st n],none,none,none,none,none]) (oB ((BN (i:=2) (V:=[]) (t:=st n) rfl (s0 _) (by decide)).trans rfl))).trans ?_
 refine(gO (δ1:=[ii n,some (d,false),lE [st n],some (.lst ([st n].map cD),true),none,none,none,none]) (kx (i:=3) (δ1:=[ii n,some (d,false),lE [st n],none,none,none,none,none]) (by
  rw[Je,show[gB nj [(gn 0)]].map gq=[gq (gB nj [(gn 0)])] from rfl,sh (gX (s0 _))];simp[iZ]) (show 3<8 by decide))).trans ?_
 exact(gO e).trans (lU (nH (jC srt (jR (i:=2) rfl))))
end
theorem Sd:sZ 5 1 (gH CT lX) (.oth (.exc 61) [] [])=some (.str "turning"):=by kernel_rfl
theorem Se:sZ 5 1 (gH CT lX) (.oth (.exc 85) [] [])=some (.str "number"):=by kernel_rfl
theorem Sf:sZ 5 1 (gH CT lX) .non=some .non:=by kernel_rfl
theorem Sx:(fun z=>lX.lookup z) ("NoTurning":Str)=some 61:=by kernel_rfl
theorem Sy:(fun z=>lX.lookup z) ("NoNumber":Str)=some 85:=by kernel_rfl
theorem IP{n:Nat}{d:D}(h:tB n d=true): ∃t,d=cD t/\TT n t:=by
 rw[Fn] at h
 cases d with
 |tup l=>
  simp only[lB,jY,kZ,pK] at h;refine⟨l.map iOf,?_,?_⟩
  ·have:l=(l.map iOf).map D.int:=by
    rw[lG]
    conv=>lhs;rw[<-qT l]
    exact rK fun d hd=>DM (h.1 d hd)
   exact oj D.tup this
  ·unfold TT;rw[lG];exact h.2
 |_=>cases h
theorem M1{n:Nat}{t:ie}(ht:TT n t):tB n (cD t)=true:=by
 rw[Fn];simp only[lB,jY,kZ,pK,lG];refine⟨fun d hd=>?_,ht⟩;obtain⟨x,_,rfl⟩:=oI.mp hd;rfl
section
variable {n:Nat}{d:D}
theorem PD(hd:OkD d):ma (fT (gB iG [(gn 0),(gn 1)])) [ii n,some (d,false)]=some (!tB n d,[ii n,some (d,false)]):=
 ua (tY (jU2 (pW n d hd) (jV rfl) (jV rfl)))
theorem Rx(hd:OkD d)(h:tB n d=false):iV [(.int n,false),(d,false)]=none/\jL [.int n,d]=some "NoTurning":=by
 constructor
 ·refine ub ?_;show gD _ _ [ii n,some (d,false)]=none;rw[xj,Fu ((PD hd).trans (by rw[h];rfl))];rfl
 ·show jm [ii n,some (d,false)]=some "NoTurning";unfold jm;rw[MX ((PD hd).trans (by rw[h];rfl)) rfl];rfl
theorem TX(hd:OkD d)(h:tB n d=true):jL [.int n,d]=none:=by
 show jm [ii n,some (d,false)]=none;unfold jm;rw[MY ((PD hd).trans (by rw[h];rfl)) rfl];rfl
theorem zU2{xc:List D->Option Str}{fa fb:FO}{δ:Dn}{a b:D}(ha:FJ fa δ a)(hb:FJ fb δ b):lr xc [fa,fb] δ=xc [a,b]:=by
 obtain⟨o,h1,_,h3⟩:=ha;obtain⟨o',k1,_,k3⟩:=hb;unfold lr;rw[ni h1 k1];simp[h3,k3]
theorem uN2{ev:EvF}{fa fb:FO}{δ:Dn}{a b:D}(h:ev [(a,false),(b,false)]=none)(ha:FJ fa δ a)(hb:FJ fb δ b):gB ev [fa,fb] δ=none:=by
 obtain⟨o,h1,_,h3⟩:=ha;obtain⟨o',k1,_,k3⟩:=hb;exact ym (ni h1 k1) (args:=[(a,false),(b,false)]) (by simp[h3,k3]) h
abbrev EH:FS:=(gD (lA (gB iV [(gn 0),(gn 2)])) hU)
abbrev Iv:XS:=lr jL [(gn 0),(gn 2)]
theorem Kp(hn:n<=4){x:D}(h:tB n x=true):EH [ii n,some (d,false),some (x,false)]=some (.nx [ii n,some (d,false),some (x,false)]):=by
 obtain⟨t,rfl,ht⟩:=IP h;exact(gO (oB (jU2 (Kz (by lia) ht) (jV rfl) (jV rfl)))).trans rfl
theorem Nh(hn:n<=4): ∀(M:List D) (c2:Sl),qO [ii n,some (d,false),c2]=true->(∀x∈M,OkD x)->
  if M.all (tB n)=true then(∃c',tV (gW 2) EH M [ii n,some (d,false),c2]=some (.nx [ii n,some (d,false),c']))/\wL (gW 2) EH Iv M [ii n,some (d,false),c2]=none
  else tV (gW 2) EH M [ii n,some (d,false),c2]=none/\wL (gW 2) EH Iv M [ii n,some (d,false),c2]=some "NoTurning"
 |[],c2,_,_=>⟨⟨c2,rfl⟩,rfl⟩
 |x::M,c2,hf,hM=>by
  have ox:=hM x iN;have e1:gW 2 x [ii n,some (d,false),c2]=some [ii n,some (d,false),some (x,false)]:=rfl;have f1:qO [ii n,some (d,false),some (x,false)]=true:=rfl;rw[List.all_cons];unfold tV wL;rw[e1];simp only[jb];rw[gz f1]
  cases hx:tB n x with
  |false=>
   obtain⟨c1,c3⟩:=Rx ox hx;rw[Bool.false_and,gC jl];have z1:Iv [ii n,some (d,false),some (x,false)]=some "NoTurning":=(zU2 (jV rfl) (jV rfl)).trans c3
   have z2:EH [ii n,some (d,false),some (x,false)]=none:=by
    show gD _ _ _=none;rw[xj,Fy,uN2 (fa:=gn 0) (fb:=gn 2) c1 (jV rfl) (jV rfl)];rfl
   rw[z1,z2];exact⟨rfl,rfl⟩
  |true=>
   rw[Bool.true_and];have z1:Iv [ii n,some (d,false),some (x,false)]=none:=(zU2 (jV rfl) (jV rfl)).trans (TX ox hx);rw[z1,Kp hn hx];simp only[jb];rw[gz f1];exact Nh hn M (some (x,false)) f1 fun y hy=>hM y (iK _ hy)
def sqD(d:D)(M:List D):Prop:=d= .lst M\/d= .tup M
theorem Ew{M:List D}(h:sqD d M)(x:Sl):jT (js 1) [ii n,some (d,false),x]=some (M,[ii n,some (d,false),x]):=by
 rw[AE,show js 1 [ii n,some (d,false),x]=some ((d,false),[ii n,some (d,false),x]) from rfl];rcases h with rfl|rfl<;>rfl
theorem nb4(hn:n<=4):nb (.int n) 0 4=true:=by simp[nb];lia
theorem NO{a:D}(h:nb a 0 4=false):iP [(a,false),(d,false)]=none/\iT [a,d]=some "NoNumber":=by
 have k1: ∀δ,FJ (gq (fC (.int 0))) δ (.int 0):=fun _=>jE rfl;have k2: ∀δ,FJ (gq (fC (.int 4))) δ (.int 4):=fun _=>jE rfl;constructor
 ·refine ub ?_;show gD _ _ [some (a,false),some (d,false),none]=none;rw[xj,Fy,uN3 (fa:=gn 0) (Rz h) (jV rfl) (k1 _) (k2 _)];rfl
 ·show mR [some (a,false),some (d,false),none]=_;exact Qa ((zU3 (jV rfl) (k1 _) (k2 _)).trans (Qb h (by decide) (by decide)))
theorem NP(hn:n<=4){M:List D}(hs:sqD d M)(hM: ∀x∈M,OkD x):if M.all (tB n)=true then ∃r,iP [(.int n,false),(d,false)]=some r else iP [(.int n,false),(d,false)]=none/\iT [.int n,d]=some "NoTurning":=by
 have k1: ∀δ,FJ (gq (fC (.int 0))) δ (.int 0):=fun _=>jE rfl;have k2: ∀δ,FJ (gq (fC (.int 4))) δ (.int 4):=fun _=>jE rfl
 let δ:Dn:=[ii n,some (d,false),none]
 have s1:lA (gB je [(gn 0),(gq (fC (.int 0))),(gq (fC (.int 4)))]) δ=some (.nx δ):=oB (jU3 (PK (nb4 hn)) (jV rfl) (k1 _) (k2 _));have h:=Nh (d:=d) hn M none rfl hM;by_cases hA:M.all (tB n)=true
 ·rw[gz hA] at h ⊢;obtain⟨⟨c',e⟩,_⟩:=h
  have hL: ∃L:List (List Int),M=L.map cD/\ ∀t∈L,TT n t:=by
   refine⟨M.map unC,?_,fun t ht=>?_⟩
   ·rw[lG]
    conv=>lhs;rw[<-qT M]
    refine rK fun x hx=>?_;obtain⟨t,rfl,_⟩:=IP (kZ.mp hA x hx);simp[IE]
   ·obtain⟨x,hx,rfl⟩:=oI.mp ht;obtain⟨t,rfl,h⟩:=IP (kZ.mp hA x hx);rw[IE];exact h
  obtain⟨L,rfl,hL⟩:=hL;obtain⟨r,outs,es⟩:=Lg hn hs hL;exact⟨_,oY (δ:=[ii n,some (d,false),c']) ⟨rfl,by decide,rfl⟩ ((gO s1).trans ((gO ((oO (Ew hs none)).trans e)).trans (lU (nH (jU2 es (jV rfl) (jV rfl))))))⟩
 ·rw[gC hA] at h ⊢;obtain⟨e1,e2⟩:=h;constructor
  ·refine ub ((gO s1).trans ?_);show gD _ _ δ=none;rw[xj,oO (Ew hs none),e1];rfl
  ·show mR δ=_;unfold mR;rw[P9 ((zU3 (jV rfl) (k1 _) (k2 _)).trans (Nu (nb4 hn))),K7 s1 rfl];show Iu (jT (js 1)) (gW 2) EH Iv δ=_;unfold Iu;rw[Ew hs none];simp only[jb];rw[gz (show qO δ=true from rfl)];exact e2
def pB(n:Nat)(M:List D):D:=if M.all (tB n)=true then .non else .str "turning"
theorem D2(hn:n<=4){M:List D}{z:D}(hs:sqD z M)(hM: ∀x∈M,OkD x){fo:FO}{i j:Nat}{δ:Dn}(h1:iR δ [.slot i,.slot j]=some [(.int n,false),(d,false)])(hf:FJ fo [ii n,some (d,false)] z):
  qP [i,j] (gB iP [(gn 0),fo]) (lr iT [(gn 0),fo]) 5 1 (gH CT lX) (fun z=>lX.lookup z) δ=some ((pB n M,false),δ):=by
 have h:=NP hn hs hM;unfold pB;by_cases hA:M.all (tB n)=true
 ·rw[gz hA] at h ⊢;obtain⟨r,e⟩:=h;exact Kt (args:=[(.int n,false),(d,false)]) h1 rfl (jU2 e (jV rfl) hf) Sf
 ·rw[gC hA] at h ⊢;exact Ga (args:=[(.int n,false),(d,false)]) h1 rfl (uN2 h.1 (jV rfl) hf) ((zU2 (jV rfl) hf).trans h.2) Sx Sd
theorem Ls{a:D}(h:nb a 0 4=false){i j:Nat}{δ:Dn}(h1:iR δ [.slot i,.slot j]=some [(a,false),(d,false)]):
  qP [i,j] (gB iP [(gn 0),(gn 1)]) (lr iT [(gn 0),(gn 1)]) 5 1 (gH CT lX) (fun z=>lX.lookup z) δ=some ((.str "number",false),δ):=by
 obtain⟨e1,e2⟩:=NO (d:=d) h;exact Ga (args:=[(a,false),(d,false)]) h1 rfl (uN2 e1 (jV rfl) (jV rfl)) ((zU2 (jV rfl) (jV rfl)).trans e2) Sy Se
end
abbrev Qy:F:=(qP [3,4] (gB iP [(gn 0),(gn 1)]) (lr iT [(gn 0),(gn 1)]) 5 1 (gH CT lX) (fun z=>lX.lookup z))
abbrev Qx:F:=(qP [3,7] (gB iP [(gn 0),(gn 1)]) (lr iT [(gn 0),(gn 1)]) 5 1 (gH CT lX) (fun z=>lX.lookup z))
abbrev Qw:F:=(qP [3,7] (gB iP [(gn 0),(gq (ig (g1 oU) [(gn 1)]))]) (lr iT [(gn 0),(gq (ig (g1 oU) [(gn 1)]))]) 5 1 (gH CT lX) (fun z=>lX.lookup z))
abbrev Sz:F:=(qP [9,10] (gB iP [(gn 0),(gn 1)]) (lr iT [(gn 0),(gn 1)]) 5 1 (gH CT lX) (fun z=>lX.lookup z))
abbrev Nm:FS:=(gD (sIf (fT (gK gNe (gq Sz) (gq (fC (.str "number"))))) (gD (jG (fC (.bl false))) hU) hU) hU)
abbrev Nn:FS:=(gD (jh 2 (gB kA [(gn 0),(gn 1)])) (gD (jh 3 (gB gF [(gn 2),(gq (fC (.int 5)))])) (gD (jh 4 (kj [2,3] 1 (AR (gq (gK kf (gq (fC (.int 1))) (gq (gB gF [(gn 2),(gq (fC (.int 4)))]))))) (gW 2) kH (kJ (gB iF [(gn 0),(gn 1)])))) (gD (jh 5 (jw [(gB jJ [(gn 2),(gq (gK gIx (gn 4) (gq (fC (.int 0)))))]),(gB oW [(gn 2)]),(gB iF [(gn 2),(gq (gB gF [(gn 2),(gq (fC (.int 6)))]))])])) (gD (jh 5 (gK gIx (gn 5) (gq (gB gF [(gn 2),(gq (fC (.int 3)))])))) (gD (jh 6 (gB gF [(gn 2),(gq (ig (g1 yb) [(gn 4)]))])) (gD (jh 7 (gK kf (gq (gK kf (gq (qf (gn 4) (gn 6))) (gq (jw [(js 5)])))) (gq (rC (gn 4) (gq (gK kf (gn 6) (gq (fC (.int 1))))))))) (gD (jh 8 (gK gIx (gq (jw [(fC .non),(fC (.str "turning"))])) (gq (ig (g1 EE) [(gq (Cs (gB iz [(gn 3),(gn 5)])))])))) (gD (sIf (fT (gK ED (gq (fFz 4 Qy)) (gq (fC .non)))) (gD (jG (fC (.bl false))) hU) hU) (gD (sIf (fT (gK gNe (gq (fFz 7 Qx)) (gn 8))) (gD (jG (fC (.bl false))) hU) hU) (gD (sIf (fT (gK gNe (gq (fFz 7 Qw)) (gn 8))) (gD (jG (fC (.bl false))) hU) hU) (gD (jh 9 (gK gIx (gq (jw [(fC (.int 5)),(fC (.int 6)),(jQ pG (gq (fC (.int 1)))),(fC (.bl true)),(fC (.bl false)),(fC .non),(fC (.str "3")),(mZ [(fC (.int 3))]),(jw []),(gK va (gq (fC (.int 10))) (gq (fC (.int 29)))),(jQ pG (gq (gK va (gq (fC (.int 10))) (gq (fC (.int 29))))))])) (gq (gB gF [(gn 2),(gq (fC (.int 11)))])))) (gD (tE (jT (jw [(js 4),(js 7),(jw [])])) (gW 10) Nm) hU)))))))))))))
def Bh:List D:=[.int 5,.int 6,.int (-1),.bl true,.bl false,.non,.str "3",.tup [.int 3],.lst [],.int 100000000000000000000000000000,.int (-100000000000000000000000000000)]
theorem JT: ∀d∈Bh,nb d 0 4=false:=by
 intro d hd;simp only[Bh,lq,mP,pR] at hd;rcases hd with rfl|rfl|rfl|rfl|rfl|rfl|rfl|rfl|rfl|rfl|rfl<;>rfl
theorem Lh(a:Int)(b:Bool){n:Nat}(hn:n<=5)(m:Nat)(hm:m<=63): ∃(a':Int) (L:mK),(∀t∈L,TT n t)/\L.length=m/\ ∃x,kY (gW 2) kH (kJ (gB iF [(gn 0),(gn 1)])) (iH 0 m) [] [stt a b,ii n,none]=some (L.map cD,[stt a' b,ii n,x]):=by
 obtain⟨acc,δ',⟨a',ts,x,h1,h2,rfl,rfl⟩,e⟩:=KH (tg:=gW 2) (f:=gB iF [(gn 0),(gn 1)]) (fun ds acc δ=> ∃(a:Int) (ts:mK) (x:Sl),(∀t∈ts,TT n t)/\ts.length+ds.length=m/\acc=ts.map cD/\δ=[stt a b,ii n,x]) (fun d ds acc δ ⟨a,ts,x,h1,h2,h3,h4⟩=>by
  subst h3;subst h4;obtain⟨a',t,ht,e⟩:=wU a b n hn;refine⟨[stt a b,ii n,some (d,false)],cD t,false,[stt a' b,ii n,some (d,false)],rfl,?_,by simp at h2 ⊢;lia,a',ts++[t],some (d,false),fun y hy=>?_,by simp at h2 ⊢;lia,by simp,rfl⟩
  ·exact ko (δ1:=[stt a b,ii n,some (d,false)]) (os:=[.slot 0,.slot 1]) (args:=[(.lst [.int a,.bl b],true),(.int n,false)]) rfl rfl (show([0]:List Nat).Nodup by decide) e
  ·rcases nu.mp hy with z|z
   ·exact h1 y z
   ·cases nV.mp z;exact Le ht) (iH 0 m) [] [stt a b,ii n,none] ⟨a,[],none,by simp,by simp[iH],rfl,rfl⟩
 exact⟨a',ts,h1,by simpa using h2,x,e⟩
theorem Ra{f:F}{δ δ1:Dn}{d:D}(h:f δ=some ((d,false),δ1)):jw [f] δ=some ((.lst [d],true),δ1):=by
 rw[Je,show[f].map gq=[gq f] from rfl,sh (gX h)];simp[iZ]
theorem Gg{l:List D}{lo hi:Option Int}{x:D}(h:x∈mq l lo hi):x∈l:=by
 unfold PX.mq at h;exact kT (mx h)
theorem Ko(ns:ie)(k:Nat)(c2 c3 c4 c5 c6 c7 c8 c9 n4:Sl): ∃d2 d3 d4 d5 d6 d7 d8 d9 cP,Nn [some (.lst (ns.map .int),false),ii k,c2,c3,c4,c5,c6,c7,c8,c9,n4]=some (.nx [some (.lst (ns.map .int),false),ii k,d2,d3,d4,d5,d6,d7,d8,d9,cP]):=by
 let z0:Sl:=some (.lst (ns.map .int),false)
 obtain⟨a,b,e0⟩:=IS ns k;obtain⟨v,a1,v0,v1,e1⟩:=ot a b 5 (by lia) (by lia);obtain⟨n,rfl⟩: ∃n:Nat,v=n:=⟨v.toNat,by lia⟩
 have hn:n<=4:=by lia
 obtain⟨m,a2,m0,m1,e2⟩:=ot a1 b 4 (by lia) (by lia);obtain⟨mn,hmn⟩: ∃mn:Nat,1+m=mn:=⟨(1+m).toNat,by lia⟩
 obtain⟨a3,L,hL,hlen,x3,e3⟩:=Lh a2 b (n:=n) (by lia) mn (by lia);have fW:0<L.length:=by lia
 let t0:=L.getD 0 []
 have ht0:TT n t0:=hL _ (by simp only[t0];rw[qS,iM fW];exact kl fW);obtain⟨a4,bd,dJ,e4⟩:=ML a3 b t0 (by rw[ht0.len];lia);obtain⟨a5,od,hod,e5⟩:=OZ a4 b;obtain⟨u,a6,u0,u1,e6⟩:=ot a5 b 6 (by lia) (by lia);obtain⟨un,rfl⟩: ∃un:Nat,u=un:=⟨u.toNat,by lia⟩
 obtain⟨t2,a7,eC,e7⟩:=IG a6 b un (by lia);have aL:=IF eC;obtain⟨p,a8,p0,p1,e8⟩:=ot a7 b 3 (by lia) (by lia)
 let B:List D:=[bd,od,cD t2]
 let x:=B.getD p.toNat .non
 have hx:OkD x:=qj vW (fun d hd=>by
  simp only[B,lq,mP,pR] at hd;rcases hd with rfl|rfl|rfl
  ·exact dJ
  ·exact hod
  ·exact Nf (by lia)) _
 obtain⟨q,a9,q0,q1,e9⟩:=ot a8 b (L.length:Int) (by lia) (by lia)
 let M:List D:=mq (L.map cD) none (some q)++[x]++mq (L.map cD) (some (q+1)) none
 have hMm: ∀y∈M,y=x\/ ∃t∈L,y=cD t:=fun y hy=>by
  simp only[M,nu,nV] at hy;rcases hy with(hy|hy)|hy
  ·obtain⟨t,ht,rfl⟩:=oI.mp (Gg hy);exact .inr ⟨t,ht,rfl⟩
  ·exact .inl hy
  ·obtain⟨t,ht,rfl⟩:=oI.mp (Gg hy);exact .inr ⟨t,ht,rfl⟩
 have okL: ∀t∈L,OkD (cD t):=fun t ht=>Nf (by rw[(hL t ht).len];lia)
 have okM: ∀y∈M,OkD y:=fun y hy=>by
  rcases hMm y hy with rfl|⟨t,ht,rfl⟩
  ·exact hx
  ·exact okL t ht
 have allM:M.all (tB n)=tB n x:=by
  cases h:tB n x with
  |true=>
   rw[kZ];intro y hy;rcases hMm y hy with rfl|⟨t,ht,rfl⟩
   ·exact h
   ·exact M1 (hL t ht)
  |false=>
   rw[List.all_eq_false];exact⟨x,by simp[M],by rw[h];exact jl⟩
 have allL:(L.map cD).all (tB n)=true:=by
  rw[kZ];intro y hy;obtain⟨t,ht,rfl⟩:=oI.mp hy;exact M1 (hL t ht)
 obtain⟨r,dR,r0,r1,e10⟩:=ot a9 b 11 (by lia) (by lia)
 let o:=Bh.getD r.toNat .non
 have ho:nb o 0 4=false:=qj (P:=fun d=>nb d 0 4=false) rfl JT _
 let S4:Bool->Sl:=fun f=>some (.lst (L.map cD),f)
 let S7:Bool->Sl:=fun f=>some (.lst M,f)
 let X5:Sl:=some (x,false)
 let X8:Sl:=some (pB n M,false)
 have hM10:M.length<=1000:=by
  have c1:=nR (L.map cD) none (some q);have c2:=nR (L.map cD) (some (q+1)) none;simp only[M,mz,uH];simp only[jk] at c1 c2
  lia
 let δL:Sl->Dn:=fun z=>[z0,ii k,stt dR b,ii n,S4 false,X5,ii q,S7 false,X8,some (o,false),z]
 obtain⟨_,⟨x10,rfl⟩,ef⟩:=tU (tg:=gW 10) (fb:=Nm) (fun _ δ=> ∃z,δ=δL z) (fun d ds δ ⟨z,h⟩=>by
  subst h;refine⟨_,δL (some (d,false)),rfl,(no (δ:=δL (some (d,false))) _ (TJ (a:= .str "number") rfl (by simp[D.dep]) (jE (Ls (d:=d) ho rfl)).r (jE rfl).r)).trans rfl,_,rfl⟩)
  [.lst (L.map cD),.lst M,.lst []] (δL n4) ⟨n4,rfl⟩
 refine⟨stt dR b,ii n,S4 false,X5,ii q,S7 false,X8,some (o,false),x10,?_⟩;refine(gO (kx (i:=2) (δ1:=[z0,ii k,c2,c3,c4,c5,c6,c7,c8,c9,n4]) (jU2 e0 (jV rfl) (jV rfl)) (show 2<11 by decide))).trans ?_;refine(gO (kx (i:=3) (δ1:=[z0,ii k,stt a1 b,c3,c4,c5,c6,c7,c8,c9,n4]) (e1 _ z0 (ii k) [c3,c4,c5,c6,c7,c8,c9,n4] (.val (.int 5,false)) rfl rfl) (show 3<11 by decide))).trans ?_
 have i1:AR (gq (gK kf (gq (fC (.int 1))) (gq (gB gF [(gn 2),(gq (fC (.int 4)))])))) [z0,ii k,stt a1 b,ii n,c4,c5,c6,c7,c8,c9,n4]=some (iH 0 mn,[z0,ii k,stt a2 b,ii n,c4,c5,c6,c7,c8,c9,n4]):=
  AQ (o:= .val (.int mn,false)) (gX (jI (o1:= .val (.int 1,false)) (o2:= .val (.int m,false)) (δ1:=[z0,ii k,stt a1 b,ii n,c4,c5,c6,c7,c8,c9,n4]) rfl (gX (e2 _ z0 (ii k) [ii n,c4,c5,c6,c7,c8,c9,n4] (.val (.int 4,false)) rfl rfl)) rfl rfl ((QH _ _).trans (by rw[hmn])))) rfl (by lia)
 have hcomp:=(Ku (caps:=[2,3]) (k:=1) (tg:=gW 2) (ti:=kH) (fb:=kJ (gB iF [(gn 0),(gn 1)])) (args:=[(.lst [.int a2,.bl b],true),(.int n,false)]) i1 rfl (show([2]:List Nat).Nodup by decide) e3)
 refine(gO (δ1:=[z0,ii k,stt a3 b,ii n,S4 true,c5,c6,c7,c8,c9,n4]) (kx (i:=4) (δ1:=[z0,ii k,stt a3 b,ii n,c4,c5,c6,c7,c8,c9,n4]) (hcomp.trans rfl) (show 4<11 by decide))).trans ?_
 have ix0:gK gIx (gn 4) (gq (fC (.int 0))) [z0,ii k,stt a3 b,ii n,S4 true,c5,c6,c7,c8,c9,n4]=some (enc t0,[z0,ii k,stt a3 b,ii n,S4 true,c5,c6,c7,c8,c9,n4]):=by
  refine jO ?_ (jR rfl) (jE rfl).r;rw[ixl (by decide) (by rw[jk];lia)];simp only[t0,qS,iO,show(0:Int).toNat=0 from rfl,iM fW];rfl
 refine(gO (δ1:=[z0,ii k,stt a7 b,ii n,S4 true,some (.lst B,true),c6,c7,c8,c9,n4]) (kx (i:=5) (δ1:=[z0,ii k,stt a7 b,ii n,S4 true,c5,c6,c7,c8,c9,n4]) (MC (os:=[.val (bd,false),.val (od,false),.val (enc t2)]) (ds:=B) ?_ rfl (Lm (by show 3<=10000;decide))) (show 5<11 by decide))).trans ?_
 ·simp only[iY,rR];refine nh (δ1:=[z0,ii k,stt a4 b,ii n,S4 true,c5,c6,c7,c8,c9,n4]) (gX (ko (δ1:=[z0,ii k,stt a3 b,ii n,S4 true,c5,c6,c7,c8,c9,n4]) (os:=[.slot 2,.val (enc t0)]) (args:=[(.lst [.int a3,.bl b],true),enc t0]) (ni rfl (gX ix0)) rfl (show([2]:List Nat).Nodup by decide) e4)) ?_;refine nh (δ1:=[z0,ii k,stt a5 b,ii n,S4 true,c5,c6,c7,c8,c9,n4]) (gX (ko (δ1:=[z0,ii k,stt a4 b,ii n,S4 true,c5,c6,c7,c8,c9,n4]) (os:=[.slot 2]) (args:=[(.lst [.int a4,.bl b],true)]) rfl rfl (show([2]:List Nat).Nodup by decide) e5)) ?_;exact sh (gX (e7 _ z0 (ii k) [z0,ii k,stt a5 b,ii n,S4 true,c5,c6,c7,c8,c9,n4] [ii n,S4 true,c5,c6,c7,c8,c9,n4] (.val (.int un,false)) (gX (e6 _ z0 (ii k) [ii n,S4 true,c5,c6,c7,c8,c9,n4] (.val (.int 6,false)) rfl rfl)) rfl rfl))
 refine(gO (δ1:=[z0,ii k,stt a8 b,ii n,S4 true,X5,c6,c7,c8,c9,n4]) (kx (i:=5) (δ1:=[z0,ii k,stt a8 b,ii n,S4 true,some (.lst B,true),c6,c7,c8,c9,n4]) (jI (o1:= .slot 5) (o2:= .val (.int p,false)) (δ1:=[z0,ii k,stt a7 b,ii n,S4 true,some (.lst B,true),c6,c7,c8,c9,n4]) rfl (gX (e8 _ z0 (ii k) [ii n,S4 true,some (.lst B,true),c6,c7,c8,c9,n4] (.val (.int 3,false)) rfl rfl)) rfl rfl (ixl p0 (by simpa[B] using p1))) (show 5<11 by decide))).trans ?_;refine(gO (δ1:=[z0,ii k,stt a9 b,ii n,S4 true,X5,ii q,c7,c8,c9,n4]) (kx (i:=6) (δ1:=[z0,ii k,stt a9 b,ii n,S4 true,X5,c6,c7,c8,c9,n4]) (e9 _ z0 (ii k) [ii n,S4 true,X5,c6,c7,c8,c9,n4] (.val (.int L.length,false)) (gX (jC (a:= .lst (L.map cD)) (by rw[NY,jk]) (jR rfl))) rfl) (show 6<11 by decide))).trans ?_
 let δ6:Sl->Dn:=fun y=>[z0,ii k,stt a9 b,ii n,S4 true,X5,ii q,y,c8,c9,n4]
 refine(gO (δ1:=δ6 (S7 true)) (kx (i:=7) (δ1:=δ6 c7) (jO (a:= .lst (mq (L.map cD) none (some q)++[x])) (MQ ?_ ?_) (jE (b:=true) (jO (MQ (m:=[x]) ?_ (by show 1<=1000;decide)) (jE (b:=true) (d:= .lst (mq (L.map cD) none (some q))) rfl).r (jE (b:=true) (Ra rfl)).r)).r (jE (b:=true) (d:= .lst (mq (L.map cD) (some (q+1)) none)) rfl).r) (show 7<11 by decide))).trans ?_
 ·have:=nR (L.map cD) none (some q);simp at this ⊢;lia
 ·have:=nR (L.map cD) (some (q+1)) none;simp at this ⊢;lia
 ·have:=nR (L.map cD) none (some q);simp at this ⊢;lia
 have e11:gB iz [(gn 3),(gn 5)] (δ6 (S7 true))=some ((.bl (tB n x),false),δ6 (S7 true)):=jU2 ((vK n (by lia) x hx).trans (by rw[Fn])) (jV rfl) (jV rfl)
 have e12:gK gIx (gq (jw [(fC .non),(fC (.str "turning"))])) (gq (ig (g1 EE) [(gq (Cs (gB iz [(gn 3),(gn 5)])))])) (δ6 (S7 true))=some ((pB n M,false),δ6 (S7 true)):=by
  refine jO (a:= .lst [.non,.str "turning"]) ?_ (jE (b:=true) (by simp[iZ])).r (jE (jC (NZ (!tB n x)) (jE (b:=false) (by rw[N0,e11];rfl)).r)).r;unfold pB;rw[allM];cases tB n x<;>rfl
 let δ8:Bool->Bool->Dn:=fun f g=>[z0,ii k,stt a9 b,ii n,S4 f,X5,ii q,S7 g,X8,c9,n4]
 have dd:(pB n M).dep<=50:=by unfold pB;split<;>simp[D.dep]
 refine(gO (δ1:=δ8 true true) (kx (i:=8) e12 (show 8<11 by decide))).trans ?_;have f1:fFz 4 Qy (δ8 true true)=some ((.non,false),δ8 false true):=(D2 (d:= .lst (L.map cD)) (δ:=δ8 false true) hn (.inl rfl) (fun y hy=>by obtain⟨t,ht,rfl⟩:=oI.mp hy;exact okL t ht) rfl (jV rfl)).trans (by unfold pB;rw[gz allL]);have f2:fFz 7 Qx (δ8 false true)=some ((pB n M,false),δ8 false false):=D2 (d:= .lst M) (δ:=δ8 false false) hn (.inl rfl) okM rfl (jV rfl);have f3:fFz 7 Qw (δ8 false false)=some ((pB n M,false),δ8 false false):=D2 (d:= .lst M) (δ:=δ8 false false) hn (.inr rfl) okM rfl (jE (b:=false) (jC rfl (jV rfl).r));refine(gO (δ1:=δ8 false true) ((xg (tY (o:=false) (jI (o1:= .val (.non,false)) (o2:= .val (.non,false)) (δ1:=δ8 false true) (δ2:=δ8 false true) (gX f1) rfl rfl rfl rfl))).trans rfl)).trans ?_;refine(gO (δ1:=δ8 false false) ((xg (tY (o:=false) (jI (o1:= .val (pB n M,false)) (o2:= .slot 8) (δ1:=δ8 false false) (δ2:=δ8 false false) (gX f2) rfl rfl rfl (xZ dd)))).trans rfl)).trans ?_;refine(gO (δ1:=δ8 false false) ((xg (tY (o:=false) (jI (o1:= .val (pB n M,false)) (o2:= .slot 8) (δ1:=δ8 false false) (δ2:=δ8 false false) (gX f3) rfl rfl rfl (xZ dd)))).trans rfl)).trans ?_;refine(gO (δ1:=δL n4) (kx (i:=9) (δ1:=[z0,ii k,stt dR b,ii n,S4 false,X5,ii q,S7 false,X8,c9,n4]) (jI (o1:= .val (.lst Bh,true)) (o2:= .val (.int r,false)) (δ1:=δ8 false false) (gX (by simp[δ8,Jv,iZ,Bh])) (gX (e10 _ z0 (ii k) [ii n,S4 false,X5,ii q,S7 false,X8,c9,n4] (.val (.int 11,false)) rfl rfl)) rfl rfl (ixl r0 (by simpa[Bh] using r1))) (show 9<11 by decide))).trans ?_;refine(gO ((oO (δ1:=δL n4) (He (o:=true) ?_)).trans ef)).trans rfl;simp[δL,js,iZ,S4,S7]
theorem P6(ns:ie)(hl:ns.length<=63): ∃o outs,rE [(.lst (ns.map .int),false)]=some ((.bl true,o),outs):=by
 let z0:Sl:=some (.lst (ns.map .int),false)
 let N:Nat:=if 1<min ns.length 8 then min ns.length 8 else 1
 let δn:Dn:=[z0,none,none,none,none,none,none,none,none,none,none]
 obtain⟨_,⟨d1,d2,d3,d4,d5,d6,d7,d8,d9,cP,_,rfl⟩,e⟩:=tU (tg:=gW 1) (fb:=Nn) (fun ds δ=> ∃d1 d2 d3 d4 d5 d6 d7 d8 d9 cP,(∀d∈ds,∃k:Nat,d= .int k)/\δ=[z0,d1,d2,d3,d4,d5,d6,d7,d8,d9,cP]) (fun d ds δ ⟨d1,d2,d3,d4,d5,d6,d7,d8,d9,cP,h1,h⟩=>by
  subst h;obtain⟨k,rfl⟩:=h1 d iN;obtain⟨g2,g3,g4,g5,g6,g7,g8,g9,g10,e⟩:=Ko ns k d2 d3 d4 d5 d6 d7 d8 d9 cP
  exact⟨_,_,rfl,e,_,_,_,_,_,_,_,_,_,_,fun x hx=>h1 x (iK _ hx),rfl⟩) (iH 0 N) δn ⟨none,none,none,none,none,none,none,none,none,none,fun d hd=>by
   obtain⟨k,_,rfl⟩:=oI.mp hd;exact⟨k,by simp⟩,rfl⟩
 refine⟨false,_,oY (δ:=[z0,d1,d2,d3,d4,d5,d6,d7,d8,d9,cP]) ⟨rfl,by decide,rfl⟩ ?_⟩;refine(gO ((oO (ds:=iH 0 N) (δ1:=δn) ?_).trans e)).trans (lU rfl);refine AQ (o:= .val (.int N,false)) (gX ?_) rfl (by simp only[N];split<;>lia)
 have hN:(N:Int)=if(if(8:Int)<ns.length then 8 else(ns.length:Int))>1 then(if(8:Int)<ns.length then 8 else(ns.length:Int)) else 1:=by
  simp only[N];split<;>split<;>split<;>lia
 rw[hN];simp[z0,δn]
end PV
theorem K42.main(ns:ie)(hl:ns.length<=63): ∃o outs,PV.rE [(.lst (ns.map .int),false)]=some ((.bl true,o),outs):=PV.P6 ns hl
namespace PySem.W.Fast
def tw16756484738521400312:=()
def tw2575474452563000685:=()
def tw8076367548501798858:=()
def tw5112966432888486960:=()
def tw16425247988130777611:=()
def tw12675142679186202532:=()
def tw3537065363227688055:=()
def tw12303373908640867181:=()
def tw8066036181834133942:=()
def tw9391069086372982436:=()
def tw4469774510730233910:=()
def tw13938268239318863824:=()
def tw5919113017781664662:=()
def tw13256070645246498343:=()
def tw7698153891804199425:=()
def tw2461660530541121381:=()
def tw9027174034041859454:=()
def tw8680459449844909825:=()
def tw15011581940972850989:=()
def tw4820128428016190972:=()
def tw2411833950271956455:=()
def tw7302871221940995861:=()
def tw7009895051274586664:=()
def tw5572574869099391039:=()
def tw4511339552338026638:=()
def tw3020465075318714142:=()
def tw13356399767142036816:=()
def tw1187064549855116798:=()
def tw11486464951434176249:=()
def tw10440052668146538963:=()
def tw3904473717441098763:=()
def tw3310737584176893102:=()
def tw621461479698715240:=()
def tw3402033608868292108:=()
def tw15238230515994476657:=()
def tw3014864135690415592:=()
def tw7161620697917008701:=()
def tw16611057055338117982:=()
def tw9520143263534647293:=()
def tw651467712344554503:=()
def tw10463937405176112764:=()
def tw7863088161810176520:=()
def tw7192235204286712679:=()
def tw9902010742433085617:=()
def tw9451219429871794674:=()
def tw8936733113217863249:=()
def tw8144761273078600777:=()
def tw5711349133423927007:=()
def tw3750803607264596051:=()
def tw369044238632806515:=()
def tw17022770898190677954:=()
def tw1513404561393343118:=()
def tw1274352181036151115:=()
def tw11916381561720647480:=()
def tw10637844774861041323:=()
def tw9275463458511931974:=()
def tw833706796193280648:=()
def tw742884359878825828:=()
def tw7400010956249577853:=()
def tw7178995204981172463:=()
def tw5384728311856949902:=()
def tw15586338150735592586:=()
def tw15251182629234715831:=()
def tw15115858273608544177:=()
def tw13689542227664422656:=()
def tw11326293696802443436:=()
def tw16050722159333861877:=()
def tw14749383089054950971:=()
def tw12124509784511359485:=()
def tw15553826680943957888:=()
def tw17112457352148345175:=()
def tw16102432674765952856:=()
def tw9090692809298896658:=()
def tw9560197831339002420:=()
def tw8231506717527472561:=()
def tw2611497927569883511:=()
def tw18267697389455436486:=()
def tw12594741242744830558:=()
def tw13243082302621813159:=()
def tw2051834233153343195:=()
def tw5774624393647309659:=()
def tw6276112826951734758:=()
def tw8601455055444731953:=()
def tw483311857668675980:=()
def tw7047786781942412587:=()
def tw6961912403890019452:=()
def tw3956654807933815127:=()
def tw11993043431463730201:=()
def tw7424718514681892490:=()
def tw4037833026412992136:=()
def tw9958290712115594789:=()
def tw13406962224984548696:=()
def tw10272811098312465845:=()
def tw2044488402041597009:=()
def tw11945837940895825898:=()
def tw5059474176127881270:=()
def tw9901628459737149270:=()
def tw16480491837918355905:=()
def tw16988523354419520538:=()
def tw4699315929186237704:=()
def tw12312319728671202769:=()
def tw16979902669543202364:=()
def tw12763037143830731195:=()
def tw7492931268853271482:=()
def tw16726451551517247039:=()
def tw12682161172621917663:=()
def tw2932294740657917968:=()
def tw9762281036045845406:=()
def tw10781243689408065331:=()
def tw13492486577837042490:=()
def tw3531642583947931516:=()
def tw18430976785682403904:=()
def tw11345249177685976609:=()
def tw2499265385432962578:=()
def tw18351417503967025526:=()
def tw467556755705552840:=()
def tw13987857621036531702:=()
def tw14341840579842642810:=()
def tw17646178680451453046:=()
def tw2455427888270664105:=()
def tw16583571986170966497:=()
def tw13652126926247841825:=()
def tw9340751204301399271:=()
def tw2727908902730034024:=()
def tw1805907753109623565:=()
def tw12313062415789703299:=()
def tw14842085175193647464:=()
def tw15413978637952666493:=()
def tw3627843158416274466:=()
def tw3957947251434415897:=()
def tw15372078485786311674:=()
def tw12939083687286535981:=()
def tw11280531267942611003:=()
def tw18025817640988247472:=()
def tw3619610954344341385:=()
def tw10607183268455692615:=()
def tw14505288426754933305:=()
def tw12819288444917982162:=()
def tw22528205533875481:=()
def tw684838511878571213:=()
def tw4989449848982350596:=()
def tw11760503267738441112:=()
def tw18217787095196031575:=()
def tw2253502279496447744:=()
def tw7056574468430358737:=()
def tw5019592016831966637:=()
def tw13181605241138071792:=()
def tw10491399903087811937:=()
def tw8328562625813808584:=()
def tw8385637562871309858:=()
def tw15313892227449883201:=()
def tw1463430992311174662:=()
def tw10204104758031658906:=()
def tw15744262166646275818:=()
def tw5183279614785293243:=()
def tw8915880168678754965:=()
def tw11463503958534118371:=()
def tw12269258484668838806:=()
def tw1273897828998238186:=()
def tw15500019784613154202:=()
def tw179833275218268432:=()
def tw1713342301562585703:=()
def tw774237513875567904:=()
def tw4708560053354510103:=()
def tw2752854739730072422:=()
def tw270011475833166573:=()
def tw18351750481405075433:=()
def tw18046324007740115894:=()
def tw12914720890568575490:=()
def tw12572322220911816489:=()
def tw10664943408966000374:=()
def tw18005963559947319983:=()
def tw14715370863619339208:=()
def tw5278809708161468336:=()
def tw7963851631588378594:=()
def tw8990274570476171766:=()
def tw2970388839442410907:=()
def tw3866101306817692564:=()
def tw6051191869195177252:=()
def tw6734455635433490872:=()
def tw13992991790348179917:=()
def tw12511506015546479768:=()
def tw13992241925421227272:=()
def tw3923580832952245080:=()
def tw6832566102208423112:=()
def tw5632302322466077318:=()
def tw222808517398118310:=()
def tw7959411383255169181:=()
def tw5445948370935443:=()
def tw12363759881734028044:=()
def tw7629294997784602089:=()
def tw14888375818332907673:=()
def tw10023622221796020156:=()
def tw99972769005960014:=()
def tw6378124413661648745:=()
def tw9673000540670313123:=()
def tw13715229141825974408:=()
def tw15876652669903754786:=()
def tw5049535297143459830:=()
def tw10763230330958298763:=()
def tw12525543814693254758:=()
def tw12314350860877589437:=()
def tw2268897932070680055:=()
def tw14524975281428928846:=()
def tw17924903731580857922:=()
def tw10869903363349366144:=()
def tw7365483571039761532:=()
def tw17441448159818860476:=()
def tw12380902683299129188:=()
def tw8670772210562139425:=()
def tw9132316405556759496:=()
def tw12313806266016426351:=()
def tw11852153472761177263:=()
def tw5691981104884255221:=()
def tw1181474792207689353:=()
def tw18034033906479257267:=()
def tw9239329198716003369:=()
def tw17392880037996660826:=()
def tw13608607075659361225:=()
def tw12617560025451429766:=()
def tw2105715239477566554:=()
def tw17977863652780103877:=()
def tw16125890174696479309:=()
def tw10979421193032524219:=()
def tw3561244074290798747:=()
end PySem.W.Fast
open PySem PySem.W PyProof.Rows PX
set_option maxRecDepth 100000 in
set_option maxHeartbeats 0 in
theorem PySem.Challenge.cw_twinriddles_k42_spans_refused_holds : PySem.Challenge.rw_twinriddles_k42_spans_refused.Holds := by
  w_on; o_law; k_head; (case hw => w_witness2)
  k_fill
  refine walkT (TB := K42.TB42) (l := PySem.Challenge.rw_twinriddles_k42_spans_refused) (LV := 10) (x := "_law_script") ⟨rfl, by decide, by decide⟩ rfl rfl (fun w h Y => PySem.W.km_in_of Y) (fun w h Y => aC (PySem.W.km_tabs_of Y _ List.mem_cons_self) aN) (fun w => aC ?K aN) (by decide) ?F K42.main
  case K => show List.lookup 295 _ = none; kernel_rfl
  case F =>
   intro w mg fa h KX G hmg
   refine' K42.all_mk hmg (txK KX G ?_ ?_ ?_ ?_ ?_ ?_ ?_ ?_ ?_ ?_ ?_ ?_ ?_ ?_ ?_ ?_) (fz KX G ?_ ?_ ?_ ?_) (fz KX G ?_ ?_ ?_ ?_) (fz KX G ?_ ?_ ?_ ?_) (fz KX G ?_ ?_ ?_ ?_) (fz KX G ?_ ?_ ?_ ?_) (fz KX G ?_ ?_ ?_ ?_) (fz KX G ?_ ?_ ?_ ?_) (fz KX G ?_ ?_ ?_ ?_) (fz KX G ?_ ?_ ?_ ?_) (fz KX G ?_ ?_ ?_ ?_) (fz KX G ?_ ?_ ?_ ?_) (fz KX G ?_ ?_ ?_ ?_) (fz KX G ?_ ?_ ?_ ?_) (fz KX G ?_ ?_ ?_ ?_) (fz KX G ?_ ?_ ?_ ?_) (fz KX G ?_ ?_ ?_ ?_) (fz KX G ?_ ?_ ?_ ?_) (fz KX G ?_ ?_ ?_ ?_) (fz KX G ?_ ?_ ?_ ?_) (fz KX G ?_ ?_ ?_ ?_) (fz KX G ?_ ?_ ?_ ?_) (fzT KX G ?_ ?_ ?_ ?_ ?_) ⟨(aC (PySem.W.mg_of KX G ?_) (aC (PySem.W.mg_of KX G ?_) (aC (PySem.W.mg_of KX G ?_) (aC (PySem.W.mg_of KX G ?_) (aC (PySem.W.mg_of KX G ?_) (aC (PySem.W.mg_of KX G ?_) (aC (PySem.W.mg_of KX G ?_) (aC (PySem.W.mg_of KX G ?_) (aC (PySem.W.mg_of KX G ?_) (aC (PySem.W.mg_of KX G ?_) aN)))))))))), (aC (PySem.W.mg_of KX G ?_) (aC (PySem.W.mg_of KX G ?_) aN)), (aC (aC (show PySem.W.kitOne _ (.ref 61) (.ref 37) = some false from ?_) (aC (show PySem.W.kitOne _ (.ref 61) (.ref 49) = some false from ?_) (aC (show PySem.W.kitOne _ (.ref 61) (.ref 61) = some true from ?_) (aC (show PySem.W.kitOne _ (.ref 61) (.ref 73) = some false from ?_) (aC (show PySem.W.kitOne _ (.ref 61) (.ref 85) = some false from ?_) (aC (show PySem.W.kitOne _ (.ref 61) (.ref 97) = some false from ?_) (aC (show PySem.W.kitOne _ (.ref 61) (.ref 109) = some false from ?_) (aC (show PySem.W.kitOne _ (.ref 61) (.ref 121) = some false from ?_) (aC (show PySem.W.kitOne _ (.ref 61) (.ref 133) = some false from ?_) (aC (show PySem.W.kitOne _ (.ref 61) (.ref 145) = some false from ?_) aN)))))))))) (aC (aC (show PySem.W.kitOne _ (.ref 85) (.ref 37) = some false from ?_) (aC (show PySem.W.kitOne _ (.ref 85) (.ref 49) = some false from ?_) (aC (show PySem.W.kitOne _ (.ref 85) (.ref 61) = some false from ?_) (aC (show PySem.W.kitOne _ (.ref 85) (.ref 73) = some false from ?_) (aC (show PySem.W.kitOne _ (.ref 85) (.ref 85) = some true from ?_) (aC (show PySem.W.kitOne _ (.ref 85) (.ref 97) = some false from ?_) (aC (show PySem.W.kitOne _ (.ref 85) (.ref 109) = some false from ?_) (aC (show PySem.W.kitOne _ (.ref 85) (.ref 121) = some false from ?_) (aC (show PySem.W.kitOne _ (.ref 85) (.ref 133) = some false from ?_) (aC (show PySem.W.kitOne _ (.ref 85) (.ref 145) = some false from ?_) aN)))))))))) aN)), (aC (show PySem.W.kitOne _ (.ref 61) (.type "ValueError") = some true from ?_) (aC (show PySem.W.kitOne _ (.ref 85) (.type "ValueError") = some true from ?_) aN)), (aC (show ClK _ 61 24 from ⟨⟨?_, ?_, ?_, ?_, ?_, ?_, ?_, ?_⟩, (aC ?_ (aC ?_ (aC ?_ (aC ?_ (aC ?_ (aC ?_ aN)))))), ?_⟩) (aC (show ClK _ 85 24 from ⟨⟨?_, ?_, ?_, ?_, ?_, ?_, ?_, ?_⟩, (aC ?_ (aC ?_ (aC ?_ (aC ?_ (aC ?_ (aC ?_ aN)))))), ?_⟩) aN)), (aC (show PySem.W.excIn _ 61 _ _ = true from ?_) (aC (show PySem.W.excIn _ 85 _ _ = true from ?_) aN)), PySem.W.mg_none_of KX G ?_, PySem.W.mg_none_of KX G ?_, PySem.W.mg_of KX G ?_⟩ (mgI KX G ?_) <;> try first | k_is | kernel_rfl
