import PyProof.Rows.All
import Wide.All
import OpenK.AllK
import Wide.FinOn
import PyProof.EqAt
import PyProof.EqKinds
import PyProof.TupleCall
import Lean
import PySem.Challenge.RW_twinriddles_k22_riddles_and_answers_led
set_option Elab.async false
set_option linter.all false
set_option maxRecDepth 100000
set_option maxHeartbeats 8000000
noncomputable section
section
open PySem PySem.Spec PyProof.Rows
abbrev hZ:=Value->Shared->Prop
abbrev hG:=List (Addr×Obj)
abbrev gK:=PySem.W.Frag
abbrev kE:=List (List Int)
abbrev gC:=List Int
abbrev ik:=List Value
abbrev jX:=Str->Option Value
abbrev iI:=List Nat
abbrev lA:=Array Value
abbrev iw:=List Str
abbrev iO:=List Expr
abbrev CC:=Option Value->Shared->Prop
abbrev vK:=Value->Value->Sem Value
abbrev pW:=Array (Option Value)
abbrev jy:=List (Str×Addr)
abbrev om:=List Comprehension
abbrev zU:=Array Keyed
abbrev iK:=Nat->Prop
abbrev ji:=List Addr
abbrev gu:=Shared
abbrev gS:=Program
abbrev gR:=Around
abbrev gO:=World
abbrev pV:=SortSt
abbrev gz:=Value
abbrev pM:=Comprehension
abbrev kY:=FuncData
abbrev iq:=Scope
abbrev gw:=Expr
abbrev gL:=Heap
abbrev gm:=Addr
end
section
open PySem PySem.Spec PyProof.Rows PySem.SeqAt
def gq:=@wpAny_bind
def gE:=@wpAny_pure
theorem gF:type_of% @if_pos:=@if_pos
theorem hJ:type_of% @if_neg:=@if_neg
def iA:=@Heap.get?_push_of_some
theorem iz:type_of% @Option.bind_some:=@Option.bind_some
def iJ:=@Heap.lt_size
theorem iY:type_of% @Nat.le_refl:=@Nat.le_refl
theorem je:type_of% @List.size_toArray:=@List.size_toArray
theorem jw:type_of% @List.map_cons:=@List.map_cons
theorem ir:type_of% @List.map_map:=@List.map_map
theorem jM:type_of% @List.mem_cons:=@List.mem_cons
theorem iB:type_of% @sizeLine_eq:=@sizeLine_eq
def iP:=@Nat.ne_of_lt
theorem mO:type_of% @List.mem_map:=@List.mem_map
theorem iW:type_of% @List.getElem?_eq_getElem:=@List.getElem?_eq_getElem
theorem ja:type_of% @if_true:=@if_true
theorem jm:type_of% @List.length_map:=@List.length_map
theorem jl:type_of% @if_false:=@if_false
def js:=@Option.some.inj
def jr:=@Heap.get?_push_size
def jB:=@List.mem_cons_self
theorem jA:type_of% @List.mem_cons_of_mem:=@List.mem_cons_of_mem
theorem jL:type_of% @List.getElem?_map:=@List.getElem?_map
def jT:=@Bool.false_ne_true
theorem jY:type_of% @Bool.false_eq_true:=@Bool.false_eq_true
def uG:=@List.getElem?_eq_some_iff
theorem kh:type_of% @List.getD_eq_getElem?_getD:=@List.getD_eq_getElem?_getD
theorem kx:type_of% @List.not_mem_nil:=@List.not_mem_nil
theorem rK:type_of% @List.mem_append:=@List.mem_append
theorem kT:type_of% @List.length_cons:=@List.length_cons
theorem kZ:type_of% @Bool.and_eq_true:=@Bool.and_eq_true
theorem md:type_of% @List.all_eq_true:=@List.all_eq_true
def lE:=@wpAny_newObj_type
theorem lD:type_of% @or_false:=@or_false
def lQ:=@wpAny_mono
def lP:=@congrArg
def lO:=@wpAny_holding
def lN:=@wpAny_field
def mx:=@Nat.lt_of_lt_of_le
def mw:=@Nat.le_trans
def mv:=@List.getElem?_set_self
def mJ:=@Ne.symm
def mI:=@List.getElem?_set_ne
def mH:=@Nat.ne_of_gt
theorem mG:type_of% @List.lookup_cons:=@List.lookup_cons
def mF:=@Nat.zero_le
def mE:=@PySem.W.mg_none_of
theorem ni:type_of% @Array.length_toList:=@Array.length_toList
theorem nh:type_of% @List.map_congr_left:=@List.map_congr_left
def uF:=@List.pairwise_append
def oi:=@List.pairwise_map
def nH:=@List.map_id
def ou:=@decide_eq_false
def ot:=@List.mem_append_right
def oq:=@PySem.mem_of_lookup
theorem oo:type_of% @List.map_nil:=@List.map_nil
theorem pO:type_of% @List.length_append:=@List.length_append
theorem pN:type_of% @List.append_assoc:=@List.append_assoc
def Gn:=@List.pairwise_cons
def pZ:=@Nat.lt_irrefl
def pY:=@wpAny_call_entry
theorem pX:type_of% @not_or:=@not_or
def rJ:=@wpAny_rule
theorem wJ:type_of% @List.nodup_cons:=@List.nodup_cons
def IS:=@Option.isSome_iff_exists
def rH:=@List.getElem?_append_right
theorem rG:type_of% @List.length_set:=@List.length_set
def Gm:=@List.mem_singleton
def rF:=@Heap.size_push
theorem rE:type_of% @List.length_nil:=@List.length_nil
def rC:=@wpAny_setField_rec
theorem rB:type_of% @List.nil_append:=@List.nil_append
def tE:=@codeAny_mono
theorem tD:type_of% @List.length_take:=@List.length_take
theorem tx:type_of% @List.getElem?_replicate:=@List.getElem?_replicate
def tw:=@List.mem_of_getElem?
def tu:=@wpAny_callSpecial?_slot
def xj:=@PyProof.Rows.slot_tuple_getitem
def tm:=@wpAny_typeOf
def tj:=@eq_of_beq
theorem tf:type_of% @List.replicate_succ:=@List.replicate_succ
def sZ:=@Prod.mk.inj
def sY:=@PySem.W.kia_one
def sV:=@PySem.W.kia_tup
def sU:=@codeAny_builtin
def sQ:=@wpAny_attempt
theorem sO:type_of% @List.nodup_nil:=@List.nodup_nil
def vQ:=@wpAny_Call_Name_kw
def vP:=@List.getElem?_append_left
def vO:=@call_meets
theorem vN:type_of% @Nat.zero_add:=@Nat.zero_add
def vM:=@List.exists_cons_of_length_pos
theorem vL:type_of% @List.map_append:=@List.map_append
theorem CD:type_of% @List.mem_range:=@List.mem_range
def xi:=@Nat.le_of_lt
def xh:=@wpAny_standAt
def xg:=@wpAny_passesOwn
def xb:=@Around.under_plainId
def xa:=@Heap.SameBut.update
def se:=@listUpdate_at
theorem sd:type_of% @List.cons_append:=@List.cons_append
def uZ:=@Paired.length
def uY:=@wpAny_truthy_bool
def uX:=@IsTup.new
def uW:=@List.flatten_cons
def uV:=@Array.getElem?_toList
theorem uU:type_of% @bne_self_eq_false:=@bne_self_eq_false
theorem uT:type_of% @List.find?_cons:=@List.find?_cons
theorem uS:type_of% @List.any_cons:=@List.any_cons
def uR:=@tupleKind_room_in1
def uQ:=@List.drop_eq_getElem_cons
def uP:=@Nat.lt_succ_self
def uO:=@List.ext_getElem?
theorem uN:type_of% @decide_eq_true_eq:=@decide_eq_true_eq
def uM:=@plainId_quiet
def uL:=@wpAny_seqItems
def MF:=@Nat.not_lt
theorem ET:type_of% @List.pairwise_reverse:=@List.pairwise_reverse
def ME:=@List.length_pos_iff
def uK:=@List.cons.inj
def uJ:=@get?_update_seq
def uI:=@List.Perm.refl
theorem uH:type_of% @List.getElem_map:=@List.getElem_map
def MD:=@List.length_eq_zero_iff
theorem CF:type_of% @beq_eq_false_iff_ne:=@beq_eq_false_iff_ne
def xS:=@wpAny_execs_nil
def xR:=@Int.mul_one
def xQ:=@wpAny_call
def xP:=@List.take_sublist
theorem xN:type_of% @Int.toNat_natCast:=@Int.toNat_natCast
def xM:=@Heap.get?_update_self
def xK:=@List.reverse_cons
def xJ:=@Nat.le_succ
theorem xH:type_of% @List.foldl_cons:=@List.foldl_cons
theorem xG:type_of% @decide_eq_true:=@decide_eq_true
def xF:=@Nat.lt_succ_of_lt
def xD:=@List.getElem?_set
def xy:=@List.drop_eq_nil_of_le
def Gp:=@List.getElem?_zip_eq_some
def xw:=@wpAny_onRaise
def xv:=@List.reverse_perm
def xu:=@List.eq_nil_of_length_eq_zero
def xt:=@List.take_append_drop
theorem xq:type_of% @Nat.min_eq_left:=@Nat.min_eq_left
def xp:=@seqEpoch_at
def zV:=@PySem.F.slot_dict_keyiterator_next
def xo:=@List.ext_getElem
def xm:=@List.mem_map_of_mem
def OM:=@beq_iff_eq
theorem xl:type_of% @List.mem_flatMap:=@List.mem_flatMap
def Bt:=@List.filterMap_cons
def Bs:=@List.mem_append_left
def Br:=@wpAny_pyIter_list
def Bq:=@boot_range
def Bp:=@PyProof.Rows.callWith_type1
def Bo:=@List.append_nil
def Bm:=@List.of_mem_zip
def Bl:=@PySem.W.cellsFrom_some
def Bk:=@concat_meets
def Bj:=@slicePart_none
def Bi:=@Heap.get?_update_other
def Bh:=@codeAny_of_tree
def Bg:=@PySem.F.plainAttrs_list
def Bf:=@wpAny_of_eq
def Be:=@wpAny_setField
def Bc:=@Obj.data_mapFields
def Bb:=@wpAny_newTuple
def Ba:=@wpAny_letGo
def A9:=@F.slot_enumerate_next
def A8:=@wpAny_isInstance
def A7:=@codeAny_call_builtin
def A6:=@List.length_reverse
def A5:=@List.getElem_of_mem
theorem A4:type_of% @List.extract_eq_take_drop:=@List.extract_eq_take_drop
theorem A0:type_of% @List.take_of_length_le:=@List.take_of_length_le
def AZ:=@List.mem_of_mem_take
def AY:=@AutoSeq1.sub_tuple_tuple
def AX:=@wpAny_forIn_list
def AW:=@richCompare_meets_room
def AV:=@wpAny_newList
def AU:=@Bool.or_eq_true
def AS:=@wpAny_typeNameOfWhole_keyiter
def AR:=@List.length_eraseIdx
def ES:=@Array.append_assoc
def EO:=@List.getElem_inj
def EN:=@assignInOrder_cons
def EM:=@wpAny_bindName
def SY:=@List.mem_filterMap
def EL:=@Calls.spliced_nil
def EK:=@Calls.spliced_cons
def EJ:=@noFill_tuple_add
def EI:=@seq_tuple_add
def EH:=@PySem.F.slot_tuple_add
def EG:=@PySem.F.entry_tuple_add
def EF:=@PySem.F.args_tuple_add_2
def EE:=@List.length_drop
def ED:=@wpAny_sequenceKey
def EC:=@entry_tuple_getitem
def EB:=@args_tuple_getitem
def EA:=@tupleItemsOf_
def Ez:=@evalPart_none
def Ey:=@seqIndex_of
def Ex:=@seqIndex_neg
def Ew:=@List.length_dropLast
def Eu:=@Nat.lt_asymm
def Et:=@Nat.lt_trans
def Es:=@wpAny_comprehension_free
def Er:=@Heap.SameBut.refl
def Ep:=@Option.isSome_map
def Eo:=@List.getElem?_zipIdx
def MC:=@F.called_tuple
def En:=@isSubtype_stop
def Em:=@wpAny_point
def SW:=@Array.getElem?_eq_some_iff
def El:=@StateT.run_pure
def Ek:=@List.range'_succ
def Ej:=@Nat.add_sub_cancel_left
def Ei:=@List.mem_of_mem_drop
def Eh:=@List.take_succ
def Eg:=@listItems_at
def Ef:=@Heap.get?_update_ne
def Ee:=@wpAny_collect_seq
def Ed:=@wpAny_dictEntries
def Eb:=@wpAny_dictEpoch
def Ea:=@List.any_map
def MA:=@F.slot_list_getattribute
def D9:=@Nat.lt_of_le_of_lt
def D8:=@List.dropLast_concat_getLast
def D7:=@List.Perm.of_eq
def JG:=@wpAny_storeName_local
def JF:=@Calls.Name_function_global
def JE:=@Int.fdiv_eq_ediv_of_nonneg
def JD:=@Around.frames_deeper
def JC:=@List.length_replicate
def JB:=@codeAny_call_function
def JA:=@wpAny_newFunctionEnv_cells
def Jz:=@subscriptTail_builtinR
def Jy:=@Calls.callWith_builtin
def Jx:=@Calls.evalArgs_plain
def Jw:=@F.entry_list_append
def Jv:=@F.args_list_append_2
def Ju:=@List.length_singleton
def Jt:=@List.eraseIdxIfInBounds_toArray
def Js:=@PySem.F.slot_list_pop
def Jr:=@PySem.F.type_list_pop
def Jq:=@F.entry_object_init
def Jp:=@F.slot_tuple_iterator_next
def Jo:=@Obj.isFreed_of_fields
def Jn:=@F.entry_enumerate_next
def Jm:=@F.args_enumerate_next_1
def Jl:=@wpAny_updateSeq_pair
def Jk:=@List.pairwise_singleton
def Jj:=@List.eq_nil_or_concat
def Ji:=@List.concat_eq_append
def OL:=@List.pairwise_iff_getElem
def OJ:=@List.perm_append_comm
def Jh:=@List.Perm.eq_of_pairwise
def Jg:=@PySem.F.slot_dict_iter
def Jf:=@wpAny_notOrdered_dict
def Je:=@PySem.F.entry_dict_keyiterator_next
def Jd:=@PySem.F.args_dict_keyiterator_next_1
def Jc:=@wpAny_isOneOf_keyiter
def Jb:=@PySem.F.plain_list_iadd
def S9:=@Array.toList_eq_nil_iff
def Ja:=@Array.toArray_toList
def I9:=@List.dropLast_eq_take
def S8:=@Array.getElem?_eq_none_iff
def IZ:=@Array.toList_append
def S7:=@PySem.F.attr_TypeError
def IY:=@List.perm_cons_erase
def IW:=@List.mem_erase_of_ne
def IV:=@List.dropLast_subset
end
namespace TT
open PySem
noncomputable def adv(a:Nat)(p:SetTable.Probe):SetTable.Probe:=
 if p.more>0 then {p with j:=p.j+1,more:=p.more-1} else
 {p with j:=(SetTable.leap a p.i p.perturb).1,more:=SetTable.runEnd a (SetTable.leap a p.i p.perturb).1-(SetTable.leap a p.i p.perturb).1,i:=(SetTable.leap a p.i p.perturb).1,perturb:=(SetTable.leap a p.i p.perturb).2}
noncomputable def stt(a:Nat)(h:Int):SetTable.Probe:={j:=SetTable.bits h%(a+1),more:=SetTable.runEnd a (SetTable.bits h%(a+1))-SetTable.bits h%(a+1),i:=SetTable.bits h%(a+1),perturb:=SetTable.bits h,dummy:=none}
noncomputable def pr(a:Nat)(h:Int):Nat->SetTable.Probe
 |0=>stt a h
 |n+1=>adv a (pr a h n)
structure TabOk(hs:gC)(t:SetTable):Prop where
 pow: ∃k,3<=k/\k<=11/\t.mask+1=2^k
 dum:t.dummies= #[]
 len:t.place.size=hs.length
 room:5*hs.length<3*t.mask
 ris:t.place.toList.Pairwise (· < ·)
 bd: ∀j∈t.place.toList,j<=t.mask
 road: ∀(i:Nat) (h:Int) (j:Nat),hs[i]?=some h->t.place[i]?=some j-> ∃n,(pr t.mask h n).j=j/\ ∀m,m<n->(pr t.mask h m).j∈t.place.toList
end TT
namespace L2
open PySem PySem.Spec PyProof.Rows
abbrev Key:=Sum Int Str
noncomputable def wa:Key->Value->Bool
 | .inl k,v=>Value.isInt k v
 | .inr x,v=>Value.isStrOf x v
noncomputable def VZ(w:gO):Key->Int
 | .inl k=>hashInt k
 | .inr x=>hashStr w x
def jz: ∀{k:Key} {v:gz},wa k v=true->(∃i t,k=Sum.inl i/\v=Value.int i t)\/(∃x t,k=Sum.inr x/\v=Value.str x t)
 | .inl i,v,h=>by
  obtain⟨t,e⟩:=Value.isInt_shape (k:=i) (v:=v) h;exact .inl ⟨i,t,rfl,e⟩
 | .inr x,v,h=>by
  obtain⟨t,e⟩:=Value.isStrOf_shape (x:=x) (v:=v) h;exact .inr ⟨x,t,rfl,e⟩
def Ir(i:Int)(t:Tok):wa (.inl i) (.int i t)=true:=by simp[wa,Value.isInt]
def Iq(x:Str)(t:Tok):wa (.inr x) (.str x t)=true:=by simp[wa,Value.isStrOf]
theorem LK(a b:Int):decide ((Sum.inl a:Key)=Sum.inl b)=(a==b):=by
 by_cases e:a=b
 ·subst e;simp
 ·have h: ¬(Sum.inl a:Key)=Sum.inl b:=λq=>e (Sum.inl.inj q);rw[ou h];exact(CF.mpr e).symm
theorem LG(a b:Str):decide ((Sum.inr a:Key)=Sum.inr b)=decide (a=b):=by
 by_cases e:a=b
 ·subst e;simp
 ·have h: ¬(Sum.inr a:Key)=Sum.inr b:=λq=>e (Sum.inr.inj q);rw[ou h,ou e]
theorem LJ(a:Int)(b:Str):decide ((Sum.inl a:Key)=Sum.inr b)=false:=ou (λq=>nomatch q)
theorem LH(a:Str)(b:Int):decide ((Sum.inr a:Key)=Sum.inl b)=false:=ou (λq=>nomatch q)
noncomputable def jc(d:gS)(w:gO):PySem.KeyKind d w Key where
 is:=wa
 hash:=VZ w
 inj:=λv a b g f=>by
  rcases jz g with⟨i,t,rfl,rfl⟩|⟨x,t,rfl,rfl⟩
  ·rcases jz f with⟨j,u,rfl,e⟩|⟨y,u,rfl,e⟩
   ·injection e with c _;rw[c]
   ·exact nomatch e
  ·rcases jz f with⟨j,u,rfl,e⟩|⟨y,u,rfl,e⟩
   ·exact nomatch e
   ·injection e with c _;rw[c]
 byValue:=λk v h=>by
  rcases jz h with⟨i,t,rfl,rfl⟩|⟨x,t,rfl,rfl⟩<;>rfl
 pyHash:=λhv h=>by
  rcases jz hv with⟨i,t,rfl,rfl⟩|⟨x,t,rfl,rfl⟩
  ·exact wpAny_pyHash_int h
  ·exact wpAny_pyHash_str h
 eqBool:=λl hv h=>by
  rcases jz l with⟨i,t,rfl,rfl⟩|⟨x,t,rfl,rfl⟩
  ·rcases jz hv with⟨j,u,rfl,rfl⟩|⟨y,u,rfl,rfl⟩
   ·rw[LK] at h;exact wpAny_eqBool_int h
   ·rw[LJ] at h;exact SeqAt.EqAt.int_str i t y u _ _ _ _ h
  ·rcases jz hv with⟨j,u,rfl,rfl⟩|⟨y,u,rfl,rfl⟩
   ·rw[LH] at h;exact SeqAt.EqAt.str_int x t j u _ _ _ _ h
   ·rw[LG] at h;exact wpAny_eqBool_str h
 «strs»:=λk x t v h=>by
  rcases jz h with⟨i,u,rfl,e⟩|⟨y,u,rfl,e⟩
  ·exact nomatch e
  ·injection e with c _
   subst c;cases v<;>rfl
def Dt(a:gS)(w:gO)(i:Int)(t:Tok):(jc a w).is (.inl i) (.int i t)=true:=Ir i t
def Ds(a:gS)(w:gO)(x:Str)(t:Tok):(jc a w).is (.inr x) (.str x t)=true:=Iq x t
inductive V where
 |non|bl(b:Bool)|int(i:Int)|str(x:Str)|byt(b:Array UInt8)|flt(b:UInt64)|ref(a:gm)|ty(n:String)
 deriving DecidableEq
def RelV:V->Value->Prop
 | .non,u=>u=Value.none
 | .bl b,u=>u=Value.bool b
 | .int i,u=> ∃t,u=Value.int i t
 | .str x,u=> ∃t,u=Value.str x t
 | .byt b,u=> ∃t,u=Value.bytes b t
 | .flt b,u=> ∃t,u=Value.float b t
 | .ref a,u=>u=Value.ref a
 | .ty n,u=>u=Value.type n
abbrev Vals:List V->List Value->Prop:=Paired RelV
theorem Vals.length{xs:List V}{us:ik}(r:Vals xs us):xs.length=us.length:=uZ r
theorem Vals.get: ∀{b:List V} {a:ik} {i:Nat} {x:V},Vals b a->b[i]?=some x-> ∃u,a[i]?=some u/\RelV x u
 |_,_,_,_,.nil,e=>by simp at e
 |_,_,0,_,.cons r _,e=>by simp at e;subst e;exact⟨_,rfl,r⟩
 |_,_,i+1,x,.cons _ t,e=>by
  obtain⟨u,h1,c⟩:=Vals.get (i:=i) (x:=x) t (by simpa using e);exact⟨u,by simpa using h1,c⟩
theorem Vals.set{x:V}{u:gz}(r:RelV x u): ∀{xs:List V} {us:ik} (i:Nat),Vals xs us->Vals (xs.set i x) (us.set i u)
 |_,_,_,.nil=> .nil
 |_,_,0,.cons _ t=> .cons r t
 |_,_,i+1,.cons q t=> .cons q (Vals.set r i t)
theorem Vals.append: ∀{c d:List V} {a b:ik},Vals c a->Vals d b->Vals (c++d) (a++b)
 |_,_,_,_,.nil,s=>s
 |_,_,_,_,.cons r t,s=> .cons r (Vals.append t s)
theorem Vals.take: ∀{b:List V} {a:ik} (n:Nat),Vals b a->Vals (b.take n) (a.take n)
 |_,_,0,_=> .nil
 |_,_,_+1,.nil=> .nil
 |_,_,n+1,.cons r t=> .cons r (Vals.take n t)
theorem Vals.drop: ∀{b:List V} {a:ik} (n:Nat),Vals b a->Vals (b.drop n) (a.drop n)
 |_,_,0,r=>r
 |_,_,_+1,.nil=> .nil
 |_,_,n+1,.cons _ t=>Vals.drop n t
def RelO:Option V->Option Value->Prop
 |some v,some u=>RelV v u
 |none,none=>True
 |_,_=>False
def KV{a:Type}:List (a×V)->List (a×Value)->Prop:=Paired λ(p:a×V) (q:a×Value)=>p.1=q.1/\RelV p.2 q.2
noncomputable def kV:Key->V
 | .inl i=> .int i
 | .inr x=> .str x
inductive HO where
 /-- a list -/
 |lst(xs:List V)
 /-- a tuple(never changes) -/
 |tup(xs:List V)
 /-- a dict whose keys are ints and texts;one whose keys are tuples of ints and texts(the empty one is both) -/
 |dK(kvs:List (Key×V))|dT(kvs:List (List Key×V))
 /-- a set of ints:its members,its size -/
 |set (S:Int->Bool) (n:Nat)
 |stt (zs:List (Int×V))
 /-- an instance of the class at C,its dict at dx,its attributes -/
 |ins (C dx:gm) (fs:List (Str×V))
 /-- the dict of the instance at x -/
 |own (x:gm)
 /-- the dict of an exception -/
 |xd (fs:List (Str×V))
 /-- a bound method,f of x -/
 |met (f x:gm)
 /-- a range object lo,lo+1,.. below hi -/
 |rng (lo hi:Int)
 /-- a thing that is known to the object (the script;a dict while a loop walks it):read,never written while it is so -/
 |frz (o:Obj) (u:HO)
 /-- a code object's table -/
 |tbl (ps:lA)
 /-- any other thing,by what is true of its one object (a def of one's own:SetO a S n:=HO.ext λh=> ..) -/
 |ext (φ:Heap->Prop)
abbrev Hp:=Addr->Option HO
noncomputable def upd(H:Hp)(a:gm)(o:HO):Hp:=λb=>if b=a then some o else H b
theorem gU{H:Hp}{a:gm}{o:HO}:upd H a o a=some o:=by unfold upd;rw[gF rfl]
theorem gQ{H:Hp}{a b:gm}{o:HO}(h:b≠a):upd H a o b=H b:=by unfold upd;rw[hJ h]
theorem Gy{H:Hp}{a:gm}{o u:HO}:upd (upd H a o) a u=upd H a u:=by
 funext b;unfold upd;split<;>rfl
theorem Ph{H:Hp}{a b:gm}{o u:HO}(h:H a=some o)(c:H b=some u)(d:o≠u):a≠b:=by
 intro e;subst e;rw[h] at c;exact d (js c)
theorem jS{H:Hp}{a b:gm}{o:HO}(h:H a=some o)(c:H b=none):a≠b:=by
 intro e;subst e;rw[h] at c;cases c
section
variable(P:gS)(w:gO)
def ObjOk(H:Hp)(h:gL)(a:gm):HO->Prop
 | .lst g=>g.length<=sizeLine/\ ∃(b:ik) (n:Nat),Vals g b/\h.get? a=some {cls:= .type "list",data:= .seq b.toArray n}
 | .tup g=>g.length<=sizeLine/\ ∃b:List Value,Vals g b/\IsTup h a b.toArray
 | .dK d=>d.length<=sizeLine/\(a==sysModules)=false/\ ∃k,KV d k/\h.DictOf (jc P w) a k
 | .dT d=>d.length<=sizeLine/\(a==sysModules)=false/\ ∃g:List (List Key×Addr×Value),
   Paired (λ(p:List Key×V) (q:List Key×Addr×Value)=>p.1=q.1/\H q.2.1=some (.tup (p.1.map kV))/\RelV p.2 q.2.2) d g/\
   ∃o j G,h.get? a=some o/\o.ExactDict/\o.data= .dict j G/\j.toList=g.map (entryOfKey (tupleKind (jc P w)))/\(g.map (·.1)).Nodup
 | .set S n=>h.SetOf (intKind P w) a S n
 | .stt E=> ∃(j:Array (Int×Value)) (n:Nat) (t:SetTable),h.get? a=some {cls:= .type "set",data:= .set j n t}/\Paired (λ(z:Int×V) (e:Int×Value)=>z.1=e.1/\RelV z.2 e.2) E j.toList/\
   TT.TabOk (E.map (·.1)) t/\t.plain=true/\t.led=!w.params.followText "set-order"
 | .ins C l fs=>H l=some (.own a)/\fs.length<=1000/\l≠a/\h.get? a=some (PySem.W.instObj C l)/\
   ∃i,h.Ns1 l i/\(∀f,RelO (fs.lookup f) (i f))/\PySem.Within i (fs.map (·.1))
 | .own _=> ∃o,h.get? a=some o
 | .xd fs=> ∃i,h.Ns1 a i/\ ∀f,RelO (fs.lookup f) (i f)
 | .rng lo I=> ∃t u v,h.get? a=some {cls:= .type "range",data:= .fields #[.int lo t,.int I u,.int 1 v]}
 | .frz o u=>h.get? a=some o/\ObjOk H h a u
 | .tbl J=> ∃q t r,J[0]?=some (.str q t)/\h.get? a=some {cls:= .none,data:= .fields r}/\TriplesOk r.toList/\ ∀m y,codeAmong m r.toList=some y-> ∃c B u k t,y= .ref c/\H c=some (.frz B u)/\B.data= .fields k/\k[1]?=some (.str q t)
 | .met f x=>h.get? a=some (PySem.W.methodObj (.ref f) (.ref x))
 | .ext s=>s h/\(∃o,h.get? a=some o)/\ ∀h1 A:Heap,s h1->(∀o,h1.get? a=some o->A.get? a=some o)->s A
def HOk(H:Hp)(h:gL):Prop:= ∀a o,H a=some o->ObjOk P w H h a o
end
section
variable {P:gS}{w:gO}{H g:Hp}{h h':gL}{a:gm}{o:HO}
def ObjOk.lt(x:ObjOk P w H h a o):a<h.objs.size:=by
 cases o with
 |lst c=>obtain⟨_,_,_,_,e⟩:=x;exact iJ e
 |tup c=>obtain⟨_,_,_,p⟩:=x;exact p.lt
 |dK b=>obtain⟨_,_,_,_,o,_,_,e,_⟩:=x;exact iJ e
 |dT b=>obtain⟨_,_,_,_,o,_,_,e,_⟩:=x;exact iJ e
 |set S n=>obtain⟨o,_,_,_,e,_⟩:=x;exact iJ e
 |stt l=>obtain⟨_,_,_,e,_⟩:=x;exact iJ e
 |ins C d fs=>obtain⟨_,_,_,e,_⟩:=x;exact iJ e
 |own y=>obtain⟨_,e⟩:=x;exact iJ e
 |xd fs=>obtain⟨_,⟨_,_,_,e,_⟩,_⟩:=x;exact iJ e
 |rng lo i=>obtain⟨_,_,_,e⟩:=x;exact iJ e
 |frz j u=>obtain⟨e,_⟩:=x;exact iJ e
 |tbl k=>obtain⟨_,_,_,_,e,_⟩:=x;exact iJ e
 |met f y=>exact iJ (show h.get? a=some _ from x)
 |ext m=>obtain⟨_,⟨_,e⟩,_⟩:=x;exact iJ e
theorem Paired.mapP{e i:Type}{F G:e->i->Prop}: ∀{c:List e} {d:List i},Paired F c d->(∀a b,F a b->G a b)->Paired G c d
 |_,_,.nil,_=> .nil
 |_,_,.cons r t,f=> .cons (f _ _ r) (Paired.mapP t f)
def ObjOk.stay(x:ObjOk P w H h a o)(k: ∀b u,(b=a\/H b=some (.own a))->h.get? b=some u->h'.get? b=some u)
  (T: ∀b,H b=some (.own a)->g b=some (.own a))(U: ∀b A,H b=some (.tup A)->g b=some (.tup A))(Y: ∀b i u,H b=some (.frz i u)->g b=some (.frz i u):=by exact λ_ _ _ q=>q):ObjOk P w g h' a o:=by
 induction o with
 |lst A=>obtain⟨z,s,n,r,e⟩:=x;exact⟨z,s,n,r,k _ _ (.inl rfl) e⟩
 |tup A=>obtain⟨z,s,r,i,e,c⟩:=x;exact⟨z,s,r,i,k _ _ (.inl rfl) e,c⟩
 |dK B=>obtain⟨z,y,J,r,i,j,l,e,c⟩:=x;exact⟨z,y,J,r,i,j,l,k _ _ (.inl rfl) e,c⟩
 |dT B=>
  obtain⟨z,y,A,r,i,j,l,e,c⟩:=x;exact⟨z,y,A,Paired.mapP r λp q z=>⟨z.1,U _ _ z.2.1,z.2.2⟩,i,j,l,k _ _ (.inl rfl) e,c⟩
 |set S n=>obtain⟨i,j,l,t,e,c⟩:=x;exact⟨i,j,l,t,k _ _ (.inl rfl) e,c⟩
 |stt zs=>obtain⟨j,n,t,e,c⟩:=x;exact⟨j,n,t,k _ _ (.inl rfl) e,c⟩
 |ins C dx fs=>
  obtain⟨d,z,ne,e,E,⟨G,j,l,N,c⟩,r⟩:=x;exact⟨T _ d,z,ne,k _ _ (.inl rfl) e,E,⟨G,j,l,k _ _ (.inr d) N,c⟩,r⟩
 |own y=>obtain⟨i,e⟩:=x;exact⟨i,k _ _ (.inl rfl) e⟩
 |xd fs=>obtain⟨E,⟨G,j,l,e,c⟩,r⟩:=x;exact⟨E,⟨G,j,l,k _ _ (.inl rfl) e,c⟩,r⟩
 |rng lo hi=>obtain⟨t,u,v,e⟩:=x;exact⟨t,u,v,k _ _ (.inl rfl) e⟩
 |frz i u ih=>obtain⟨e,q⟩:=x;exact⟨k _ _ (.inl rfl) e,ih q⟩
 |tbl ps=>obtain⟨q,t,D,M,e,F,m⟩:=x;exact⟨q,t,D,M,k _ _ (.inl rfl) e,F,λI L z=>let⟨c,i,u,J,t,h1,O,Q⟩:=m I L z;⟨c,i,u,J,t,h1,Y _ _ _ O,Q⟩⟩
 |met f y=>
  have e:h.get? a=some (PySem.W.methodObj (.ref f) (.ref y)):=x;show h'.get? a=some (PySem.W.methodObj (.ref f) (.ref y));exact k a _ (.inl rfl) e
 |ext φ=>obtain⟨p,⟨o,e⟩,st⟩:=x;exact⟨st _ _ p λo q=>k _ _ (.inl rfl) q,⟨o,k _ _ (.inl rfl) e⟩,st⟩
def HOk.lt(x:HOk P w H h)(e:H a=some o):a<h.objs.size:=(x a o e).lt
def HOk.fresh(x:HOk P w H h)(e:h.objs.size<=a):H a=none:=by
 cases q:H a with
 |none=>rfl
 |some u=>exact absurd (mx (x.lt q) e) (pZ _)
def HOk.kept(x:HOk P w H h)(k: ∀b u,h.get? b=some u->h'.get? b=some u):HOk P w H h':=λa o e=>
 (x a o e).stay (λb u _ q=>k b u q) (λ_ q=>q) λ_ _ q=>q
def HOk.laid(x:HOk P w H h)(k: ∀b u,h.get? b=some u->h'.get? b=some u)(i:h.objs.size<=a)(new:ObjOk P w (upd H a o) h' a o):HOk P w (upd H a o) h':=λb u e=>by
 have d:=x.fresh i;by_cases f:b=a
 ·subst f;rw[gU] at e;cases e;exact new
 ·rw[gQ f] at e;exact(x b u e).stay (λc v _ q=>k c v q) (λc q=>by rw[gQ (jS q d)];exact q) (λc j q=>by rw[gQ (jS q d)];exact q) λc _ _ q=>by rw[gQ (jS q d)];exact q
end
def Rd(H:Hp)(a:gm)(u:HO):Prop:=H a=some u\/ ∃o,H a=some (.frz o u)
theorem Rd.ok{P:gS}{w:gO}{H:Hp}{h:gL}{a:gm}{u:HO}(r:Rd H a u)(x:HOk P w H h):ObjOk P w H h a u:=by
 rcases r with r|⟨o,r⟩
 ·exact x a u r
 ·obtain⟨_,q⟩:=x a _ r;exact q
def Mut:Option HO->Prop
 |some (.lst _)=>True
 |some (.dK _)=>True
 |some (.dT _)=>True
 |some (.set _ _)=>True
 |some (.stt _)=>True
 |some (.ins _ _ _)=>True
 |some (.ext _)=>True
 |_=>False
section
variable {P:gS}{w:gO}{H:Hp}{h a:gL}{x e:gm}{d:HO}
def HOk.write(ok:HOk P w H h)(g:Mut (H x))(o:e=x\/H e=some (.own x))(k: ∀b u,b≠e->h.get? b=some u->a.get? b=some u)(s: ∃u,a.get? e=some u)
  (new:ObjOk P w (upd H x d) a x d):HOk P w (upd H x d) a:=λb u q=>by
 have f: ∀c y,H c=some (.own y)->c≠x:=λc y r z=>by subst z;rw[r] at g;exact g
 have i: ∀c n,H c=some (.tup n)->c≠x:=λc n r z=>by subst z;rw[r] at g;exact g
 by_cases l:b=x
 ·subst l;rw[gU] at q;cases q;exact new
 ·rw[gQ l] at q;by_cases j:b=e
  ·have p:H b=some (.own x):=by
    rcases o with z|z
    ·exact absurd (j.trans z) l
    ·rw[j];exact z
   rw[q] at p;cases p;obtain⟨v,hv⟩:=s;exact⟨v,by rw[j];exact hv⟩
  ·refine(ok b u q).stay (λc v m r=>k c v ?_ r) (λc r=>by rw[gQ (f c b r)];exact r) (λc n r=>by rw[gQ (i c n r)];exact r) λc _ _ r=>by rw[gQ (λz=>by subst z;rw[r] at g;exact g)];exact r
   rcases m with rfl|m
   ·exact j
   ·rintro rfl;rcases o with z|z
    ·exact f c b m z
    ·rw[m] at z;cases z;exact l rfl
end
structure Un(fs ex:ji)(H H':Hp)(h h':gL):Prop where
 keep: ∀b o,h.get? b=some o->H b=none->b∉fs->b∉ex->h'.get? b=some o
 slot: ∀b o,h.get? b=some o->H b=none->b∈fs->b∉ex-> ∃sl,h'.get? b=some {o with slots:=sl}
 free: ∀b o,h.get? b=some o->H b=none->b∉ex->H' b=none
 there: ∀b o,h.get? b=some o->b∉ex-> ∃o',h'.get? b=some o'
 tups: ∀b xs,H b=some (.tup xs)->H' b=some (.tup xs)
 frzs: ∀b o u,H b=some (.frz o u)->H' b=some (.frz o u)
 tbls: ∀b ps,H b=some (.tbl ps)-> ∃more,H' b=some (.tbl (ps++more))
section
variable {fs c ex d:ji}{H f i:Hp}{h h1 g h':gL}{a x e:gm}{o:HO}
theorem Un.any(u:Un fs ex H f h h1){b:gm}{j:Obj}(q:h.get? b=some j)(n:H b=none)(l:b∉ex): ∃m,h1.get? b=some {j with slots:=m}:=by
 by_cases k:b∈fs
 ·exact u.slot b j q n k l
 ·exact⟨j.slots,u.keep b j q n k l⟩
def Un.kept(k: ∀b u,h.get? b=some u->h'.get? b=some u):Un fs ex H H h h':=
 ⟨λb j q _ _ _=>k b j q,λb j q _ _ _=>⟨j.slots,k b j q⟩,λ_ _ _ n _=>n,λb j q _=>⟨j,k b j q⟩,λ_ _ q=>q,λ_ _ _ q=>q,λ_ l q=>⟨#[],by rw[q];simp⟩⟩
def Un.refl:Un fs ex H H h h:=Un.kept λ_ _ q=>q
def Un.laid(k: ∀b u,h.get? b=some u->h'.get? b=some u)(r:h.objs.size<=a)(j:H a=none):Un fs ex H (upd H a o) h h' where
 keep:=λb u q _ _ _=>k b u q
 slot:=λb u q _ _ _=>⟨u.slots,k b u q⟩
 free:=λb u q n _=>by rw[gQ (iP (mx (iJ q) r))];exact n
 there:=λb u q _=>⟨u,k b u q⟩
 tups:=λb s q=>by rw[gQ (jS q j)];exact q
 frzs:=λb u s q=>by rw[gQ (jS q j)];exact q
 tbls:=λb t q=>⟨#[],by rw[gQ (jS q j),q];simp⟩
def Un.write(j:Mut (H x))(v:e=x\/H e=some (.own x))(k: ∀b u,b≠e->h.get? b=some u->h'.get? b=some u)(t: ∃u,h'.get? e=some u):Un fs ex H (upd H x o) h h':=by
 have s: ∀b,H b=none->b≠x:=λb n z=>by subst z;rw[n] at j;exact j
 have p: ∀b,H b=none->b≠e:=λb n z=>by
  subst z;rcases v with r|r
  ·exact s b n r
  ·rw[n] at r;cases r
 have l: ∀b u,H b=some u-> ¬Mut (some u)->b≠x:=λb u q w z=>by subst z;rw[q] at j;exact w j
 refine⟨λb u q n _ _=>k b u (p b n) q,λb u q n _ _=>⟨u.slots,k b u (p b n) q⟩,λb u q n _=>by rw[gQ (s b n)];exact n,λb u q _=>?_,
  λb y q=>by rw[gQ (l b _ q λz=>z)];exact q,λb u y q=>by rw[gQ (l b _ q λz=>z)];exact q,λb A q=>⟨#[],by rw[gQ (l b _ q λz=>z),q];simp⟩⟩
 by_cases m:b=e
 ·subst m;exact t
 ·exact⟨u,k b u m q⟩
end
noncomputable def trk(h:gL)(H:Hp):List Addr:=(List.range h.objs.size).filter λa=>(H a).isSome
noncomputable def zH(h:gL)(H:Hp):Heap:=PySem.W.hideAll h (trk h H)
def Iy(h:gL)(H:Hp):(zH h H).objs.size=h.objs.size:=PySem.W.hideAll_size _ _
def LQ{h:gL}{H:Hp}{b:gm}{o:Obj}(e:h.get? b=some o)(n:H b=none):(zH h H).get? b=some o:=
 PySem.W.hideAll_get _ e λa=>by
  have q:(H b).isSome=true:=(List.mem_filter.mp a).2;rw[n] at q;simp at q
def NT{h:gL}{H:Hp}{b:gm}{o:Obj}(e:(zH h H).get? b=some o):h.get? b=some o/\H b=none:=by
 have a:h.get? b=some o:=PySem.W.of_hideAll (trk h H) e;refine⟨a,?_⟩
 cases q:H b with
 |none=>rfl
 |some x=>
  have c:b∈trk h H:=List.mem_filter.mpr ⟨CD.mpr (iJ a),by simp[q]⟩;have z:(zH h H).get? b=none:=PySem.W.hideAll_none (trk h H) c;rw[z] at e;cases e
noncomputable def OD(g h:gL)(L:gm):List (Addr×Obj):=(List.range h.objs.size).filterMap λa=>if a=L\/(g.get? a).isSome=true then none else(h.get? a).map λo=>(a,o)
noncomputable def iu(g h:gL)(L d:gm):List (Addr×Obj):=(OD g h L).filter λp=>decide (p.1≠d)
structure Mod(K:gK)(mg:jX)(base:gL):Prop where
 kin:K.In base
 glob:base.Ns mainGlobals mg
 blt: ∃mb,base.Ns builtinsNs mb/\ ∀x:Str,x≠"__name__"->mb x=bootBuiltins x
 nolimit:base.NoLimit
structure Cx where
 prog:Program
 w:World
 K:PySem.W.Frag
 mg:Str->Option Value
 base:Heap
 A:Around
 N:List Str
 s₀:Shared
 H₀:Hp
 env:Env
 outer:List Env
 stack:List Env
 ex:List Addr
 fn:Str->Bool
 calm:Bool
 pn:List (Addr×Obj)
 xe:Value->Shared->Prop
noncomputable def frs(l:List Env):List Addr:=l.filterMap (·.frame)
abbrev Cx.fs(X:Cx):List Addr:=frs X.outer
def Vis(a:iq)(x:Str):Prop:=a.names.lookup x=some .local\/a.names.lookup x=some .cell\/a.names.lookup x=some .free
def Loc(a:iq)(x:Str):Prop:=a.names.lookup x=some .local\/a.names.lookup x=some .cell
def Wf(a:Env)(h:gL)(m:jX)(x:Str)(u:gz):Prop:=
 (a.kindOf x=some .local/\m x=some u)\/((a.kindOf x=some .cell\/a.kindOf x=some .free)/\ ∃c,a.cells.lookup x=some c/\h.IsCell c (some u))
structure Cx.Ok(X:Cx):Prop where
 mod:Mod X.K X.mg X.base
 kind:X.env.scope.kind= .function
 glob:X.env.globals=mainGlobals
 blt:X.env.builtins=builtinsNs
 above:X.s₀.heap.objs.size<=X.env.locals
 inj: ∀x y c,X.env.cells.lookup x=some c->X.env.cells.lookup y=some c->x=y
 has: ∀x,(X.env.kindOf x=some .cell\/X.env.kindOf x=some .free)-> ∃c,X.env.cells.lookup x=some c
 cab: ∀x c,X.fn x=true->X.env.cells.lookup x=some c->X.s₀.heap.objs.size<=c
 hd:X.calm=true->X.A.handled=none
 frames:X.A.frames=some X.stack
 stk:X.stack=X.outer\/(X.stack=X.env::X.outer/\X.env.frame=some X.env.locals)
 exf: ∀b∈X.ex,b≠X.env.locals/\ ∀x c,X.env.cells.lookup x=some c->c≠b
 bs: ∀b o,X.base.get? b=some o->X.s₀.heap.get? b=some o/\X.H₀ b=none
 bsz:X.base.objs.size<=X.s₀.heap.objs.size
 noex: ∀b o,X.base.get? b=some o->b∉X.ex
 exfs: ∀b∈X.ex,b∉X.fs
 funs:X.s₀.heap.FunFrames X.base X.outer
 frf: ∀b∈X.fs,X.H₀ b=none
structure Inv(X:Cx)(pins:hG)(σ:List (Option V))(H:Hp)(s:gu):Prop where
 ok:X.Ok
 os:s.os=X.s₀.os
 bare:AllBare s.gens
 base:Un X.fs X.ex X.H₀ H X.s₀.heap s.heap
 loc: ∃m,s.heap.Ns X.env.locals m/\ ∀(i:Nat) (x:Str) (v:V),X.N[i]?=some x->σ[i]?=some (some v)->Vis X.env.scope x-> ∃u,RelV v u/\Wf X.env s.heap m x u
 cell: ∀x c,X.env.cells.lookup x=some c-> ∃v,s.heap.IsCell c v
 free:H X.env.locals=none
 freeC: ∀x c,X.env.cells.lookup x=some c->H c=none
 pin: ∀p∈X.pn++pins,s.heap.get? p.1=some p.2/\H p.1=none/\p.1≠X.env.locals/\p.1∉X.fs/\ ∀v,p.2.data≠ .cell v
 hok:HOk X.prog X.w H s.heap
 len:σ.length=X.N.length
section
variable {X:Cx}{f:hG}{g:List (Option V)}{H B:Hp}{s:gu}{h':gL}
def Cx.Ok.nofr(ok:X.Ok){b:gm}{o:Obj}(e:X.base.get? b=some o):b∉X.fs:=λa=>by
 have:=(ok.funs.mem a).1;rw[e] at this;cases this
def Inv.bs(I:Inv X f g H s): ∀b o,X.base.get? b=some o->s.heap.get? b=some o/\H b=none:=λb o e=>
 ⟨I.base.keep b o (I.ok.bs b o e).1 (I.ok.bs b o e).2 (I.ok.nofr e) (I.ok.noex b o e),I.base.free b o (I.ok.bs b o e).1 (I.ok.bs b o e).2 (I.ok.noex b o e)⟩
def Inv.bk(I:Inv X f g H s): ∀b o,X.base.get? b=some o->s.heap.get? b=some o:=λb o e=>(I.bs b o e).1
def Inv.mod(I:Inv X f g H s):Mod X.K X.mg X.base:=I.ok.mod
def Inv.kIn(I:Inv X f g H s):X.K.In s.heap:=I.ok.mod.kin.keeps I.bk
def Inv.lt(I:Inv X f g H s):X.env.locals<s.heap.objs.size:=let⟨_,a,_⟩:=I.loc;a.lt
def Inv.sz(I:Inv X f g H s):X.s₀.heap.objs.size<=s.heap.objs.size:=mw I.ok.above (xi I.lt)
def Inv.nofs(I:Inv X f g H s){a:gm}(h:s.heap.objs.size<=a):a∉X.fs:=λb=>by
 obtain⟨_,o,c,_⟩:=I.ok.funs.mem b;exact absurd (mx (iJ c) (mw I.sz h)) (pZ _)
def Inv.cne(I:Inv X f g H s): ∀x c,X.env.cells.lookup x=some c->c≠X.env.locals:=λx c e z=>by
 obtain⟨v,o,a,hd⟩:=I.cell x c e;obtain⟨m,⟨j,i,h,b,d,_⟩,_⟩:=I.loc;rw[z,b] at a;cases a;rw[d] at hd;cases hd
def Inv.funs(I:Inv X f g H s):s.heap.FunFrames X.base X.outer:=by
 have all: ∀(l:List Env),(∀b∈frs l,b∈X.fs)->X.s₀.heap.FunFrames X.base l->s.heap.FunFrames X.base l:=by
  intro l
  induction l with
  |nil=>intro _ _;trivial
  |cons i r p=>
   intro h j;obtain⟨hk,⟨L,o,d,k,m,hd⟩,n⟩:=j;have a:L∈X.fs:=h L (by unfold frs;rw[Bt,d];exact jB);obtain⟨q,e⟩:=I.base.slot L o m (I.ok.frf L a) a λz=>I.ok.exfs L z a;exact⟨hk,⟨L,_,d,k,e,hd⟩,p (λb c=>h b (by unfold frs;rw[Bt,d];exact jA _ c)) n⟩
 exact all X.outer (λ_ c=>c) I.ok.funs
def Inv.stack(I:Inv X f g H s):s.heap.FunFrames X.base X.stack:=by
 rcases I.ok.stk with e|⟨e,hf⟩
 ·rw[e];exact I.funs
 ·rw[e];obtain⟨m,a,_⟩:=I.loc;refine .cons (by rw[I.ok.kind];decide) hf a ?_ I.funs;exact Heap.get?_none_of_le (mw I.ok.bsz I.ok.above)
def Inv.stkSub(I:Inv X f g H s): ∀b∈frs X.stack,b∈X.env.locals::X.fs:=λb a=>by
 rcases I.ok.stk with e|⟨e,hf⟩
 ·rw[e] at a;exact jA _ a
 ·rw[e] at a;unfold frs at a;rw[Bt,hf] at a;exact a
def Inv.stkFree(I:Inv X f g H s): ∀b∈frs X.stack,H b=none:=λb a=>by
 rcases jM.mp (I.stkSub b a) with e|a
 ·rw[e];exact I.free
 ·obtain⟨_,o,c,_⟩:=I.ok.funs.mem a;exact I.base.free b o c (I.ok.frf b a) λz=>I.ok.exfs b z a
def Inv.step{g':Array GenState}{t':Nat}{d':Drawn}{ch:ji}(I:Inv X f g H s)
  (E: ∀b∈ch,(b∈X.ex\/X.s₀.heap.objs.size<=b)/\b≠X.env.locals/\(∀x c,X.env.cells.lookup x=some c->c≠b)/\ ∀p∈X.pn++f,p.1≠b)
  (keep: ∀b o,b≠X.env.locals->b∉X.fs->b∉ch->s.heap.get? b=some o->H b=none->h'.get? b=some o)
  (slot: ∀b o,b≠X.env.locals->b∈X.fs->b∉ch->s.heap.get? b=some o->H b=none-> ∃sl,h'.get? b=some {o with slots:=sl})(h: ∀b o,b∉ch->s.heap.get? b=some o->H b=none->B b=none)
  (there: ∀b o,b∉ch->s.heap.get? b=some o-> ∃N,h'.get? b=some N)
  (Q: ∀b y,H b=some (.tup y)->B b=some (.tup y))(L: ∀b o u,H b=some (.frz o u)->B b=some (.frz o u))(O: ∀b U,H b=some (.tbl U)-> ∃more,B b=some (.tbl (U++more)))
  (ns: ∀m,s.heap.Ns X.env.locals m->h'.Ns X.env.locals m)(Y:HOk X.prog X.w B h')(hg:AllBare g'):
  Inv X f g B {s with heap:=h',gens:=g',drawn:=d',toks:=t'}:=by
 have M: ∀b o,X.s₀.heap.get? b=some o->b≠X.env.locals:=λb o e=>iP (mx (iJ e) I.ok.above)
 have T: ∀b o,X.s₀.heap.get? b=some o->b∉X.ex->b∉ch:=λb o e a A=>by
  rcases(E b A).1 with z|z
  ·exact a z
  ·exact absurd (mx (iJ e) z) (pZ _)
 have j: ∀x c,X.env.cells.lookup x=some c-> ∀v,s.heap.IsCell c v->h'.IsCell c v:=λx c e v ⟨o,C,hd⟩=>by
  have G:c∉ch:=λz=>(E c z).2.2.1 x c e rfl;by_cases D:c∈X.fs
  ·obtain⟨sl,q⟩:=slot c o (I.cne x c e) D G C (I.freeC x c e);exact⟨_,q,hd⟩
  ·exact⟨o,keep c o (I.cne x c e) D G C (I.freeC x c e),hd⟩
 refine⟨I.ok,I.os,hg,⟨λb o e n A a=>?_,λb o e n A a=>?_,λb o e n a=>?_,λb o e a=>?_,λb y e=>Q b y (I.base.tups b y e),λb o y e=>L b o y (I.base.frzs b o y e),λb U e=>?_⟩,?_,λx c e=>?_,?_,λx c e=>?_,λp F=>?_,Y,I.len⟩
 ·exact keep b o (M b o e) A (T b o e a) (I.base.keep b o e n A a) (I.base.free b o e n a)
 ·obtain⟨sl,t⟩:=I.base.slot b o e n A a;obtain⟨P,J⟩:=slot b _ (M b o e) A (T b o e a) t (I.base.free b o e n a);exact⟨P,J⟩
 ·obtain⟨N,t⟩:=I.base.there b o e a;exact h b N (T b o e a) t (I.base.free b o e n a)
 ·obtain⟨N,t⟩:=I.base.there b o e a;exact there b N (T b o e a) t
 ·obtain⟨W,t⟩:=I.base.tbls b U e;obtain⟨Z,J⟩:=O b _ t;exact⟨W++Z,by rw[J,ES]⟩
 ·obtain⟨m,V,S⟩:=I.loc;refine⟨m,ns m V,λi x v t J R=>?_⟩;obtain⟨u,r,l⟩:=S i x v t J R;refine⟨u,r,?_⟩;rcases l with l|⟨k,c,e,z⟩
  ·exact .inl l
  ·exact .inr ⟨k,c,e,j x c e _ z⟩
 ·obtain⟨v,z⟩:=I.cell x c e;exact⟨v,j x c e v z⟩
 ·obtain⟨m,⟨o,_,_,C,_⟩,_⟩:=I.loc;exact h _ o (λz=>(E _ z).2.1 rfl) C I.free
 ·obtain⟨v,o,C,hd⟩:=I.cell x c e;exact h c o (λz=>(E c z).2.2.1 x c e rfl) C (I.freeC x c e)
 ·obtain⟨e,n,ne,K,d⟩:=I.pin p F;have G:p.1∉ch:=λz=>(E p.1 z).2.2.2 p F rfl;exact⟨keep p.1 p.2 ne K G e n,h p.1 p.2 G e n,ne,K,d⟩
def Inv.un{t':Nat}(I:Inv X f g H s)(u:Un X.fs [] H B s.heap h')(c:HOk X.prog X.w B h'):Inv X f g B {s with heap:=h',toks:=t'}:=by
 obtain⟨m,⟨o,t,q,h,r⟩,_⟩:=id I.loc;obtain⟨y,k⟩:=u.any h I.free (by simp)
 exact I.step (g':=s.gens) (d':=s.drawn) (ch:=[]) (λ_ z=>nomatch z) (λb o _ a _ e n=>u.keep b o e n a (by simp)) (λb o _ a _ e n=>u.slot b o e n a (by simp)) (λb o _ e n=>u.free b o e n (by simp)) (λb o _ e=>u.there b o e (by simp)) u.tups u.frzs u.tbls (λv l=>by
  obtain⟨x,i,j,d,p⟩:=l;rw[h] at d;cases d;exact⟨_,i,j,k,p⟩) c I.bare
def Inv.call{g':Array GenState}{t':Nat}{d':Drawn}{ch:ji}(I:Inv X f g H s)(u:Un (frs X.stack) ch H B s.heap h')(h:HOk X.prog X.w B h')(v:AllBare g')
  (i: ∀b∈ch,(b∈X.ex\/X.s₀.heap.objs.size<=b)/\b≠X.env.locals/\(∀x c,X.env.cells.lookup x=some c->c≠b)/\ ∀p∈X.pn++f,p.1≠b):
  Inv X f g B {s with heap:=h',gens:=g',drawn:=d',toks:=t'}:=by
 obtain⟨m,⟨o,E,C,k,r⟩,_⟩:=id I.loc;obtain⟨L,d⟩:=u.any k I.free λz=>(i _ z).2.1 rfl
 exact I.step (ch:=ch) i (λb o d t a e n=>u.keep b o e n (λz=>(jM.mp (I.stkSub b z)).elim d t) a) (λb o _ _ a e n=>u.any e n a) (λb o a e n=>u.free b o e n a) (λb o a e=>u.there b o e a) u.tups u.frzs u.tbls (λG y=>by
  obtain⟨J,l,q,j,A⟩:=y;rw[k] at j;cases j;exact⟨_,l,q,d,A⟩) h v
def Inv.turned{t':Nat}{it:gm}(I:Inv X f g H s)(k: ∀b o,b≠it->s.heap.get? b=some o->h'.get? b=some o)(A:H it=none)(h:it≠X.env.locals)
  (h1:it∈X.ex\/X.s₀.heap.objs.size<=it)(l: ∀x c,X.env.cells.lookup x=some c->c≠it)(t: ∀p∈X.pn++f,p.1≠it):Inv X f g H {s with heap:=h',toks:=t'}:=by
 have d: ∀b u,H b=some u->b≠it:=λb u e z=>by rw[z,A] at e;cases e
 refine I.step (g':=s.gens) (d':=s.drawn) (ch:=[it]) (λb w=>?_) (λb o _ _ a e _=>k b o (λz=>a (by simp[z])) e) (λb o _ _ a e _=>⟨o.slots,k b o (λz=>a (by simp[z])) e⟩) (λ_ _ _ _ n=>n)
  (λb o a e=>⟨o,k b o (λz=>a (by simp[z])) e⟩) (λ_ _ e=>e) (λ_ _ _ e=>e) (λb E e=>⟨#[],by rw[e];simp⟩) (λm y=>?_) (λb u e=>?_) I.bare
 ·have e:b=it:=by simpa using w
  subst e;exact⟨h1,h,l,t⟩
 ·obtain⟨o,j,i,C,r⟩:=y;exact⟨o,j,i,k _ o (mJ h) C,r⟩
 ·refine(I.hok b u e).stay (λc v a q=>k c v ?_ q) (λ_ q=>q) λ_ _ q=>q;rcases a with z|z
  ·rw[z];exact d b u e
  ·exact d c _ z
def Inv.tok(I:Inv X f g H s)(t:Nat):Inv X f g H {s with toks:=t}:=I.un (h':=s.heap) (t':=t) Un.refl I.hok
def Inv.kept{t':Nat}(I:Inv X f g H s)(k: ∀b u,s.heap.get? b=some u->h'.get? b=some u):Inv X f g H {s with heap:=h',toks:=t'}:=I.un (Un.kept k) (I.hok.kept k)
def Inv.laid{a:gm}{o:HO}{t':Nat}(I:Inv X f g H s)(k: ∀b u,s.heap.get? b=some u->h'.get? b=some u)(c:s.heap.objs.size<=a)(new:ObjOk X.prog X.w (upd H a o) h' a o):
  Inv X f g (upd H a o) {s with heap:=h',toks:=t'}:=I.un (Un.laid k c (I.hok.fresh c)) (I.hok.laid k c new)
def Inv.write{x e:gm}{o:HO}{h:Nat}(I:Inv X f g H s)(d:Mut (H x))(c:e=x\/H e=some (.own x))(k: ∀b u,b≠e->s.heap.get? b=some u->h'.get? b=some u)(a: ∃u,h'.get? e=some u)
  (new:ObjOk X.prog X.w (upd H x o) h' x o):Inv X f g (upd H x o) {s with heap:=h',toks:=h}:=I.un (Un.write d c k a) (I.hok.write d c k a new)
def Inv.pins_of{a:hG}(I:Inv X f g H s)(h: ∀p∈a,s.heap.get? p.1=some p.2/\H p.1=none/\p.1≠X.env.locals/\p.1∉X.fs/\ ∀v,p.2.data≠ .cell v):Inv X a g H s:=
 ⟨I.ok,I.os,I.bare,I.base,I.loc,I.cell,I.free,I.freeC,λp b=>(rK.mp b).elim (λz=>I.pin p (Bs _ z)) (h p),I.hok,I.len⟩
def yA{N:iw}(e:N.Nodup){i j:Nat}{x:Str}(a:N[i]?=some x)(b:N[j]?=some x):i=j:=by
 obtain⟨h1,c⟩:=uG.mp a;obtain⟨h,d⟩:=uG.mp b;exact(EO e).mp (c.trans d.symm)
def HL{M:Model}{A:gR}{E:hZ}{i:Nat}{x:Str}{v:V}{u:gz}{Q:Unit->Shared->Prop}(I:Inv X f g H s)(hN:X.N.Nodup)(U:X.N[i]?=some x)(J:Loc X.env.scope x)(r:RelV v u)
  (h: ∀s',Inv X f (g.set i (some v)) H s'->(∃a,Heap.SameBut a s.heap s'.heap/\(a=X.env.locals\/X.env.cells.lookup x=some a))->Q () s')(hf:X.fn x=true\/X.env.scope.names.lookup x=some .local:=by first|exact .inl rfl|exact .inr rfl|assumption):wpAny M A (storeName X.env x u) Q E s:=by
 obtain⟨m,R,hl⟩:=id I.loc;have bA:(X.env.scope.kind== .class||(X.env.scope.kind== .module&&X.env.locals !=X.env.globals))=false:=by rw[I.ok.kind];rfl
 have dY:i<g.length:=by rw[I.len];exact(uG.mp U).1
 have cne:=I.cne
 have C: ∀{a:gm} {h':gL},(∃o,s.heap.get? a=some o/\H a=none)->Heap.SameBut a s.heap h'->HOk X.prog X.w H h':=λ{a h'} ha l b ob e=>by
  obtain⟨_,_,m9⟩:=ha;refine(I.hok b ob e).stay (λc F G q=>(l.2 c ?_).trans q) (λ_ q=>q) λ_ _ q=>q;rintro rfl;rcases G with rfl|G
  ·rw[m9] at e;cases e
  ·rw[m9] at G;cases G
 rcases J with hk|hk
 ·refine JG hk R (λh' bZ l=>?_) bA;obtain⟨oL,_,_,dU,_⟩:=id R;refine h _ ⟨I.ok,I.os,I.bare,⟨λb o e n O J=>?_,λb o e n O J=>?_,I.base.free,λb o e J=>?_,I.base.tups,I.base.frzs,I.base.tbls⟩,⟨_,bZ,λj y v' t L P=>?_⟩,λy c e=>?_,I.free,I.freeC,λp S=>?_,C ⟨oL,dU,I.free⟩ l,by simpa using I.len⟩ ⟨_,l,.inl rfl⟩
  ·exact(l.2 b (iP (mx (iJ e) I.ok.above))).trans (I.base.keep b o e n O J)
  ·obtain⟨sl,t⟩:=I.base.slot b o e n O J;exact⟨sl,(l.2 b (iP (mx (iJ e) I.ok.above))).trans t⟩
  ·obtain⟨Z,t⟩:=I.base.there b o e J;exact⟨Z,(l.2 b (iP (mx (iJ e) I.ok.above))).trans t⟩
  ·by_cases T:j=i
   ·subst T;rw[U] at t;cases t;rw[mv dY] at L;cases L;exact⟨u,r,.inl ⟨hk,by simp⟩⟩
   ·rw[mI (mJ T)] at L;obtain⟨u',r',q⟩:=hl j y v' t L P;refine⟨u',r',?_⟩;rcases q with⟨k,e⟩|⟨k,c,e,z⟩
    ·refine .inl ⟨k,?_⟩;have:y≠x:=λe=>T (yA hN t (e▸U));simp[this,e]
    ·exact .inr ⟨k,c,e,z.sameBut l (cne y c e)⟩
  ·obtain⟨F,z⟩:=I.cell y c e;exact⟨F,z.sameBut l (cne y c e)⟩
  ·obtain⟨e,n,ne,W,d⟩:=I.pin p S;exact⟨(l.2 p.1 ne).trans e,n,ne,W,d⟩
 ·have K:X.fn x=true:=by
   rcases hf with z|z
   ·exact z
   ·rw[z] at hk;cases hk
  obtain⟨c,G⟩:=I.ok.has x (.inl hk);obtain⟨F,z⟩:=I.cell x c G;refine wpAny_storeName_cell I.ok.kind hk G z (λh' aU l=>?_);obtain⟨oc,de,Y⟩:=id z;refine h {s with heap:=h'} ⟨I.ok,I.os,I.bare,⟨λb o e n O J=>?_,λb o e n O J=>?_,I.base.free,λb o e J=>?_,I.base.tups,I.base.frzs,I.base.tbls⟩,⟨m,R.sameBut l (mJ (cne x c G)),λj y v' t L P=>?_⟩,λy D e=>?_,I.free,I.freeC,λp S=>?_,C ⟨oc,de,I.freeC x c G⟩ l,by simpa using I.len⟩ ⟨c,l,.inr G⟩
  ·exact(l.2 b (iP (mx (iJ e) (I.ok.cab x c K G)))).trans (I.base.keep b o e n O J)
  ·obtain⟨sl,t⟩:=I.base.slot b o e n O J;exact⟨sl,(l.2 b (iP (mx (iJ e) (I.ok.cab x c K G)))).trans t⟩
  ·obtain⟨Z,t⟩:=I.base.there b o e J;exact⟨Z,(l.2 b (iP (mx (iJ e) (I.ok.cab x c K G)))).trans t⟩
  ·by_cases T:j=i
   ·subst T;rw[U] at t;cases t;rw[mv dY] at L;cases L;exact⟨u,r,.inr ⟨.inl hk,c,G,aU⟩⟩
   ·rw[mI (mJ T)] at L;obtain⟨u',r',q⟩:=hl j y v' t L P;refine⟨u',r',?_⟩;rcases q with q|⟨k,D,e,z'⟩
    ·exact .inl q
    ·refine .inr ⟨k,D,e,z'.sameBut l ?_⟩;rintro rfl;exact T (yA hN t (I.ok.inj _ _ _ e G▸U))
  ·by_cases eh:D=c
   ·subst eh;exact⟨_,aU⟩
   ·obtain⟨w2,z2⟩:=I.cell y D e;exact⟨w2,z2.sameBut l eh⟩
  ·obtain⟨e,n,ne,W,d⟩:=I.pin p S;refine⟨(l.2 p.1 ?_).trans e,n,ne,W,d⟩;intro q;rw[q,de] at e;have q':oc=p.2:=js e;exact d F (by rw[<-q'];exact Y)
def qc{M:Model}{A:gR}{E:hZ}{i:Nat}{x:Str}{v:V}{u:gz}{Q:Unit->Shared->Prop}(I:Inv X f g H s)(c:X.N.Nodup)(e:X.N[i]?=some x)(j:Loc X.env.scope x)(r:RelV v u)
  (h: ∀a,Inv X f (g.set i (some v)) H a->Q () a)(d:X.fn x=true\/X.env.scope.names.lookup x=some .local:=by first|exact .inl rfl|exact .inr rfl|assumption):wpAny M A (storeName X.env x u) Q E s:=
 HL I c e j r (λa b _=>h a b) d
def Inv.call'{s':gu}{ch:ji}(I:Inv X f g H s)(i:s'.os=s.os)(u:Un (frs X.stack) ch H B s.heap s'.heap)(a:HOk X.prog X.w B s'.heap)(h:AllBare s'.gens)
  (d: ∀b∈ch,(b∈X.ex\/X.s₀.heap.objs.size<=b)/\b≠X.env.locals/\(∀x c,X.env.cells.lookup x=some c->c≠b)/\ ∀p∈X.pn++f,p.1≠b):Inv X f g B s':=by
 obtain⟨h',g',d',t',j⟩:=s';have e:j=s.os:=i;subst e;exact I.call (g':=g') (t':=t') (d':=d') u a h d
end
abbrev XK:=Value->Option Addr->Hp->Prop
abbrev St:=List (Option V)
abbrev VK:=V->Hp->Prop
abbrev TE:=St->Hp->VK->Prop
abbrev TT:=St->Hp->(Bool->Hp->Prop)->Prop
abbrev TA:=St->Hp->(List V->Hp->Prop)->Prop
structure Ends where
 nx:St->Hp->Prop
 rt:VK
 bk:St->Hp->Prop:=λ_ _=>False
 ct:St->Hp->Prop:=λ_ _=>False
abbrev TS:=Ends->St->Hp->Prop
def EP(X:Cx)(a:hG)(d:St)(Q:VK)(u:gz)(c:gu):Prop:= ∃v b,Inv X a d b c/\RelV v u/\Q v b
def TP(X:Cx)(a:hG)(e:St)(Q:Bool->Hp->Prop)(b:Bool)(d:gu):Prop:= ∃c,Inv X a e c d/\Q b c
def AP(X:Cx)(a:hG)(f:St)(Q:List V->Hp->Prop)(e:ik)(d:gu):Prop:= ∃c b,Inv X a f b d/\Vals c e/\Q c b
def SP(X:Cx)(b:hG)(D:Ends)(f:Flow)(d:gu):Prop:=
 match f with
 | .next=> ∃a c,Inv X b a c d/\D.nx a c
 | .brk=> ∃a c,Inv X b a c d/\D.bk a c
 | .cont=> ∃a c,Inv X b a c d/\D.ct a c
 | .ret u=> ∃v a c,Inv X b a c d/\RelV v u/\D.rt v c
def PE(X:Cx)(e:gw)(t:TE):Prop:=
 ∀(a:hG) (s:gu) (b:St) (H:Hp) (Q:VK),Inv X a b H s->t b H Q->wpAny (model X.prog X.w) X.A (eval e X.env) (EP X a b Q) X.xe s
def PT(X:Cx)(e:gw)(t:TT):Prop:=
 ∀(a:hG) (s:gu) (b:St) (H:Hp) (Q:Bool->Hp->Prop),Inv X a b H s->t b H Q->wpAny (model X.prog X.w) X.A (isTrue e X.env (eval e X.env)) (TP X a b Q) X.xe s
def PW(X:Cx)(e:gw)(t:TT):Prop:=
 ∀(b:Sem Value) (a:hG) (s:gu) (c:St) (H:Hp) (Q:Bool->Hp->Prop),Inv X a c H s->t c H Q->wpAny (model X.prog X.w) X.A (isTrue e X.env b) (TP X a c Q) X.xe s
def PW.pt{X:Cx}{e:gw}{t:TT}(h:PW X e t):PT X e t:=h _
def PA(X:Cx)(d:iO)(t:TA):Prop:=
 ∀(b:Pos) (a:hG) (s:gu) (c:St) (H:Hp) (Q:List V->Hp->Prop),Inv X a c H s->t c H Q->wpAny (model X.prog X.w) X.A (spliced (backTo b (starEach d X.env))) (AP X a c Q) X.xe s
def PS(X:Cx)(st:Stmt)(t:TS):Prop:=
 ∀(a:hG) (s:gu) (b:St) (H:Hp) (D:Ends),Inv X a b H s->t D b H->wpAny (model X.prog X.w) X.A (exec st X.env) (SP X a D) X.xe s
def PSs(X:Cx)(st:List Stmt)(t:TS):Prop:=
 ∀(a:hG) (s:gu) (b:St) (H:Hp) (D:Ends),Inv X a b H s->t D b H->wpAny (model X.prog X.w) X.A (execs st X.env) (SP X a D) X.xe s
def thn{c:Type}{t:Sem c}{Q b:c->Shared->Prop}{M:Model}{A:gR}{E:hZ}{s:gu}(h:wpAny M A t Q E s)(d: ∀a s,Q a s->b a s):wpAny M A t b E s:=lQ h d λ_ _ x=>x
section
variable {X:Cx}
def U7(i:Nat):TE:=λa H Q=> ∃v,a[i]?=some (some v)/\Q v H
noncomputable def tC(v:V):TE:=λ_ H Q=>Q v H
def yt{i:Nat}{x:Str}{f:Pos}(g:X.N[i]?=some x)(hv:Vis X.env.scope x)(hd:(x==("__debug__":Str))=false:=by decide)(n:(x==("__classdict__":Str))=false:=by decide):PE X (.Name x f) (U7 i):=by
 intro a s o H Q I h;obtain⟨v,e,h⟩:=h;obtain⟨m,k,j⟩:=I.loc;obtain⟨u,r,l⟩:=j i x v g e hv;have fin:EP X a o Q u s:=⟨v,H,I,r,h⟩
 rcases l with⟨hk,hm⟩|⟨hk,c,b,d⟩
 ·exact wpAny_Name (wpAny_loadName_local I.ok.kind hk k hm fin) hd
 ·rcases hk with hk|hk
  ·exact wpAny_Name (wpAny_loadName_cell I.ok.kind hk b d fin) hd
  ·exact wpAny_Name (wpAny_loadName_free I.ok.kind hk b d fin n) hd
def BR{i j f}:PE X (.Constant (.int i) j f) (tC (.int i)):=λ_ _ _ H _ I h=>wpAny_Constant_int ⟨.int i,H,I.tok _,⟨_,rfl⟩,h⟩
def T9{b j f}:PE X (.Constant (.bool b) j f) (tC (.bl b)):=λ_ _ _ H _ I h=>Constant_bool ⟨.bl b,H,I,rfl,h⟩
def Ry{j f}:PE X (.Constant .none j f) (tC .non):=λ_ _ _ H _ I h=>Constant_none ⟨.non,H,I,rfl,h⟩
def Rv{x j f}:PE X (.Constant (.str x) j f) (tC (.str x)):=λ_ _ _ H _ I h=>Calls.Constant_str ⟨.str x,H,I.tok _,⟨_,rfl⟩,h⟩
def Gl(X:Cx)(x:Str):Prop:=X.env.kindOf x=some .globalImplicit
def ug{E:hZ}{a:hG}{s:gu}{d:St}{H:Hp}{x:Str}{u:gz}{f:Pos}{Q:hZ}(I:Inv X a d H s)(b:Gl X x)(c:X.mg x=some u)(h:Q u s)
  (hd:(x==("__debug__":Str))=false:=by decide):wpAny (model X.prog X.w) X.A (eval (.Name x f) X.env) Q E s:=
 JF I.ok.kind b (Calls.loadGlobal_global (by rw[I.ok.glob];exact I.mod.glob.keeps I.bk) c h) hd
def pk{E:hZ}{a:hG}{s:gu}{g:St}{H:Hp}{x:Str}{u:gz}{f:Pos}{Q:hZ}(I:Inv X a g H s)(c:Gl X x)(d:X.mg x=none)(hv:bootBuiltins x=some u)(h:Q u s)
  (e:x≠"__name__":=by decide)(hd:(x==("__debug__":Str))=false:=by decide):wpAny (model X.prog X.w) X.A (eval (.Name x f) X.env) Q E s:=by
 obtain⟨i,h1,b⟩:=I.mod.blt;exact JF I.ok.kind c (Calls.loadGlobal_builtin (by rw[I.ok.glob];exact I.mod.glob.keeps I.bk) d (by rw[I.ok.blt];exact h1.keeps I.bk) ((b x e).trans hv) h) hd
def G2{x:Str}{v:V}{u:gz}{f:Pos}(a:Gl X x)(b:X.mg x=some u)(r:RelV v u)(hd:(x==("__debug__":Str))=false:=by decide):PE X (.Name x f) (tC v):=
 λ_ _ _ H _ I h=>ug I a b ⟨v,H,I,r,h⟩ hd
def wO{x:Str}{v:V}{u:gz}{f:Pos}(a:Gl X x)(b:X.mg x=none)(hv:bootBuiltins x=some u)(r:RelV v u)(c:x≠"__name__":=by decide)(hd:(x==("__debug__":Str))=false:=by decide):PE X (.Name x f) (tC v):=
 λ_ _ _ H _ I h=>pk I a b hv ⟨v,H,I,r,h⟩ c hd
def t2I(g d:TE)(k:Int->Int->Hp->Prop):St->Hp->Prop:=λa H=>g a H λx b=>d a b λy c=> ∃i j,x= .int i/\y= .int j/\k i j c
variable {a b:gw}{g tb:TE}{f:Pos}
noncomputable def tCmp(p:Int->Int->Bool)(g tb:TE):TE:=λd H Q=>t2I g tb (λi j c=>Q (.bl (p i j)) c) d H
def tB(t:TE):TT:=λe H Q=>t e H λx d=> ∃c,x= .bl c/\Q c d
def Rc{e:gw}{t:TE}(h:PE X e t)(l: ∀c,isTrue e X.env c=(do let v <-c;standAt e.pos;holding [v] (truthy v)):=by intro _;rfl):PT X e (tB t):=by
 intro i s p H Q I m;refine isTrue_plain (thn (h i s p H _ I m) λv s1 ⟨x,j,k,o,n⟩=>?_) (l _);obtain⟨d,rfl,q⟩:=n;cases o;exact uY ⟨j,k,q⟩
variable {tA n:TT}{iu:iO}
noncomputable def tOr(t u:TT):TT:=λe H Q=>t e H λc d=>if c=true then Q true d else u e d Q
noncomputable def tNot(t:TT):TT:=λe H Q=>t e H λc d=>Q (!c) d
def Q9(i:PT X a tA):PW X (.BoolOp .Or [a] f) tA:=by
 intro wh d s j H Q I h;refine isTrue_or (thn (i d s j H Q I h) λc s1 e=>?_)
 cases c with
 |false=>exact isTrue_or_nil e
 |true=>exact e
def T6(l:PT X a tA)(m:PW X (.BoolOp .Or (b::iu) f) n):PW X (.BoolOp .Or (a::b::iu) f) (tOr tA n):=by
 intro wh d s k H Q I h;refine isTrue_or (thn (l d s k H _ I h) λc s1 ⟨e,i,j⟩=>?_)
 cases c with
 |true=>exact⟨e,i,j⟩
 |false=>exact m wh d s1 k e Q i j
def Rg(i:PT X a tA):PT X (.UnaryOp .Not a f) (tNot tA):=by
 intro d s j H Q I h;exact isTrue_not (i d s j H (λc e=>Q (!c) e) I h)
def TH(g tb:TE):TE:=λe H Q=>g e H λx d=> ∃c,x= .bl c/\if c=true then tb e d Q else Q (.bl false) d
def Tr(g:TE):TE:=λe H Q=>g e H λx d=> ∃c,x= .bl c/\Q (.bl (!c)) d
def Rw{op}{t:TE}(h:PE X a t):PE X (.BoolOp op [a] f) t:=λc s e H Q I d=>BoolOp_one (h c s e H Q I d)
def RB(l:PE X a g)(m:PE X (.BoolOp .And (b::iu) f) tb):PE X (.BoolOp .And (a::b::iu) f) (TH g tb):=by
 intro d s k H Q I h;refine BoolOp_and (thn (l d s k H _ I h) λv s1 ⟨x,i,j,o,e⟩=>?_);obtain⟨c,rfl,e⟩:=e;cases o;refine uY ?_
 cases c with
 |true=>exact m d s1 k i Q j e
 |false=>exact⟨.bl false,i,j,rfl,e⟩
def Rx(k:PE X a g):PE X (.UnaryOp .Not a f) (Tr g):=by
 intro d s m H Q I h;refine UnaryOp_ (thn (k d s m H _ I h) λv s1 ⟨x,i,j,l,e⟩=>?_);obtain⟨c,rfl,e⟩:=e;cases l;exact not_of (uY ⟨.bl (!c),i,j,rfl,e⟩)
noncomputable def tIf(t:TT)(g tb:TE):TE:=λd H Q=>t d H λc e=>if c=true then g d e Q else tb d e Q
def K8{c:gw}(p:PT X c tA)(m:PE X a g)(o:PE X b tb):PE X (.IfExp c a b f) (tIf tA g tb):=by
 intro e s i H Q I h;refine wpAny_IfExp (thn (p e s i H _ I h) λd s1 ⟨j,k,l⟩=>?_)
 cases d with
 |true=>exact m e s1 i j Q k l
 |false=>exact o e s1 i j Q k l
end
def SqL(K:gK)(H:Hp)(a:gm)(xs:List V):Prop:=
 Rd H a (.lst xs)\/
  ∃(o:Obj) (b:lA) (n:Nat),K.lookup a=some o/\o.cls= .type "list"/\o.dict=none/\o.data= .seq b n/\b.size<=sizeLine/\Vals xs b.toList
def SqT(K:gK)(H:Hp)(a:gm)(c:List V):Prop:=
 Rd H a (.tup c)\/
  ∃(o:Obj) (b:lA) (n:Nat),K.lookup a=some o/\o.cls= .type "tuple"/\o.data= .seq b n/\b.size<=sizeLine/\Vals c b.toList
noncomputable def Wb:Value->Option V
 | .none=>some .non
 | .bool b=>some (.bl b)
 | .int i _=>some (.int i)
 | .str x _=>some (.str x)
 | .bytes b _=>some (.byt b)
 | .float b _=>some (.flt b)
 | .ref a=>some (.ref a)
 | .type n=>some (.ty n)
 |_=>none
def RelV.abs{x:V}{u:gz}(r:RelV x u):Wb u=some x:=by
 cases x with
 |non=>cases r;rfl
 |bl _=>cases r;rfl
 |int _=>obtain⟨t,rfl⟩:=r;rfl
 |str _=>obtain⟨t,rfl⟩:=r;rfl
 |byt _=>obtain⟨t,rfl⟩:=r;rfl
 |flt _=>obtain⟨t,rfl⟩:=r;rfl
 |ref _=>cases r;rfl
 |ty _=>cases r;rfl
theorem RelV.inj{x y:V}{u:gz}(r:RelV x u)(q:RelV y u):x=y:=js (r.abs.symm.trans q.abs)
theorem Vals.inj: ∀{a b:List V} {us:ik},Vals a us->Vals b us->a=b
 |_,_,_,.nil,.nil=>rfl
 |_,_,_,.cons r t,.cons c d=>by rw[r.inj c,Vals.inj t d]
section
variable {X:Cx}{b:hG}{f:St}{H:Hp}{s:gu}{a:gm}{c g:List V}
def SqL.of{K:gK}(h:H a=some (.lst c)):SqL K H a c:= .inl (.inl h)
def Inv.list(I:Inv X b f H s)(h:SqL X.K H a c): ∃d:List Value,Vals c d/\PlainL s.heap a d.toArray/\c.length<=sizeLine:=by
 rcases h with h|⟨o,d,n,hk,i,hd,j,k,r⟩
 ·obtain⟨z,d,n,r,e⟩:=h.ok I.hok;exact⟨d,r,⟨_,n,e,rfl,rfl,rfl⟩,z⟩
 ·refine⟨d.toList,r,⟨o,n,I.kIn a o hk,i,hd,by simpa using j⟩,?_⟩;have e:=r.length;simp only[ni] at e
  lia
def Inv.tuple(I:Inv X b f H s)(h:SqT X.K H a c): ∃d:List Value,Vals c d/\IsTup s.heap a d.toArray/\c.length<=sizeLine:=by
 rcases h with h|⟨o,d,n,hk,i,j,k,r⟩
 ·obtain⟨z,d,r,p⟩:=h.ok I.hok;exact⟨d,r,p,z⟩
 ·refine⟨d.toList,r,⟨o,I.kIn a o hk,i,n,by simpa using j⟩,?_⟩;have e:=r.length;simp only[ni] at e
  lia
theorem Inv.list_inj(I:Inv X b f H s)(h:SqL X.K H a c)(p:SqL X.K H a g):c=g:=by
 obtain⟨j,r,⟨o,n,e,_,_,d⟩,_⟩:=I.list h;obtain⟨i,q,⟨u,t,l,_,_,k⟩,_⟩:=I.list p;rw[e] at l;cases l;rw[d] at k;injection k with m _
 have:j=i:=by simpa using lP Array.toList m
 subst this;exact r.inj q
theorem Inv.tuple_inj(I:Inv X b f H s)(h:SqT X.K H a c)(p:SqT X.K H a g):c=g:=by
 obtain⟨j,r,⟨o,e,_,n,d⟩,_⟩:=I.tuple h;obtain⟨i,q,⟨u,l,_,t,k⟩,_⟩:=I.tuple p;rw[e] at l;cases l;rw[d] at k;injection k with m _
 have:j=i:=by simpa using lP Array.toList m
 subst this;exact r.inj q
end
abbrev Cx.wish(X:Cx)(E:hZ):Cx:={X with xe:=E}
abbrev Cx.nox(X:Cx):Cx:=X.wish λ_ _=>False
def Cx.Ok.wish{X:Cx}(ok:X.Ok)(E:hZ):(X.wish E).Ok:=
 ⟨ok.mod,ok.kind,ok.glob,ok.blt,ok.above,ok.inj,ok.has,ok.cab,ok.hd,ok.frames,ok.stk,ok.exf,ok.bs,ok.bsz,ok.noex,ok.exfs,ok.funs,ok.frf⟩
def Cx.Ok.unwish{X:Cx}{E:hZ}(ok:(X.wish E).Ok):X.Ok:=
 ⟨ok.mod,ok.kind,ok.glob,ok.blt,ok.above,ok.inj,ok.has,ok.cab,ok.hd,ok.frames,ok.stk,ok.exf,ok.bs,ok.bsz,ok.noex,ok.exfs,ok.funs,ok.frf⟩
section
variable {X:Cx}{a:hG}{b:St}{H:Hp}{s:gu}{E:hZ}
def Inv.wish(I:Inv X a b H s)(E:hZ):Inv (X.wish E) a b H s:=⟨I.ok.wish E,I.os,I.bare,I.base,I.loc,I.cell,I.free,I.freeC,I.pin,I.hok,I.len⟩
def Inv.unwish(I:Inv (X.wish E) a b H s):Inv X a b H s:=⟨I.ok.unwish,I.os,I.bare,I.base,I.loc,I.cell,I.free,I.freeC,I.pin,I.hok,I.len⟩
def SP.unwish{D:Ends}{f:Flow}{e:gu}(h:SP (X.wish E) a D f e):SP X a D f e:=by
 cases f with
 |next=>obtain⟨c,d,I,q⟩:=h;exact⟨c,d,I.unwish,q⟩
 |brk=>obtain⟨c,d,I,q⟩:=h;exact⟨c,d,I.unwish,q⟩
 |cont=>obtain⟨c,d,I,q⟩:=h;exact⟨c,d,I.unwish,q⟩
 |ret u=>obtain⟨v,c,d,I,r,q⟩:=h;exact⟨v,c,d,I.unwish,r,q⟩
def PSs.nox{st:List Stmt}{t:TS}(h:PSs X.nox st t):PSs X st t:=λa s b H D I c=>
 lQ (h a s b H D (I.wish _) c) (λ_ _ q=>q.unwish) λ_ _ z=>False.elim z
end
section
variable {X:Cx}{st:Stmt}{iu:List Stmt}{t u:TS}{e:gw}{i:TE}{g:Pos}
noncomputable def Tt:TS:=λD a H=>D.nx a H
noncomputable def U9(t u:TS):TS:=λD a H=>t {D with nx:=u D} a H
def GS:PSs X [] Tt:=λ_ _ a H _ I h=>xS ⟨a,H,I,h⟩
def oE(h1:PS X st t)(j:PSs X iu u):PSs X (st::iu) (U9 t u):=by
 intro a s k H D I h;refine wpAny_execs_cons (thn (h1 a s k H {D with nx:=u D} I h) λf s1 q=>?_)
 cases f with
 |next=>
  obtain⟨b,c,d,q⟩:=q;exact j a s1 b c D d q
 |ret v=>exact q
 |brk=>exact q
 |cont=>exact q
def Inv.quiet{a:hG}{b:St}{H:Hp}{s:gu}(I:Inv X a b H s):interactive X.env=false:=by simp[interactive,I.ok.kind]
noncomputable def Tv(i:TE):TS:=λD a H=>i a H λ_ b=>D.nx a b
def GU(f:PE X e i)(j:swapsWith e none g.line X.env=pure false:=by rfl):PS X (.Expr e g) (Tv i):=by
 intro a s b H D I h;exact wpAny_Expr_any (thn (f a s b H _ I h) λv s1 ⟨x,c,d,l,k⟩=>⟨b,c,d,k⟩) I.quiet j
noncomputable def Vb(i:TE):TS:=λD a H=>i a H D.rt
def KH(f:PE X e i):PS X (.Return (some e) g) (Vb i):=by
 intro a s b H D I h;exact wpAny_Return_some (thn (f a s b H _ I h) λv s1 ⟨x,c,d,k,j⟩=>⟨x,b,c,d,k,j⟩)
noncomputable def Vf(c:TT)(t u:TS):TS:=λD a H=>c a H λb d=>if b=true then t D a d else u D a d
def Pb{c:gw}{a b:List Stmt}{n:TT}(q:PT X c n)(o:PSs X a t)(p:PSs X b u):PS X (.If c a b g) (Vf n t u):=by
 intro f s j H D I h;refine wpAny_If (thn (q f s j H _ I h) λd s1 ⟨k,l,m⟩=>?_)
 cases d with
 |true=>exact o f s1 j k D l m
 |false=>exact p f s1 j k D l m
end
abbrev TG:=V->St->Hp->(St->Hp->Prop)->Prop
abbrev TGs:=List V->St->Hp->(St->Hp->Prop)->Prop
def PG(X:Cx)(a:gw)(t:TG):Prop:=
 ∀(b:hG) (s:gu) (e:St) (H:Hp) (v:V) (u:gz) (Q:St->Hp->Prop),Inv X b e H s->RelV v u->t v e H Q->
  wpAny (model X.prog X.w) X.A (assign a X.env u) (λ_ f=> ∃c d,Inv X b c d f/\Q c d) X.xe s
def PGs(X:Cx)(h:iO)(t:TGs):Prop:=
 ∀(a:hG) (s:gu) (f:St) (H:Hp) (e:List V) (d:ik) (Q:St->Hp->Prop),Inv X a f H s->Vals e d->t e f H Q->
  wpAny (model X.prog X.w) X.A (assignInOrder ((assignEach h X.env).map (·.2)) d) (λ_ g=> ∃b c,Inv X a b c g/\Q b c) X.xe s
abbrev OH:=V->V->V->Hp->(Hp->Prop)->Prop
def SV(X:Cx)(t:OH):Prop:=
 ∀(a:hG) (s:gu) (e:St) (H:Hp) (o i v:V) (d c u:gz) (Q:Hp->Prop),Inv X a e H s->RelV o d->RelV i c->RelV v u->t o i v H Q->
  wpAny (model X.prog X.w) X.A (setItem d c u) (λ_ f=> ∃b,Inv X a e b f/\Q b) X.xe s
section
variable {X:Cx}{d:Pos}
noncomputable def DI(i:Nat):TG:=λv a H Q=>Q (a.set i (some v)) H
def GY{i:Nat}{x:Str}(c:X.N.Nodup)(f:X.N[i]?=some x)(g:Loc X.env.scope x)(e:X.fn x=true\/X.env.scope.names.lookup x=some .local:=by first|exact .inl rfl|exact .inr rfl|assumption):PG X (.Name x d) (DI i):=by
 intro a s k H v u Q I r h;exact wpAny_assign_Name (qc I c f g r (λj b=>⟨_,H,b,h⟩) e)
noncomputable def V7:TGs:=λa b H Q=>a=[]/\Q b H
def Uv(t:TG)(u:TGs):TGs:=λc e H Q=> ∃v r,c=v::r/\t v e H λa b=>u r a b Q
def NB:PGs X [] V7:=by
 intro a s b H f c Q I r h;obtain⟨e,h⟩:=h;subst e;cases r;exact assignInOrder_nil ⟨b,H,I,h⟩
def KY{e:gw}{b:iO}{t:TG}{u:TGs}(h1:PG X e t)(j:PGs X b u)
  (k:(assignEach (e::b) X.env).map (·.2)=assign e X.env::(assignEach b X.env).map (·.2):=by rfl):PGs X (e::b) (Uv t u):=by
 intro a s n H q o Q I r h;obtain⟨v,p,i,h⟩:=h;subst i
 cases r with
 |cons r m=>
  rw[k];refine EN (thn (h1 a s n H _ _ _ I r h) λ_ s1 ⟨c,f,g,l⟩=>?_);exact j a s1 c f _ _ Q g m l
def V6(K:gK)(n:Nat)(t:TGs):TG:=λv c H Q=> ∃a b,v= .ref a/\SqT K H a b/\b.length=n/\t b c H Q
def Ru{f:iO}{k:Nat}{t:TGs}{n:Nat}(q:X.calm=true)(h:PGs X f t)
  (x:(assignEach f X.env).length=n:=by rfl)(C:(assignEach f X.env).findIdx? (·.1)=none:=by rfl):PG X (.Tuple f k d) (V6 X.K n t):=by
 intro c s j H v u Q I r g;obtain⟨a,E,m,y,w,g⟩:=g;subst m;cases r;obtain⟨B,i,z,G⟩:=I.tuple y;refine assign_Tuple_tuple (I.ok.hd q) z (by simp[x,<-w,i.length]) C λp A=>?_;have l:Inv X c j H {s with heap:=p}:=I.kept (t':=s.toks) λb o e=>A b o (iP (iJ e)) e;exact h c _ j H E _ Q l (by simpa using i) g
noncomputable def gSub(g f:TE)(t:OH):TG:=λv a H Q=>g a H λo b=>f a b λi c=>t o i v c λe=>Q a e
def KZ{o i:gw}{g f:TE}{t:OH}(z:PE X o g)(w:PE X i f)(A:SV X t)
  (q: ∀v,assign (.Subscript o i d) X.env v=(do
   let b <-holding [v] (eval o X.env)
   let c <-holding [v,b] (eval i X.env)
   standAt d
   holding [v,b,c] (setItem b c v)
   release [v,b,c] []):=by intro _;rfl):PG X (.Subscript o i d) (gSub g f t):=by
 intro a s e H v u Q I r h;rw[q];refine gq (lO (thn (z a s e H _ I h) λb s1 ⟨x,j,m,G,B⟩=>?_));refine gq (lO (thn (w a s1 e j _ m B) λc L ⟨y,k,n,J,C⟩=>?_));refine gq (xh (gq (lO (thn (A a L e k x y v b c u _ n G J r C) λ_ M ⟨l,p,E⟩=>?_))));exact wpAny_release ⟨e,l,p,E⟩
noncomputable def Qa(c:TE)(g:TG):TS:=λD a H=>c a H λx b=>g x a b D.nx
def Fo{b e:gw}{c:TE}{g:TG}(k:PE X e c)(l:PG X b g)(m:swapsWithSole [b] e d.line X.env=pure false:=by rfl)(n:swappedStores [b] e X.env=pure none:=by rfl)
  (h1:(assignEach [b] X.env).map (·.2)=[assign b X.env]:=by rfl):PS X (.Assign [b] e d) (Qa c g):=by
 intro a s f H D I h;refine wpAny_Assign_stores (thn (k a s f H _ I h) λv s1 ⟨x,i,j,p,o⟩=>?_) m n;rw[h1];exact thn (l a s1 f i x v _ j p o) λ_ r q=>q
def KG{i:Nat}{x:Str}{e:gw}{c:TE}{a:Pos}(k:X.N.Nodup)(n:X.N[i]?=some x)(p:Loc X.env.scope x)(l:PE X e c)(o:swapsWith e (some (.Name x a)) d.line X.env=pure false:=by rfl)(m:X.fn x=true\/X.env.scope.names.lookup x=some .local:=by first|exact .inl rfl|exact .inr rfl|assumption):
  PS X (.Assign [.Name x a] e d) (Qa c (DI i)):=by
 intro b s t H D I h;refine wpAny_Assign_Name (thn (l b s t H _ I h) λv s1 ⟨y,f,g,r,q⟩=>?_) o;exact qc g k n p r (λu j=>⟨_,f,j,q⟩) m
def Vc(i j:Nat)(c:TA):TS:=λD a H=>c a H λe b=> ∃v w,e=[v,w]/\D.nx ((a.set i (some v)).set j (some w)) b
def Rk{i j:Nat}{x y:Str}{a b:gw}{E:TA}{m n pt:Pos}{kt l k}(Y:X.calm=true)(z:X.N.Nodup)(hi:X.N[i]?=some x)(hj:X.N[j]?=some y)(m5:i≠j)
  (B:X.env.scope.names.lookup x=some .local)(C:X.env.scope.names.lookup y=some .local)(U:PA X [a,b] E)
  (hw:swappedStores [.Tuple [.Name x m,.Name y n] kt pt] (.Tuple [a,b] l k) X.env=pure (some [x,y]))
  (hs:swapsWithSole [.Tuple [.Name x m,.Name y n] kt pt] (.Tuple [a,b] l k) d.line X.env=pure false:=by rfl):
  PS X (.Assign [.Tuple [.Name x m,.Name y n] kt pt] (.Tuple [a,b] l k) d) (Vc i j E):=by
 intro c s G H D I h;rw[exec_Assign_arm];refine gq (xh ?_);rw[hs];refine gq (gE ?_);rw[hJ (by decide)];refine gq (Tuple_ (thn (U _ c s G H _ I h) λus s1 ⟨vs,t,J,r1,r⟩=>?_));obtain⟨v,w,T,r⟩:=r;subst T
 obtain⟨f,g,rfl,K,F⟩: ∃f g,us=[f,g]/\RelV v f/\RelV w g:=by
  cases r1 with
  |cons p q=>
   cases q with
   |cons p' q'=>
    cases q';exact⟨_,_,rfl,p,p'⟩
 refine lE ?_ (by show 2<=sizeLine;decide);have L:Inv X c G t {s1 with heap:=s1.heap.push {cls:= .type "tuple",data:= .seq [f,g].toArray}}:=J.kept (t':=s1.toks) λb o e=>iA _ e;rw[hw];refine gq (gE ?_);show wpAny (model X.prog X.w) X.A (do rule "assign.swapped-stores";let items <-unpackItems (.ref s1.heap.objs.size) 2 none;assignInOrder [λv=>bindName X.env y v,λv=>bindName X.env x v] items.reverse;pure Flow.next) _ _ _
 refine gq (rJ (gq (unpackItems_tuple (items:= #[f,g]) (I.ok.hd Y) (uX s1.heap _) λh' Q=>?_)));have M:=L.kept (h':=h') (t':=s1.toks) λb o e=>Q b o (iP (iJ e)) e;show wpAny _ _ (assignInOrder [λv=>bindName X.env y v,λv=>bindName X.env x v] [g,f]>>=λ_=>pure Flow.next) _ _ _;refine gq (EN (EM (qc M z hj (.inl C) F (λP O=>?_) (.inr C))));refine EN (EM (qc O z hi (.inl B) K (λR u=>assignInOrder_nil (gE ?_)) (.inr B)));rw[List.set_comm _ _ (mJ m5)] at u;exact⟨_,t,u,r⟩
def P7(c:TT)(i:TS):TS:=λD a H=> ∃W:Nat->St->Hp->Prop,(∃m,W m a H)/\ ∀m a H,W m a H->
 c a H λb g=>if b=true then ∃N:St->Hp->Prop,(∀e f,N e f-> ∃h,h<m/\W h e f)/\i {D with nx:=N,ct:=N,bk:=D.nx} a g else D.nx a g
def KD{c:gw}{i:List Stmt}{G:TT}{E:TS}(C:PassesOwn (model X.prog X.w) X.A X.env X.xe)(M:PT X c G)(L:PSs X i E):PS X (.While c i [] d) (P7 G E):=by
 intro a s F H D I h;obtain⟨W,⟨O,U⟩,k⟩:=h;refine wpAny_While (codeAny_whileLoop (λn Q=> ∃l x,Inv X a l x Q/\W n l x) ?_ O ⟨F,H,I,U⟩);rintro n s1 ⟨g,H1,J,Y⟩;refine xg C (thn (M a s1 g H1 _ J (k n g H1 Y)) λb T ⟨y,z,m⟩=>?_)
 cases b with
 |true=>
  obtain⟨N,B,m⟩:=m;rw[gF rfl];refine xg C (thn (L a T g y _ z m) λf K o=>?_)
  cases f with
  |next=>
   obtain⟨e,j,p,t⟩:=o;obtain⟨r,q,u⟩:=B e j t;exact⟨r,q,e,j,p,u⟩
  |cont=>
   obtain⟨e,j,p,t⟩:=o;obtain⟨r,q,u⟩:=B e j t;exact⟨r,q,e,j,p,u⟩
  |brk=>exact o
  |ret v=>exact o
 |false=>
  rw[hJ jT];exact xS ⟨g,y,z,m⟩
end
structure It where
 go:Nat->Hp->Prop
 yld:Nat->Hp->V->Hp->Prop
 stop:Nat->Hp->Prop
def qx(X:Cx)(a:hG)(H:Hp)(b:gm):Prop:=
 H b=none/\b≠X.env.locals/\b∉X.fs/\(b∈X.ex\/X.s₀.heap.objs.size<=b)/\(∀x c,X.env.cells.lookup x=some c->c≠b)/\ ∀p∈X.pn++a,p.1≠b
def Inv.fpOk{X:Cx}{a:hG}{i:St}{H f:Hp}{s:gu}{b:gm}(I:Inv X a i H s)(d:s.heap.objs.size<=b)(g:f b=none):qx X a f b:=by
 refine⟨g,mH (mx I.lt d),I.nofs d,.inr (mw I.sz d),λx c e z=>?_,λp h z=>?_⟩
 ·obtain⟨v,q⟩:=I.cell x c e;exact absurd (mx q.lt (by rw[z];exact d)) (pZ _)
 ·exact absurd (mx (iJ (I.pin p h).1) (by rw[z];exact d)) (pZ _)
structure Turn(P:gS)(w:gO)(K:gK)(tg:gw)(J:It)(fp:ji)(it:gm)(tn:Nat->Heap->Prop):Prop where
 mem:it∈fp
 obj: ∀i h,tn i h-> ∀b∈fp,∃o,h.get? b=some o/\ ∀v,o.data≠ .cell v
 keep: ∀i h h',tn i h->(∀b∈fp,∀o,h.get? b=some o->h'.get? b=some o)->tn i h'
 item: ∀(X:Cx),X.prog=P->X.w=w->X.K=K->X.calm=true-> ∀(i:Nat) (pins:hG) (s:gu) (σ:St) (H:Hp) (E:hZ),Inv X pins σ H s->(∀b∈fp,qx X pins H b)->tn i s.heap->J.go i H->
  wpAny (model P w) X.A (pyNext (.ref it)) (λr s1=> ∃u,r=some u/\
   wpAny (model P w) X.A (letOwnedTupleGo tg (.ref it) u) (λ_ s2=> ∃x H',Inv X pins σ H' s2/\RelV x u/\J.yld i H x H'/\tn (i+1) s2.heap/\ ∀b∈fp,H' b=none) E s1) E s
 done: ∀(X:Cx),X.prog=P->X.w=w->X.K=K->X.calm=true-> ∀(i:Nat) (pins:hG) (s:gu) (σ:St) (H:Hp) (E:hZ),Inv X pins σ H s->(∀b∈fp,qx X pins H b)->tn i s.heap->J.stop i H->
  wpAny (model P w) X.A (pyNext (.ref it)) (λr s1=>r=none/\Inv X pins σ H s1) E s
 self: ∀(A:gR) (i:Nat) (s:gu) (Q:hZ) (E:hZ),tn i s.heap->Q (.ref it) s->wpAny (model P w) A (pyIter (.ref it)) Q E s
abbrev TI:=St->Hp->(It->Hp->Prop)->Prop
def PIE(X:Cx)(a:hG)(j:St)(i:gw)(R:It->Hp->Prop)(h:gz)(f:gu):Prop:=
 ∃(e:gm) (d:ji) (g:Nat->Heap->Prop) (J:It) (c:Hp),h= .ref e/\Inv X a j c f/\Turn X.prog X.w X.K i J d e g/\g 0 f.heap/\(∀b∈d,qx X a c b)/\R J c
def PI(X:Cx)(tg iter:gw)(c:TI):Prop:=
 ∀(a:hG) (s:gu) (b:St) (H:Hp) (R:It->Hp->Prop),Inv X a b H s->c b H R->
  wpAny (model X.prog X.w) X.A (eval iter X.env) (λv s1=>wpAny (model X.prog X.w) X.A (pyIter v) (PIE X a b tg R) X.xe s1) X.xe s
def LU{M:Model}{A:gR}{E:hZ}{s:gu}{c:gw}{b:gm}{u:gz}{o:Obj}{n:String}{d:lA}{Q:Unit->Shared->Prop}(g:s.heap.get? b=some o)(e:o.cls= .type n)(hd:o.data= .fields d)
  (f:["enumerate","zip","dict_itemiterator","dict_reverseitemiterator","odict_iterator","itertools.zip_longest","itertools.pairwise"].contains n=false)(a:Q () s):wpAny M A (letOwnedTupleGo c (.ref b) u) Q E s:=by
 unfold letOwnedTupleGo
 cases c<;>first
  |exact gE a
  |(cases u<;>first
    |exact gE a
    |(
      refine gq (wpAny_load g ?_);rw[e,hd];show wpAny M A (if(["enumerate","zip","dict_itemiterator","dict_reverseitemiterator","odict_iterator","itertools.zip_longest","itertools.pairwise"].contains n&&d[0]?==some (rawInt _))=true then _ else _) Q E s;rw[hJ (by intro h;rw[f,Bool.false_and] at h;cases h)];exact gE a))
noncomputable def Itl(K:gK)(a:gm):It:=
 ⟨λi H=> ∃b x,SqL K H a b/\b[i]?=some x,λi H x c=>c=H/\ ∀b,SqL K H a b->b[i]?=some x,λi H=> ∃b,SqL K H a b/\b.length<=i⟩
noncomputable def Itt(K:gK)(a:gm):It:=
 ⟨λi H=> ∃b x,SqT K H a b/\b[i]?=some x,λi H x c=>c=H/\ ∀b,SqT K H a b->b[i]?=some x,λi H=> ∃b,SqT K H a b/\b.length<=i⟩
noncomputable def Itr(lo:Int)(n:Nat):It:=⟨λi _=>i<n,λi H x a=>a=H/\x= .int (lo+i),λi _=>n<=i⟩
def HI{P:gS}{w:gO}{K:gK}{tg:gw}(a j:gm):Turn P w K tg (Itl K a) [j] j (λi h=>h.IsListIter j a i) where
 mem:=by simp
 obj:=λi h st b g=>by
  have e:b=j:=by simpa using g
  subst e;obtain⟨o,e,c,d⟩:=st;exact⟨o,e,λv z=>by rw[d] at z;cases z⟩
 keep:=λi h l st k=>st.at λo e=>k j (by simp) o e
 item:=by
  intro X A C y N i f s O H E I m st B;subst A C y;obtain⟨S,x,n,G⟩:=B;obtain⟨J,L,p,D⟩:=I.list n;obtain⟨u,U,F⟩:=L.get G;obtain⟨f0,f1,f2,q,r,t⟩:=m j (by simp);refine wpAny_pyNext_list_item st p.isList (x:=u) (by simpa using U) λl M R=>?_;have Q:Inv X f O H {s with heap:=l}:=I.turned (t':=s.toks) (λb o g e=>(R.2 b g).trans e) f0 f1 q r t;obtain⟨o,e,c,d⟩:=id M;exact⟨u,rfl,LU (s:={s with heap:=l}) e c d (by decide) ⟨x,H,Q,F,⟨rfl,λW Y=>by rw[I.list_inj Y n];exact G⟩,M,λb g=>(m b g).1⟩⟩
 done:=by
  intro X A C y N i f s O H E I m st B;subst A C y;obtain⟨S,n,G⟩:=B;obtain⟨J,L,p,D⟩:=I.list n;obtain⟨f0,f1,f2,q,r,t⟩:=m j (by simp);have V:=L.length;exact wpAny_pyNext_list_end (I.ok.hd N) st p.isList (by simp;lia) λl T=>⟨rfl,I.turned (t':=s.toks) (λb o g e=>T b o g e) f0 f1 q r t⟩
 self:=λ_ _ _ _ _ st h=>wpAny_pyIter_listiter st h
def EZ{P:gS}{w:gO}{K:gK}{tg:gw}(a j:gm):Turn P w K tg (Itt K a) [j] j (λi h=>h.IsTupleIter j a i) where
 mem:=by simp
 obj:=λi h st b g=>by
  have e:b=j:=by simpa using g
  subst e;obtain⟨o,e,c,d⟩:=st;exact⟨o,e,λv z=>by rw[d] at z;cases z⟩
 keep:=λi h m st k=>st.at λo e=>k j (by simp) o e
 item:=by
  intro X B G A N i f s O H E I n st C;subst B G A;obtain⟨S,x,q,J⟩:=C;obtain⟨l,L,p,D⟩:=I.tuple q;obtain⟨u,U,F⟩:=L.get J;obtain⟨f0,f1,f2,r,t,y⟩:=n j (by simp);refine wpAny_pyNext_tuple_item st (show s.heap.IsTuple a l.toArray from p) (x:=u) (by simpa using U) λm M R=>?_;have Q:Inv X f O H {s with heap:=m}:=I.turned (t':=s.toks) (λb o g e=>(R.2 b g).trans e) f0 f1 r t y;obtain⟨o,e,c,d⟩:=id M;exact⟨u,rfl,LU (s:={s with heap:=m}) e c d (by decide) ⟨x,H,Q,F,⟨rfl,λW Y=>by rw[I.tuple_inj Y q];exact J⟩,M,λb g=>(n b g).1⟩⟩
 done:=by
  intro X B G A N i f s O H E I n st C;subst B G A;obtain⟨S,q,J⟩:=C;obtain⟨l,L,p,D⟩:=I.tuple q;obtain⟨f0,f1,f2,r,t,y⟩:=n j (by simp);have V:=L.length;exact wpAny_pyNext_tuple_end (I.ok.hd N) st (show s.heap.IsTuple a l.toArray from p) (by simp;lia) λm T=>⟨rfl,I.turned (t':=s.toks) (λb o g e=>T b o g e) f0 f1 r t y⟩
 self:=λ_ _ _ _ _ st h=>wpAny_pyIter_tupleiter st h
def E5{P:gS}{w:gO}{K:gK}{L:gw}(a:gm)(lo:Int)(n:Nat):Turn P w K L (Itr lo n) [a] a (λi h=>IsRangeIter h a (lo+(i:Nat)*1) ((n:Int)-(i:Nat)) 1) where
 mem:=by simp
 obj:=λi h st b d=>by
  have e:b=a:=by simpa using d
  subst e
  exact⟨_,st,λv z=>by
   have M:Data.fields _=Data.cell v:=z;cases M⟩
 keep:=λi h f st k=>k a (by simp) _ st
 item:=by
  intro X q x p r i c s B H E I g st u;subst q x p;obtain⟨f0,f1,f2,j,l,m⟩:=g a (by simp);have W:=Walks.range (prog:=X.prog) (w:=X.w) (I.ok.hd r) a lo 1 n;refine W.item i s _ _ u st λv f A hv y J=>?_;obtain⟨t,rfl⟩:=hv;have C:Inv X c B H {s with heap:=f,toks:=A}:=I.turned (λb o d e=>J b o (by simpa using d) e) f0 f1 j l m;refine⟨_,rfl,LU (s:={s with heap:=f,toks:=A}) (n:="range_iterator") y rfl rfl (by decide) ⟨.int (lo+i),H,C,⟨t,?_⟩,⟨rfl,rfl⟩,y,λb d=>(g b d).1⟩⟩;rw[xR]
 done:=by
  intro X q x p r i c s B H E I g st u;subst q x p;obtain⟨f0,f1,f2,j,l,m⟩:=g a (by simp);exact wpAny_pyNext_range_end (I.ok.hd r) st (by have:n<=i:=u;lia) λf G=>⟨rfl,I.turned (t':=s.toks) (λb o d e=>G b o d e) f0 f1 j l m⟩
 self:=λ_ _ _ _ _ st h=>wpAny_pyIter_rangeiter st h
section
variable {X:Cx}{tg:gw}
def Ut(K:gK)(c:TE):TI:=λe H R=>c e H λx b=> ∃a,x= .ref a/\(∃d,SqL K b a d)/\R (Itl K a) b
def V5(K:gK)(c:TE):TI:=λe H R=>c e H λx b=> ∃a,x= .ref a/\(∃d,SqT K b a d)/\R (Itt K a) b
def Nz{l:gw}{f:TE}(j:PE X l f):PI X tg l (Ut X.K f):=by
 intro c s t H R I h;refine thn (j c s t H _ I h) λv s1 ⟨x,g,d,r,n⟩=>?_;obtain⟨a,e,⟨y,k⟩,q⟩:=n;subst e;cases r;obtain⟨m,w,p,u⟩:=d.list k;refine Br p.isList ?_;refine⟨s1.heap.objs.size,[s1.heap.objs.size],_,_,g,rfl,d.kept (t':=s1.toks) λb o e=>iA _ e,HI a _,⟨_,jr _ rfl,rfl,rfl⟩,λb i=>?_,q⟩;have e:b=s1.heap.objs.size:=by simpa using i
 subst e;exact d.fpOk (iY _) (d.hok.fresh (iY _))
def Rt{l:gw}{g:TE}(k:PE X l g):PI X tg l (V5 X.K g):=by
 intro c s t H R I h;refine thn (k c s t H _ I h) λv s1 ⟨x,i,d,r,n⟩=>?_;obtain⟨a,e,⟨y,m⟩,q⟩:=n;subst e;cases r;obtain⟨f,w,p,u⟩:=d.tuple m;refine wpAny_pyIter_tuple (show s1.heap.IsTuple a f.toArray from p) ?_;refine⟨s1.heap.objs.size,[s1.heap.objs.size],_,_,i,rfl,d.kept (t':=s1.toks) λb o e=>iA _ e,EZ a _,⟨_,jr _ rfl,rfl,rfl⟩,λb j=>?_,q⟩;have e:b=s1.heap.objs.size:=by simpa using j
 subst e;exact d.fpOk (iY _) (d.hok.fresh (iY _))
def Df{c:hG}{g:St}{H:Hp}{s:gu}{R:It->Hp->Prop}{E:hZ}{lo a:Int}{t u v:Tok}{f:Nat}(I:Inv X c g H s)(h1: -(2^62)<=lo)(j:lo<2^62)(k: -(2^62)<=a)(l:a<2^62)
  (q:R (Itr lo (a-lo).toNat) H):wpAny (model X.prog X.w) X.A (pyIter (.ref s.heap.objs.size)) (PIE X c g tg R) E {s with heap:=s.heap.push {cls:= .type "range",data:= .fields #[.int lo t,.int a u,.int 1 v]},toks:=f}:=by
 refine wpAny_pyIter_range (IsRange.new ..) (small_one h1 j k l) ?_;have d:Inv X c g H {s with heap:=s.heap.push {cls:= .type "range",data:= .fields #[.int lo t,.int a u,.int 1 v]},toks:=f}:=I.kept λb o e=>iA _ e
 refine⟨(s.heap.push {cls:= .type "range",data:= .fields #[.int lo t,.int a u,.int 1 v]}).objs.size,[(s.heap.push {cls:= .type "range",data:= .fields #[.int lo t,.int a u,.int 1 v]}).objs.size],_,_,H,rfl,
  d.kept (t':=f) λb o e=>iA _ e,E5 _ lo (a-lo).toNat,?_,λb m=>?_,q⟩
 ·have h:lo+((0:Nat):Int)*1=lo:=by simp
  have i:(((a-lo).toNat:Nat):Int)-((0:Nat):Int)=Builtin.Range.rangeSize lo a 1:=by rw[rangeSize_one];split<;>lia
  show IsRangeIter _ _ (lo+((0:Nat):Int)*1) ((((a-lo).toNat:Nat):Int)-((0:Nat):Int)) 1;rw[h,i];exact jr _ rfl
 ·have e:b=(s.heap.push {cls:= .type "range",data:= .fields #[.int lo t,.int a u,.int 1 v]}).objs.size:=by simpa using m
  subst e;exact d.fpOk (iY _) (d.hok.fresh (iY _))
def Us(b:TA):TI:=λd H R=>b d H λc a=> ∃j:Int,c=[.int j]/\ -(2^62)<=j/\j<2^62/\R (Itr 0 j.toNat) a
def Ur(b:TA):TI:=λd H R=>b d H λc a=> ∃i j:Int,c=[.int i,.int j]/\(-(2^62)<=i/\i<2^62/\ -(2^62)<=j/\j<2^62)/\R (Itr i (j-i).toNat) a
def Ig{a:gw}{f:TA}{p c:Pos}(k:Gl X "range")(l:X.mg "range"=none)(i:PA X [a] f)(m:starEach [a] X.env=[(false,eval a X.env)]:=by rfl):PI X tg (.Call (.Name "range" p) [a] [] c) (Us f):=by
 intro b s v H R I h;refine Call_ (pk I k l Bq (Bp (thn (i c b s v H _ I h) λx s1 ⟨y,w,g,o,d⟩=>?_) m rfl));obtain⟨j,e,d,n,q⟩:=d;subst e
 cases o with
 |cons r u=>
  cases u;obtain⟨t,rfl⟩:=r;exact call_range_1 (Df g (by lia) (by lia) d n (by simpa using q))
def Ie{a b:gw}{k:TA}{p d:Pos}(o:Gl X "range")(u:X.mg "range"=none)(n:PA X [a,b] k)(v:starEach [a,b] X.env=[(false,eval a X.env),(false,eval b X.env)]:=by rfl)(l:starEach [b] X.env=[(false,eval b X.env)]:=by rfl):
  PI X tg (.Call (.Name "range" p) [a,b] [] d) (Ur k):=by
 intro c s B H R I h;refine Call_ (pk I o u Bq (Bp (thn (n d c s B H _ I h) λG s1 ⟨J,C,m,A,f⟩=>?_) (by rw[v,l]) (by rw[l];rfl)));obtain⟨i,j,e,⟨f,w,x,y⟩,q⟩:=f;subst e
 cases A with
 |cons r g=>
  cases g with
  |cons z g=>
   cases g;obtain⟨t,rfl⟩:=r;obtain⟨E,rfl⟩:=z;exact call_range_2 (Df m f w x y q)
def Vg(k:TI)(g:TG)(j:TS):TS:=λD a H=>k a H λJ f=> ∃W:Nat->Nat->St->Hp->Prop,(∃m,W 0 m a f)/\ ∀i m a H,W i m a H->
 (J.stop i H/\D.nx a H)\/(J.go i H/\ ∃N:St->Hp->Prop,(∀c b,N c b-> ∃e,e<m/\W (i+1) e c b)/\ ∀x b,J.yld i H x b->g x a b λd h=>j {D with nx:=N,ct:=N,bk:=D.nx} d h)
noncomputable def yq(a:ji)(h:gL):List (Addr×Obj):=a.filterMap λb=>(h.get? b).map λo=>(b,o)
def pj{a:ji}{h:gL}{b:gm}{o:Obj}(c:b∈a)(e:h.get? b=some o):(b,o)∈yq a h:=SY.mpr ⟨b,c,by rw[e];rfl⟩
def Ij{a:ji}{h:gL}{p:Addr×Obj}(f:p∈yq a h):p.1∈a/\h.get? p.1=some p.2:=by
 obtain⟨b,d,e⟩:=SY.mp f
 cases q:h.get? b with
 |none=>rw[q] at e;cases e
 |some o=>
  rw[q] at e;have c:(b,o)=p:=js e;subst c;exact⟨d,q⟩
def Inv.pinned{a:hG}{h:St}{H:Hp}{s:gu}{c:ji}(I:Inv X a h H s)(i: ∀b∈c,qx X a H b)(j: ∀b∈c,∃o,s.heap.get? b=some o/\ ∀v,o.data≠ .cell v):Inv X (a++yq c s.heap) h H s:=
 I.pins_of λp k=>(rK.mp k).elim (λz=>I.pin p (ot _ z)) λz=>by
  obtain⟨g,e⟩:=Ij z;obtain⟨f0,f1,f2,_⟩:=i p.1 g;obtain⟨o,f,d⟩:=j p.1 g;rw[e] at f;cases f;exact⟨e,f0,f1,f2,d⟩
def Inv.unpinned{a d:hG}{b:St}{H:Hp}{s:gu}(I:Inv X (a++d) b H s):Inv X a b H s:=I.pins_of λp c=>I.pin p (ot _ (Bs _ c))
def Rl{iter:gw}{y:List Stmt}{wi:TI}{g:TG}{tb:TS}{Q:Pos}(C:PassesOwn (model X.prog X.w) X.A X.env X.xe)(hc:X.calm=true)(hi:PI X tg iter wi)(hg:PG X tg g)(l:PSs X y tb)
  (hs: ∀x,foldedSetIterable iter X.env x=pure x:=by intro _;rfl):PS X (.For tg iter y [] Q) (Vg wi g tb):=by
 intro a s P H D I h;refine wpAny_For (thn (hi a s P H _ I h) λv s1 h1=>thn h1 λcW s2 h2=>?_) hs;obtain⟨it,B,K,J,R,e,S,T,V,f2,W,⟨m0,w0⟩,G⟩:=h2;subst e;have Y: ∀{t:Hp},(∀b∈B,t b=none)-> ∀b∈B,qx X a t b:=λhn b l=>⟨hn b l,(f2 b l).2⟩
 refine codeAny_forLoop_any (λn F=> ∃i p t,Inv X a p t F/\K i F.heap/\(∀b∈B,t b=none)/\W i n p t) ?_ m0 ⟨0,P,R,S,V,λb l=>(f2 b l).1,w0⟩;rintro n s3 ⟨i,q,L,I3,cQ,cK,w3⟩;rcases G i n q L w3 with⟨stop,qn⟩|⟨go,N,hN,step⟩
 ·refine xg C (thn (T.done X rfl rfl rfl hc i a s3 q L X.xe I3 (Y cK) cQ stop) λr s4 ⟨O,I4⟩=>?_);subst O;exact xS ⟨q,L,I4,qn⟩
 ·refine xg C (thn (T.item X rfl rfl rfl hc i a s3 q L X.xe I3 (Y cK) cQ go) λr s4 ⟨u,O,h4⟩=>?_);subst O;refine xg C (thn h4 λ_ s5 ⟨x,H5,I5,r5,y5,M,fO⟩=>?_);have Z:=I5.pinned (Y fO) (T.obj _ _ M);refine xg C (thn (hg _ s5 q H5 x u _ Z r5 (step x H5 y5)) λ_ s6 ⟨σ6,H6,I6,q6⟩=>?_);refine xg C (thn (l _ s6 σ6 H6 _ I6 q6) λf U z=>?_)
  have again: ∀{c:St} {j:Hp},Inv X (a++yq B s5.heap) c j U->N c j-> ∃m,m<n/\ ∃i p t,Inv X a p t U/\K i U.heap/\(∀b∈B,t b=none)/\W i m p t:=λ{c j} k E=>by
   obtain⟨m',hm,w7⟩:=hN c j E;refine⟨m',hm,i+1,c,j,k.unpinned,T.keep _ _ _ M λb l o e=>(k.pin (b,o) (ot _ (ot _ (pj l e)))).1,λb l=>?_,w7⟩;obtain⟨o,e,d⟩:=T.obj _ _ M b l;exact(k.pin (b,o) (ot _ (ot _ (pj l e)))).2.1
  cases f with
  |next=>obtain⟨c,j,k,E⟩:=z;exact again k E
  |cont=>obtain⟨c,j,k,E⟩:=z;exact again k E
  |brk=>obtain⟨c,j,k,z⟩:=z;exact⟨c,j,k.unpinned,z⟩
  |ret v=>obtain⟨x7,c,j,k,r7,z⟩:=z;exact⟨x7,c,j,k.unpinned,r7,z⟩
end
abbrev R2:=V->V->Hp->VK->Prop
def OpR(X:Cx)(f:vK)(r:R2):Prop:=
 ∀(a:hG) (s:gu) (b:St) (H:Hp) (x y:V) (v u:gz) (Q:VK),Inv X a b H s->RelV x v->RelV y u->r x y H Q->
  wpAny (model X.prog X.w) X.A (f v u) (EP X a b Q) X.xe s
def UnR(X:Cx)(f:Value->Sem Value)(r:V->Hp->VK->Prop):Prop:=
 ∀(a:hG) (s:gu) (b:St) (H:Hp) (x:V) (v:gz) (Q:VK),Inv X a b H s->RelV x v->r x H Q->
  wpAny (model X.prog X.w) X.A (f v) (EP X a b Q) X.xe s
def ju(X:Cx)(f:gz)(r:List V->Hp->VK->Prop):Prop:=
 ∀(a:hG) (s:gu) (d:St) (H:Hp) (c:List V) (b:ik) (Q:VK),Inv X a d H s->Vals c b->r c H Q->
  wpAny (model X.prog X.w) X.A (call f b) (EP X a d Q) X.xe s
noncomputable def tOp(r:R2)(d e:TE):TE:=λa H Q=>d a H λx b=>e a b λy c=>r x y c Q
def tUn(r:V->Hp->VK->Prop)(b:TE):TE:=λc H Q=>b c H λx a=>r x a Q
def rI(C:Int->Int->Prop)(g:Int->Int->V):R2:=λx y H Q=> ∃i j,x= .int i/\y= .int j/\C i j/\Q (g i j) H
def rI0(g:Int->Int->V):R2:=λx y H Q=> ∃i j,x= .int i/\y= .int j/\Q (g i j) H
def rU(g:Int->V):V->Hp->VK->Prop:=λx H Q=> ∃i,x= .int i/\Q (g i) H
section
variable {X:Cx}{a b c:gw}{l tb n:TE}{m:Pos}
def SO(r:PE X a l)(t:PE X b tb){d:hG}{s:gu}{g:St}{H:Hp}{R:V->V->Hp->Prop}(I:Inv X d g H s)
  (h:l g H λx o=>tb g o λy e=>R x y e){Q:hZ}{f:vK}
  (z: ∀v u k x y e,Inv X d g e k->RelV x v->RelV y u->R x y e->wpAny (model X.prog X.w) X.A (f v u) Q X.xe k):
  wpAny (model X.prog X.w) X.A (eval a X.env) (λv i=>wpAny (model X.prog X.w) X.A (eval b X.env) (λu j=>wpAny (model X.prog X.w) X.A (f v u) Q X.xe j) X.xe i) X.xe s:=by
 refine thn (r d s g H _ I h) λv s1 ⟨x,o,p,E,B⟩=>?_;refine thn (t d s1 g o _ p B) λu k ⟨y,e,q,G,C⟩=>?_;exact z v u k x y e q E G C
def T8{e:Operator}{r:R2}(k:OpR X (binaryOp e) r)(i:PE X a l)(j:PE X b tb):PE X (.BinOp a e b m) (tOp r l tb):=by
 intro d s w H Q I h;exact wpAny_BinOp (SO i j I h λv u t x y f g o p q=>k d t w f x y v u Q g o p q)
def T7{e:UnaryOp}{r:V->Hp->VK->Prop}(k:UnR X (unaryOp e) r)(j:PE X a l):PE X (.UnaryOp e a m) (tUn r l):=by
 intro d s f H Q I h;exact UnaryOp_ (thn (j d s f H _ I h) λv s1 ⟨x,g,i,p,o⟩=>k d s1 f g x v Q i p o)
def opI{f:vK}{C:Int->Int->Prop}{g:Int->Int->Int}
  (rule: ∀(i j:Int) (t u:Tok) (s:gu) (Q:hZ) (E:hZ),C i j->Q (.int (g i j) s.toks) {s with toks:=s.toks+1}->wpAny (model X.prog X.w) X.A (f (.int i t) (.int j u)) Q E s):
  OpR X f (rI C λi j=> .int (g i j)):=by
 intro d s r H x y v u Q I k o h;obtain⟨i,j,rfl,rfl,e,q⟩:=h;obtain⟨t,rfl⟩:=k;obtain⟨p,rfl⟩:=o;exact rule i j t p s _ _ e ⟨.int (g i j),H,I.tok _,⟨_,rfl⟩,q⟩
def RP{f:vK}{g:Int->Int->Int}
  (rule: ∀(i j:Int) (t u:Tok) (s:gu) (Q:hZ) (E:hZ),Q (.int (g i j) s.toks) {s with toks:=s.toks+1}->wpAny (model X.prog X.w) X.A (f (.int i t) (.int j u)) Q E s):
  OpR X f (rI0 λi j=> .int (g i j)):=by
 intro d s p H x y v u Q I e k h;obtain⟨i,j,rfl,rfl,q⟩:=h;obtain⟨t,rfl⟩:=e;obtain⟨o,rfl⟩:=k;exact rule i j t o s _ _ ⟨.int (g i j),H,I.tok _,⟨_,rfl⟩,q⟩
def NP{f:vK}{g:Int->Int->Bool}
  (rule: ∀(i j:Int) (t u:Tok) (s:gu) (Q:hZ) (E:hZ),Q (.bool (g i j)) s->wpAny (model X.prog X.w) X.A (f (.int i t) (.int j u)) Q E s):
  OpR X f (rI0 λi j=> .bl (g i j)):=by
 intro d s p H x y v u Q I e k h;obtain⟨i,j,rfl,rfl,q⟩:=h;obtain⟨t,rfl⟩:=e;obtain⟨o,rfl⟩:=k;exact rule i j t o s _ _ ⟨.bl (g i j),H,I,rfl,q⟩
def IQ(i j:Int):Prop:=0<j/\j<1073741824
def qy(i j:Int):Prop:=0<=j/\j<=1000000/\i.natAbs<2^64
def CMul(i j:Int):Prop:=(-(2^64)<i/\i<2^64)\/(-(2^64)<j/\j<2^64)
theorem CMul.ok{i j:Int}(h:CMul i j):IntMulOk i j:=by
 rcases h with⟨h1,d⟩|⟨h1,d⟩
 ·exact .of_left (intBits_le_64 h1 d)
 ·exact .of_right (intBits_le_64 h1 d)
theorem EY(k:Nat):(0:Int)<=2^k:=by
 rw[two_pow_cast];exact Int.natCast_nonneg _
def RO:OpR X (binaryOp .Add) (rI0 λi j=> .int (i+j)):=RP λ_ _ _ _ _ _ _ q=>add_int q
def RE:OpR X (binaryOp .Sub) (rI0 λi j=> .int (i-j)):=RP λ_ _ _ _ _ _ _ q=>sub_int q
def RK:OpR X (binaryOp .Mult) (rI CMul λi j=> .int (i*j)):=opI λ_ _ _ _ _ _ _ d q=>mul_int q d.ok
def NN:OpR X (binaryOp .FloorDiv) (rI IQ λi j=> .int (i / j)):=opI λi j _ _ _ _ _ d q=>by
 have h1:(0:Int)<j:=d.1;have e:j<1073741824:=d.2;exact floordiv_int (by lia) (by rw[JE i (by lia)];exact q) (.inl (PyProof.noPylong_small (by lia)))
def RL:OpR X (binaryOp .Mod) (rI (λ_ j=>0<j) λi j=> .int (i%j)):=opI λi j _ _ _ _ _ d q=>by
 have h1:(0:Int)<j:=d;exact mod_int' (by lia) (by rw[Int.fmod_eq_emod_of_nonneg i (by lia)];exact q)
def RH:OpR X (binaryOp .Pow) (rI qy λi j=> .int (i^j.toNat)):=opI λ_ _ _ _ _ _ _ d q=>pow_int_small d.1 d.2.1 d.2.2 q
def RG:OpR X (binaryOp .LShift) (rI qy λi j=> .int (i*2^j.toNat)):=opI λ_ _ _ _ _ _ _ d q=>lshift_int_small d.1 d.2.1 d.2.2 q
def RF:OpR X (binaryOp .RShift) (rI (λ_ j=>0<=j) λi j=> .int (i / 2^j.toNat)):=opI λi j _ _ _ _ _ d q=>
 rshift_int d (by rw[JE i (EY _)];exact q)
def RN:OpR X (binaryOp .BitAnd) (rI0 λi j=> .int (Builtin.bitAnd i j)):=RP λ_ _ _ _ _ _ _ q=>and_int q
def unI{f:Value->Sem Value}{g:Int->Int}
  (rule: ∀(i:Int) (t:Tok) (s:gu) (Q:hZ) (E:hZ),Q (.int (g i) s.toks) {s with toks:=s.toks+1}->wpAny (model X.prog X.w) X.A (f (.int i t)) Q E s):
  UnR X f (rU λi=> .int (g i)):=by
 intro d s j H x v Q I e h;obtain⟨i,rfl,q⟩:=h;obtain⟨t,rfl⟩:=e;exact rule i t s _ _ ⟨.int (g i),H,I.tok _,⟨_,rfl⟩,q⟩
def P6:UnR X (unaryOp .USub) (rU λi=> .int (-i)):=unI λ_ _ _ _ _ q=>neg_int q
def Ma{d:hG}{g:St}{H:Hp}{s:gu}{Q:VK}{k f:Bool}(I:Inv X d g H s)(q:Q (.bl k) H)(e:k=f):EP X d g Q (.bool f) s:=by
 subst e;exact⟨.bl k,H,I,rfl,q⟩
def Ub:OpR X (compareOp .Lt) (rI0 λi j=> .bl (decide (i<j))):=NP λ_ _ _ _ _ _ _ q=>lt_int q
def Uc:OpR X (compareOp .LtE) (rI0 λi j=> .bl (decide (i<=j))):=NP λ_ _ _ _ _ _ _ q=>le_int q
def Ud:OpR X (compareOp .Gt) (rI0 λi j=> .bl (decide (j<i))):=NP λ_ _ _ _ _ _ _ q=>gt_int q
def Ue:OpR X (compareOp .GtE) (rI0 λi j=> .bl (decide (j<=i))):=NP λ_ _ _ _ _ _ _ q=>ge_int q
def Li:OpR X (compareOp .Is) (λx y H Q=>y= .non/\Q (.bl (decide (x= .non))) H):=by
 intro d s g H x y v u Q I e f h;obtain⟨rfl,q⟩:=h;cases f;refine is_none_gen (Ma I q ?_)
 cases x<;>first
  |(cases e;rfl)
  |(obtain⟨t,rfl⟩:=e;rfl)
def Ln(b:gw){d:CmpOp}(h:d≠ .In:=by decide)(g:d≠ .NotIn:=by decide):behindInMarks d b=false:=by
 have e:(d==CmpOp.In)=false:=by cases d<;>first|rfl|exact absurd rfl h
 have f:(d==CmpOp.NotIn)=false:=by cases d<;>first|rfl|exact absurd rfl g
 cases b<;>simp[behindInMarks,e,f]
def ND{e:CmpOp}{r:R2}(o:OpR X (compareOp e) r)(i:PE X a l)(j:PE X b tb)(k:behindInMarks e b=false):PE X (.Compare a [e] [b] m) (tOp r l tb):=by
 intro d s z H Q I h;exact wpAny_Compare1 (SO i j I h λv u w x y f g p t q=>o d w z f x y v u Q g p t q) k
def Tp(t:TE):TT:=λe H Q=>t e H λx d=> ∃k,x= .bl k/\Q k d
def Nm{f:CmpOp}{r:R2}(C:OpR X (compareOp f) r)(w:PE X a l)(A:PE X b tb)(B:behindInMarks f b=false):PT X (.Compare a [f] [b] m) (Tp (tOp r l tb)):=by
 intro d s g H Q I h
 refine wpAny_isTrue_Compare1 (thn (w d s g H _ I h) λv s1 ⟨x,i,p,L,E⟩=>thn (A d s1 g i _ p E) λu O ⟨y,j,q,M,G⟩=>
  thn (C d O g j x y v u _ q L M G) λc T ⟨z,o,t,N,k,e,J⟩=>?_) B
 subst e;cases N;exact uY ⟨o,t,J⟩
def J1(r i:R2)(l tb n:TE):TE:=λd H Q=>l d H λx f=>tb d f λy g=>r x y g λz e=> ∃k,z= .bl k/\
 (if k=true then n d e λj h=>i y j h Q else Q (.bl false) e)
def La{i j:CmpOp}{r t:R2}(U:OpR X (compareOp i) r)(L:OpR X (compareOp j) t)(M:PE X a l)(N:PE X b tb)(O:PE X c n)
  (T:lastMarks [i,j] [b,c]=false:=by with_unfolding_all rfl):PE X (.Compare a [i,j] [b,c] m) (J1 r t l tb n):=by
 intro f s g H Q I h
 refine Compare_chain (thn (M f s g H _ I h) λv s1 ⟨x,A,E,r1,Y⟩=>chain_link (thn (N f s1 g A _ E Y) λu s2 ⟨y,B,G,w,q2⟩=>
  thn (U f s2 g B x y v u _ G r1 w q2) λd s3 ⟨z,o,p,r3,k,e,q⟩=>?_)) T
 subst e;cases r3;refine uY ?_
 cases k with
 |false=>exact ite_ff ⟨.bl false,o,p,rfl,q⟩
 |true=>exact ite_tt (chain_last (thn (O f s3 g o _ p q) λw' s4 ⟨z',C,J,r4,q4⟩=>L f s4 g C y z' u w' Q J w r4 q4))
def B7:(sizeLine:Nat)<2^63:=by rw[iB];decide
def Fv:OpR X (binaryOp .Add) (λx y H Q=> ∃i j,x= .str i/\y= .str j/\i.length+j.length<=sizeLine/\Q (.str (i++j)) H):=by
 intro d s o H x y v u Q I f g h;obtain⟨i,j,rfl,rfl,e,q⟩:=h;obtain⟨t,rfl⟩:=f;obtain⟨t',rfl⟩:=g;exact add_str (λt' k=>⟨.str (i++j),H,I.tok _,⟨_,rfl⟩,q⟩) e
def pP{x:V}{d:ik}(r:Vals [x] d): ∃u,d=[u]/\RelV x u:=by
 cases r with
 |cons e f=>cases f;exact⟨_,rfl,e⟩
def tL{x y:V}{d:ik}(r:Vals [x,y] d): ∃u e,d=[u,e]/\RelV x u/\RelV y e:=by
 cases r with
 |cons f g=>
  cases g with
  |cons h i=>cases i;exact⟨_,_,rfl,f,h⟩
def Mt:ju X (.builtin "abs") (λe H Q=> ∃i,e=[.int i]/\Q (.int (if i<0 then -i else i)) H):=by
 intro d s j H e g Q I r h;obtain⟨i,rfl,q⟩:=h;obtain⟨u,rfl,t,rfl⟩:=pP r;exact call_abs_int λu f=>⟨.int (if i<0 then -i else i),H,I.tok _,⟨_,rfl⟩,q⟩
def II(g:X.calm=true):ju X (.builtin "max") (λf H Q=> ∃i j,f=[.int i,.int j]/\Q (.int (if j>i then j else i)) H):=by
 intro e s y H f w Q I r h;obtain⟨i,j,rfl,q⟩:=h;obtain⟨u,x,rfl,⟨t,rfl⟩,⟨p,rfl⟩⟩:=tL r;refine max_two_ints (I.ok.hd g) λo v k=>⟨_,H,I.kept k,?_,q⟩
 by_cases d:j>i
 ·rw[gF d,gF d];exact⟨_,rfl⟩
 ·rw[hJ d,hJ d];exact⟨_,rfl⟩
def IH(g:X.calm=true):ju X (.builtin "min") (λf H Q=> ∃i j,f=[.int i,.int j]/\Q (.int (if j<i then j else i)) H):=by
 intro e s y H f w Q I r h;obtain⟨i,j,rfl,q⟩:=h;obtain⟨u,x,rfl,⟨t,rfl⟩,⟨p,rfl⟩⟩:=tL r;refine min_two_ints (I.ok.hd g) λo v k=>⟨_,H,I.kept k,?_,q⟩
 by_cases d:j<i
 ·rw[gF d,gF d];exact⟨_,rfl⟩
 ·rw[hJ d,hJ d];exact⟨_,rfl⟩
def AH:ju X (.type "int") (λd H Q=>(∃i,d=[.int i]/\Q (.int i) H)\/ ∃k,d=[.bl k]/\Q (.int (if k then 1 else 0)) H):=by
 intro e s j H d g Q I r h;rcases h with⟨i,rfl,q⟩|⟨k,rfl,q⟩
 ·obtain⟨u,rfl,t,rfl⟩:=pP r;exact call_int_int ⟨.int i,H,I,⟨_,rfl⟩,q⟩
 ·obtain⟨u,rfl,f⟩:=pP r;cases f;exact call_int_bool ⟨.int (if k then 1 else 0),H,I.tok _,⟨_,rfl⟩,q⟩
end
section
variable {a:gS}{w:gO}{A:gR}{E:hZ}{s:gu}{K:gK}{x d C f:gm}{c:jX}{b:Str}{v:gz}
end
def RelO.some_of{v:V}{o:Option Value}(r:RelO (some v) o): ∃u,o=some u/\RelV v u:=by
 cases o with
 |none=>exact(show False from r).elim
 |some u=>exact⟨u,rfl,r⟩
section
variable {P:gS}{w:gO}{H e:Hp}{h c:gL}{a C d:gm}{fs b:List (Str×V)}
end
section
variable {X:Cx}{b:hG}{c:St}{H:Hp}{s:gu}{a C d:gm}{fs:List (Str×V)}{f:Str}{v:V}{A:gR}{E:hZ}
end
section
variable {X:Cx}{o e a:gw}{f:Str}{c b h:Pos}{g d:TE}
end
section
variable {X:Cx}{a:hG}{d:St}{H:Hp}{s:gu}{A:gR}{E:hZ}{Q:hZ}{c:gz}{b:Bool}
end
structure Room(k:Nat)(A:gR):Prop where
 hd:A.handled=none
 dp:A.depth+3*k+5<recursionLimit
 un:A.units+16*k+200<cLine
 gd:A.guards=some []:=by rfl
def Room.mono{j k:Nat}{A:gR}(r:Room k A)(h:j<=k):Room j A:=⟨r.hd,by have:=r.dp;lia,by have:=r.un;lia,r.gd⟩
def Room.deeper{k:Nat}{A:gR}(r:Room (k+1) A)(a:Env):Room k (A.deeper a):=
 ⟨r.hd,by have:=r.dp;show A.depth+1+3*k+5<_;lia,by have:=r.un;show A.units+3+16*k+200<_;lia,r.gd⟩
theorem Room.depth{k:Nat}{A:gR}(r:Room k A):A.depth<recursionLimit:=by have:=r.dp;lia
noncomputable def Vd:TA:=λ_ H Q=>Q [] H
noncomputable def Tz(d:TE)(e:TA):TA:=λa H Q=>d a H λx b=>e a b λf c=>Q (x::f) c
section
variable {X:Cx}{e:gw}{c:iO}{d:TE}{t:TA}{a:Pos}
def nv:PA X [] Vd:=λ_ _ _ _ H Q I h=>EL ⟨[],H,I,.nil,h⟩
def ke(l:PE X e d)(m:PA X c t)(n:starEach (e::c) X.env=(false,eval e X.env)::starEach c X.env:=by rfl):PA X (e::c) (Tz d t):=by
 intro a b s f H Q I h;rw[n];show wpAny _ _ (spliced ((false,eval e X.env)::backTo a (starEach c X.env))) _ _ s;refine EK (thn (l b s f H _ I h) λu s1 ⟨x,g,j,q,o⟩=>?_);exact thn (m a b s1 f g _ j o) λy w ⟨v,i,k,r,p⟩=>⟨x::v,i,k,.cons q r,p⟩
noncomputable def U8(t:TA):TE:=λg H Q=>t g H λf b=>f.length<=sizeLine/\ ∀p,b p=none->Q (.ref p) (upd b p (.tup f))
noncomputable def Ve(t:TA):TE:=λg H Q=>t g H λf b=>f.length<=sizeLine/\ ∀p,b p=none->Q (.ref p) (upd b p (.lst f))
def K0{x1}(h:PA X c t):PE X (.Tuple c x1 a) (U8 t):=by
 intro f s n H Q I k;refine wpAny_Tuple_spliced (thn (h a f s n H _ I k) λl s1 ⟨m,g,i,r,z,q⟩=>⟨by rw[<-r.length];exact z,?_⟩);have j:g s1.heap.objs.size=none:=i.hok.fresh (iY _);refine⟨.ref s1.heap.objs.size,upd g s1.heap.objs.size (.tup m),i.laid (t':=s1.toks) (λb u e=>iA _ e) (iY _) ?_,rfl,q _ j⟩;exact⟨z,l,r,⟨_,jr _ rfl,rfl,_,rfl⟩⟩
def Rz(h:PA X c t):PE X (.List c a) (Ve t):=by
 intro f s n H Q I k;refine wpAny_List_spliced (thn (h a f s n H _ I k) λl s1 ⟨m,g,i,r,z,q⟩=>⟨by rw[<-r.length];exact z,?_⟩);have j:g s1.heap.objs.size=none:=i.hok.fresh (iY _);refine⟨.ref s1.heap.objs.size,upd g s1.heap.objs.size (.lst m),i.laid (t':=s1.toks) (λb u e=>iA _ e) (iY _) ?_,rfl,q _ j⟩;exact⟨z,l,0,r,jr _ rfl⟩
end
abbrev Sp:=List V->Hp->VK->XK->Prop
abbrev CXT:=List Env->Hp->Shared->XK->Value->Shared->Prop
structure Env0(P:gS)(w:gO)(K:gK)(mg:jX)(base:gL)(A:gR)(outer:List Env)(s:gu)(H:Hp):Prop where
 frames:A.frames=some outer
 mod:Mod K mg base
 bs: ∀b o,base.get? b=some o->s.heap.get? b=some o/\H b=none
 bsz:base.objs.size<=s.heap.objs.size
 funs:s.heap.FunFrames base outer
 frf: ∀b∈frs outer,H b=none
 hok:HOk P w H s.heap
 bare:AllBare s.gens
def CE(a:List Env)(P:gS)(w:gO)(H:Hp)(s:gu)(Q:VK)(u:gz)(b:gu):Prop:=
 ∃v c,b.os=s.os/\AllBare b.gens/\Un (frs a) [] H c s.heap b.heap/\HOk P w c b.heap/\RelV v u/\Q v c
def CR(CX:CXT)(a:List Env)(P:gS)(w:gO)(H:Hp)(s:gu)(Q:VK)(E:XK)(r:Result)(b:gu):Prop:=
 match r with
 | .ok (.ret u)=>CE a P w H s Q u b
 | .ok _=>False
 | .error e=>CX a H s E e b
structure FnOk(P:gS)(w:gO)(K:gK)(mg:jX)(base:gL)(CX:CXT)(k:Nat)(f:gm)(fd:kY)(ps:iw)(sp:Sp):Prop where
 len: ∀vs H Q E,sp vs H Q E->vs.length=ps.length
 run: ∀(A:gR) (outer:List Env) (s:gu) (H:Hp) (args:Args) (us:ik) (vs:List V) (Q:VK) (E:XK),Room k A->Env0 P w K mg base A outer s H->BindsTo s fd args (ps.zip us)->Vals vs us->sp vs H Q E->
  codeAny (model P w) A (.call (.ref f) args) (CR CX outer P w H s Q E) s
def FnOk.mono{P:gS}{w:gO}{K:gK}{d:jX}{base:gL}{CX:CXT}{j k:Nat}{f:gm}{c:kY}{e:iw}{g:Sp}(F:FnOk P w K d base CX j f c e g)(h:j<=k):
  FnOk P w K d base CX k f c e g:=⟨F.len,λA a s H b us vs Q E i=>F.run A a s H b us vs Q E (i.mono h)⟩
section
variable {X:Cx}{a:hG}{c:St}{H:Hp}{s e:gu}
def Inv.env0(I:Inv X a c H s):Env0 X.prog X.w X.K X.mg X.base X.A X.stack s H:=
 ⟨I.ok.frames,I.ok.mod,I.bs,mw I.ok.bsz I.sz,I.stack,I.stkFree,I.hok,I.bare⟩
def Inv.after{Q:VK}{u:gz}(I:Inv X a c H s)(h:CE X.stack X.prog X.w H s Q u e):EP X a c Q u e:=by
 obtain⟨v,j,os,f,un,i,r,q⟩:=h;obtain⟨l,g,d,t,k⟩:=e;obtain rfl:k=s.os:=os;exact⟨v,j,I.call (h':=l) (g':=g) (d':=d) (t':=t) (ch:=[]) un i f (λb z=>absurd z (by simp)),r,q⟩
end
noncomputable def TC(c:Sp)(b:List V)(E:XK)(t:TA):TE:=λe H Q=>t e H λd a=>c (d++b) a Q E
def Binds(K:gK)(c:kY)(b:iw)(a:ik):Prop:=
 ∀(s:gu) (us:ik),K.In s.heap->(us++a).length=b.length->BindsTo s c ⟨us,[]⟩ (b.zip (us++a))
theorem Binds.all{K:gK}{c:kY}{b:iw}(h: ∀a:List Value,a.length=b.length->bindArgs c ⟨a,[]⟩=pure (b.zip a)):Binds K c b []:=λs a _ d=>by
 rw[Bo] at d ⊢;exact .of_eq (h a d)
def Cz(c:CXT)(X:Cx)(E:XK):Prop:= ∀(a:hG) (d:St) (H:Hp) (s:gu) (e:gz) (b:gu),Inv X a d H s->c X.stack H s E e b->X.xe e b
section
variable {X:Cx}{l:CXT}{k:Nat}{f C:gm}{j:kY}{d:iw}{i:Sp}{c:List V}{b:ik}{E:XK}{x m:Str}{p a n:Pos}{e o:gw}{g:iO}{v:TE}{t:TA}
def Qi{q:hG}{G:St}{H:Hp}{s:gu}{Q:VK}{y:ik}{B:List V}(F:FnOk X.prog X.w X.K X.mg X.base l k f j d i)(O:Room k X.A)(M:Binds X.K j d b)(hd:Vals c b)(T:Cz l X E)
  (I:Inv X q G H s)(r:Vals B y)(h:i (B++c) H Q E):wpAny (model X.prog X.w) X.A (call (.ref f) y) (EP X q G Q) X.xe s:=by
 have J:Vals (B++c) (y++b):=r.append hd;have N:(y++b).length=d.length:=by rw[<-J.length];exact F.len _ _ _ _ h
 refine xQ (tE (F.run X.A X.stack s H ⟨y,[]⟩ (y++b) (B++c) Q E O I.env0 (M s y I.kIn N) J h) λr U z=>?_)
 cases r with
 |error e=>exact T q G H s e U I z
 |ok L=>
  cases L with
  |ret u=>exact I.after z
  |next=>exact False.elim z
  |brk=>exact False.elim z
  |cont=>exact False.elim z
def G3(F:FnOk X.prog X.w X.K X.mg X.base l k f j d i)(M:Room k X.A)(J:Gl X x)(L:X.mg x=some (.ref f))(hk:PySem.W.keepIn X.K (.ref f)=true)(B:Binds X.K j d b)(hd:Vals c b)(N:Cz l X E)
  (z:PA X (e::g) t)(T:(x==("__debug__":Str))=false:=by decide)(G:starEach (e::g) X.env=(false,eval e X.env)::starEach g X.env:=by rfl)(O:(backTo a (starEach g X.env)).any (·.1)=false:=by rfl):
  PE X (.Call (.Name x p) (e::g) [] a) (TC i c E t):=by
 intro u s U H Q I h;refine vQ (ug I J L ?_ T);refine PySem.W.callWith_K (h₀:=X.base) I.ok.mod.kin hk (thn (z a u s U H _ I h) λus s1 ⟨vs,Y,y,r,q⟩=>⟨y.kIn,?_⟩) G O;exact Qi F M B hd N y r q
end
section
variable {X:Cx}{w:CXT}{k:Nat}{f C:gm}{s:kY}{l q:iw}{j:Sp}{E:XK}{x m:Str}{p c b a:Pos}{e o:gw}{u:iO}{v:List Keyword}{h i:TE}{t d:TA}{n:Option Str}
variable {g:List Value->List Value->List Value}{r:List V->List V->List V}
end
structure FnScope(N P:iw)(sc:iq):Prop where
 kind:sc.kind= .function
 co:sc.isCoroutine=false
 gen:sc.isGenerator=false
 nd:N.Nodup
 pre:N.take P.length=P
 par: ∀x∈P,sc.names.lookup x=some .local\/sc.names.lookup x=some .cell
 nofree: ∀y∈sc.names,y.2≠ .free
theorem AK{kindOf:Str->Option NameKind}{x:Str}: ∀{binds:List (Str×Value)} {m:jX},(∀v,(x,v)∉binds)->bindL kindOf binds m x=m x
 |[],_,_=>rfl
 |(n,v)::r,m,h=>by
  unfold bindL;rw[AK λw a=>h w (jA _ a)];split
  ·have:x≠n:=by rintro rfl;exact h v jB
   simp[this]
  ·rfl
theorem AM{kindOf:Str->Option NameKind}{x:Str}: ∀{binds:List (Str×Value)} {m:jX},(∀v,(x,v)∉binds)->bindC kindOf binds m x=m x
 |[],_,_=>rfl
 |(n,v)::r,m,h=>by
  unfold bindC;rw[AM λw a=>h w (jA _ a)];split
  ·rfl
  ·have:x≠n:=by rintro rfl;exact h v jB
   simp[this]
theorem AL{kindOf:Str->Option NameKind}{x:Str}{v:gz}: ∀{P:iw} {a:ik} {i:Nat} {m:jX},P.Nodup->P[i]?=some x->a[i]?=some v->kindOf x=some .local->
  bindL kindOf (P.zip a) m x=some v
 |[],_,_,_,_,h,_,_=>by simp at h
 |_::_,[],_,_,_,_,h,_=>by simp at h
 |p::P,w::a,0,m,c,h1,b,hk=>by
  simp at h1 b;subst h1;subst b;show bindL kindOf ((p,w)::P.zip a) m p=_;unfold bindL;rw[AK λv hv=>(wJ.mp c).1 (Bm hv).1,gF hk];simp
 |p::P,w::a,i+1,m,c,h1,b,hk=>by
  show bindL kindOf ((p,w)::P.zip a) m x=_;unfold bindL;exact AL (i:=i) (wJ.mp c).2 (by simpa using h1) (by simpa using b) hk
theorem AN{kindOf:Str->Option NameKind}{x:Str}{v:gz}: ∀{P:iw} {a:ik} {i:Nat} {m:jX},P.Nodup->P[i]?=some x->a[i]?=some v->kindOf x≠some .local->
  bindC kindOf (P.zip a) m x=some v
 |[],_,_,_,_,h,_,_=>by simp at h
 |_::_,[],_,_,_,_,h,_=>by simp at h
 |p::P,w::a,0,m,c,h1,b,hk=>by
  simp at h1 b;subst h1;subst b;show bindC kindOf ((p,w)::P.zip a) m p=_;unfold bindC;rw[AM λv hv=>(wJ.mp c).1 (Bm hv).1,hJ hk];simp
 |p::P,w::a,i+1,m,c,h1,b,hk=>by
  show bindC kindOf ((p,w)::P.zip a) m x=_;unfold bindC;exact AN (i:=i) (wJ.mp c).2 (by simpa using h1) (by simpa using b) hk
noncomputable def mY(N:iw)(vs:List V):St:=vs.map some++List.replicate (N.length-vs.length) none
noncomputable def nY(CX:CXT)(P:gS)(w:gO)(K:gK)(c:jX)(base:gL)(N:iw)(qual:Str)(scope:iq)(f:gm)(cd:gz)(A:gR)(a:List Env)(s:gu)(H:Hp)(E:XK):Cx where
 prog:=P
 w:=w
 K:=K
 mg:=c
 base:=base
 A:=A.deeper (envOfC qual scope s.heap.objs.size f cd)
 N:=N
 s₀:=s
 H₀:=H
 env:=envOfC qual scope s.heap.objs.size f cd
 outer:=a
 stack:=envOfC qual scope s.heap.objs.size f cd::a
 ex:=[]
 calm:=true
 fn:=λ_=>true
 pn:=[]
 xe:=λe h=>wpAny (model P w) (A.deeper (envOfC qual scope s.heap.objs.size f cd)) (leaving (envOfC qual scope s.heap.objs.size f cd) e) (λ_ b=>CX a H s E e b) (λg b=>CX a H s E g b) h
def DV{a:iq}{n:Nat}{x:Str}(h:a.names.lookup x=some .cell): ∃c,(cellsFrom n a.names []).lookup x=some c:=by
 have q:=Bl a.names n [] (.inl h);exact IS.mp q
def Av{L:CXT}{P:gS}{w:gO}{K:gK}{I:jX}{base:gL}{N m:iw}{qual:Str}{scope:iq}{f:gm}{cd:gz}{A:gR}{d:List Env}{s s1:gu}{H:Hp}{E:XK}{J:ik}{o:List V}
  (S:FnScope N m scope)(hd:A.handled=none)(j:Env0 P w K I base A d s H)(U:o.length=m.length)(r:Vals o J)
  (x:InCallC s s.heap.objs.size (bindL (envOfC qual scope s.heap.objs.size f cd).kindOf (m.zip J) λ_=>none) (cellsFrom (s.heap.objs.size+1) scope.names []) (bindC (envOfC qual scope s.heap.objs.size f cd).kindOf (m.zip J) λ_=>none) s1):
  Inv (nY L P w K I base N qual scope f cd A d s H E) [] (mY N o) H s1:=by
 have Y:m.length<=N.length:=by have:=lP List.length S.pre;rw[tD] at this;lia
 obtain⟨h1,D,rfl,hk⟩:=x.done;have G: ∀b:Addr,b∉(nY L P w K I base N qual scope f cd A d s H E).ex:=λb z=>absurd (show b∈([]:List Addr) from z) (by simp)
 refine⟨⟨j.mod,S.kind,rfl,rfl,iY _,λy z c h1 g=>?_,λy l=>?_,λy c _ h=>?_,λ_=>hd,JD j.frames,.inr ⟨rfl,rfl⟩,λb z=>absurd z (G b),j.bs,j.bsz,λb _ _=>G b,λb z=>absurd z (G b),j.funs,j.frf⟩,
  rfl,j.bare,Un.kept hk,⟨_,x.toInCall.ns,λi y v h1 g T=>?_⟩,λy c h=>⟨_,x.cell y c h⟩,j.hok.fresh (iY _),λy c h=>?_,λp t=>absurd (show p∈([]:List (Addr×Obj)) from t) (by simp),j.hok.kept hk,?_⟩
 ·exact name_of_addr x.apart (oq h1) (oq g)
 ·have l:scope.names.lookup y=some .cell\/scope.names.lookup y=some .free:=l;rcases l with l|l
  ·exact DV l
  ·exact absurd rfl (S.nofree _ (oq l))
 ·exact xi (x.above y c (oq h))
 ·have C:i<o.length:=by
   unfold mY at g;by_cases C:i<o.length
   ·exact C
   ·rw[rH (by simpa using C)] at g;rw[tx] at g;split at g<;>cases g
  have O:o[i]?=some v:=by
   unfold mY at g;rw[vP (by simpa using C),jL] at g
   cases e:o[i]? with
   |none=>rw[e] at g;cases g
   |some a=>rw[e] at g;cases g;rfl
  obtain⟨u,M,Q⟩:=r.get O
  have t:m[i]?=some y:=by
   rw[<-S.pre,List.getElem?_take_of_lt (by lia)];exact h1
  have B:m.Nodup:=by rw[<-S.pre];exact S.nd.sublist (xP _ _)
  refine⟨u,Q,?_⟩;rcases S.par y (tw t) with k|k
  ·exact .inl ⟨k,AL B t M k⟩
  ·obtain⟨c,e⟩:=DV (n:=s.heap.objs.size+1) k;refine .inr ⟨.inl k,c,e,?_⟩;have q:=x.cell y c e;rw[AN B t M (by show scope.names.lookup y≠_;rw[k];decide)] at q;exact q
 ·exact j.hok.fresh (xi (x.above y c (oq h)))
 ·unfold mY;show _=N.length;rw[pO,jm,JC]
  lia
def L6{B:CXT}{P:gS}{w:gO}{K:gK}{C:jX}{base:gL}{k:Nat}{f:gm}{j qual:Str}{c:Arguments}{d:List Stmt}{scope:iq}{dV kV p pm l ct oc:gz}{an od:Option Addr}
  {s9:pW}{N G:iw}{U:Sp}(lk:K.lookup f=some ⟨oc,od,.func (PySem.W.fnOf j qual c d scope dV kV p pm an l ct),s9⟩)(m8:PySem.W.codeIn K l qual=true)(S:FnScope N G scope)
  (len: ∀g H Q E,U g H Q E->g.length=G.length)
  (l9: ∀(A:gR) (a:List Env) (s:gu) (H:Hp) (g:List V) (Q:VK) (E:XK),Room k (A.deeper (envOfC qual scope s.heap.objs.size f l))->U g H Q E->
   ∃t,PSs (nY B P w K C base N qual scope f l A a s H E) d t/\t {nx:=λ_ i=>Q .non i,rt:=Q} (mY N g) H):
  FnOk P w K C base B (k+1) f (PySem.W.fnOf j qual c d scope dV kV p pm an l ct) G U:=by
 refine⟨len,λA a s H D us g Q E L z hb r F=>?_⟩;have hl:=len _ _ _ _ F;have Y:K.In s.heap:=z.mod.kin.keeps λb o e=>(z.bs b o e).1;have M:s.heap.NoLimit:=z.mod.nolimit.keeps λb o e=>(z.bs b o e).1
 have R: ∀y∈G.zip us,scope.names.lookup y.1=some .local\/(scope.names.lookup y.1=some .cell/\((cellsFrom (s.heap.objs.size+1) scope.names []).lookup y.1).isSome=true):=λ⟨n,v⟩ hy=>by
  rcases S.par n (Bm hy).1 with q|q
  ·exact .inl q
  ·exact .inr ⟨q,Bl _ _ _ (.inl q)⟩
 refine JB L.depth (Y _ _ lk) rfl S.co S.gen rfl (PySem.W.codeRec_of Y m8) (hb _ _ _ _ ?_);refine JA S.kind R λX he s1 x=>?_;subst he;refine⟨M.keeps x.toInCall.keep,codeAny_func ?_⟩;obtain⟨t,ht,hq⟩:=l9 A a s H g Q E (L.deeper _) F;have I:Inv (nY B P w K C base N qual scope f l A a s H E) [] (mY N g) H s1:=Av S L.hd z hl r x;refine lQ (ht [] s1 (mY N g) H _ I hq) (λZ T m=>?_) λe T m=>m
 have fin: ∀{h:St} {i:Hp} {v:V} {u:gz},Inv (nY B P w K C base N qual scope f l A a s H E) [] h i T->RelV v u->Q v i->CE a P w H s Q u T:=
  λ{h i v u} J O q=>⟨v,i,J.os,J.bare,J.base,J.hok,O,q⟩
 cases Z with
 |ret u=>
  obtain⟨v,h,i,J,O,q⟩:=m;exact fin J O q
 |next=>
  obtain⟨h,i,J,q⟩:=m;exact fin (v:=V.non) (u:=Value.none) J rfl q
 |brk=>
  obtain⟨_,_,_,q⟩:=m;exact False.elim q
 |cont=>
  obtain⟨_,_,_,q⟩:=m;exact False.elim q
section
variable {X:Cx}{x:Str}{p a:Pos}{e:gw}{b:iO}{t:TA}{id T:String}{r:List V->Hp->VK->Prop}
def tCB(r:List V->Hp->VK->Prop)(t:TA):TE:=λf H Q=>t f H λd c=>r d c Q
def qf(j:ju X (.builtin id) r)(l:Gl X x)(m:X.mg x=none)(hv:bootBuiltins x=some (.builtin id))(i:PA X (e::b) t)(n:x≠"__name__":=by decide)(q:(x==("__debug__":Str))=false:=by decide)
  (k:starEach (e::b) X.env=(false,eval e X.env)::starEach b X.env:=by rfl)(o:(backTo a (starEach b X.env)).any (·.1)=false:=by rfl):PE X (.Call (.Name x p) (e::b) [] a) (tCB r t):=by
 intro c s d H Q I h;refine vQ (pk I l m hv ?_ n q);exact PyProof.Rows.callWith_builtin1 (thn (i a c s d H _ I h) λw s1 ⟨y,f,g,v,u⟩=>j c s1 d f y w Q g v u) k o
def oF(j:ju X (.type T) r)(l:Gl X x)(m:X.mg x=none)(hv:bootBuiltins x=some (.type T))(i:PA X (e::b) t)(n:x≠"__name__":=by decide)(q:(x==("__debug__":Str))=false:=by decide)
  (k:starEach (e::b) X.env=(false,eval e X.env)::starEach b X.env:=by rfl)(o:(backTo a (starEach b X.env)).any (·.1)=false:=by rfl):PE X (.Call (.Name x p) (e::b) [] a) (tCB r t):=by
 intro c s d H Q I h;refine vQ (pk I l m hv ?_ n q);exact Bp (thn (i a c s d H _ I h) λw s1 ⟨y,f,g,v,u⟩=>j c s1 d f y w Q g v u) k o
end
end L2
namespace HT
open PySem PyProof.Rows
section
open PySem.SeqAt
open PySem.AutoSeq1 (wpAny_loadPart')
open PySem.MeetsSeq PySem.MeetsSeq2 PySem.MeetsSeq3
end
section
variable {a:gS}{w:gO}{A:gR}{E:hZ}{s:gu}
def UE{t b:gm}{d c:ik}{Q:hZ}(y:IsTup s.heap t d.toArray)(x:IsTup s.heap b c.toArray)(hv:d≠[])
  (h1:c=[]->Q (.ref t) s)(v:c≠[]->Q (.ref s.heap.objs.size) {s with heap:=s.heap.push {cls:= .type "tuple",data:= .seq (d++c).toArray}})
  (l:d.length+c.length<=sizeLine):wpAny (model a w) A (binaryOp .Add (.ref t) (.ref b)) Q E s:=by
 obtain⟨⟨k,dd,f,r⟩,h,m,n,hd⟩:=id y;obtain⟨⟨z,q,data2,p⟩,j,u,o,g⟩:=id x;simp only at m hd u g;subst m hd u g;have e:d.toArray++c.toArray=(d++c).toArray:=by simp
 by_cases i:c=[]
 ·exact Bk ⟨_,h,rfl⟩ ⟨_,j,rfl⟩ EJ EI EH EG (EF _ _)
   (tuple_addW1 t b d.toArray c.toArray n o dd q r p (by simpa using hv) (by simp[i])) ⟨h,j,h1 i⟩
 ·refine Bk ⟨_,h,rfl⟩ ⟨_,j,rfl⟩ EJ EI EH EG (EF _ _)
   (tuple_addW2 t b d.toArray c.toArray n o dd q r p (by simpa using hv) (by simpa using i) (by rw[je,je];exact l)) ⟨h,j,?_⟩
  rw[e];exact v i
noncomputable def sIx(n d:Nat):Option Int->Nat
 |none=>d
 |some v=>if v<0 then(v+(n:Int)).toNat else min v.toNat n
theorem S0(n d:Nat):sIx n d none=d:=rfl
theorem TN(n d k:Nat):sIx n d (some (k:Int))=min k n:=by
 show(if(k:Int)<0 then((k:Int)+(n:Int)).toNat else min (k:Int).toNat n)=min k n;rw[hJ (by lia),xN]
def Qh(n d:Nat)(hd:d<=n)(o:Option Int):sIx n d o<=n:=by
 cases o with
 |none=>exact hd
 |some v=>
  show(if v<0 then(v+(n:Int)).toNat else min v.toNat n)<=n;by_cases hv:v<0
  ·rw[gF hv];lia
  ·rw[hJ hv];exact Nat.min_le_right _ _
def HA(v:Int)(n d:Nat):(if v<0 then max (v+(n:Int)) 0 else min v (n:Int))=((sIx n d (some v):Nat):Int):=by
 show(if v<0 then max (v+(n:Int)) 0 else min v (n:Int))=(((if v<0 then(v+(n:Int)).toNat else min v.toNat n):Nat):Int)
 by_cases hv:v<0
 ·simp only[gF hv];lia
 ·simp only[hJ hv];lia
theorem Gj(lo b:Option Int)(n:Nat):Builtin.Slice.sliceAdjust lo b 1 (n:Int)=(((sIx n 0 lo:Nat):Int),((sIx n n b:Nat):Int)):=by
 have h1: ¬((1:Int)<0):=by lia
 unfold Builtin.Slice.sliceAdjust;simp only[h1,jl];refine Prod.ext ?_ ?_
 ·cases lo with
  |none=>rfl
  |some v=>exact HA v n 0
 ·cases b with
  |none=>rfl
  |some v=>exact HA v n n
theorem Fq(i j:Nat):Builtin.Slice.slicePlaces (i:Int) (j:Int) 1=j-i:=by
 unfold Builtin.Slice.slicePlaces;have h1:(1:Int)>0:=by lia
 simp only[h1,ja,Int.ediv_one];split<;>lia
def yh{v:gz}{o:Option Int}{Q:Option Int->Shared->Prop}(p:IsPart v o)(h:Q o s):wpAny (model a w) A (Builtin.Slice.slicePartIndex v) Q E s:=by
 cases p with
 |none=>exact Bj h
 |int i t=>exact slicePart_int h
def oA{g:gm}{d e:gz}{lo b:Option Int}{n:Nat}{Q:Int×Int×Nat->Shared->Prop}(i:s.heap.IsSliceOf g d e .none)(j:IsPart d lo)(k:IsPart e b)
  (h:Q (((sIx n 0 lo:Nat):Int),1,sIx n n b-sIx n 0 lo) s):wpAny (model a w) A (Builtin.Slice.sliceApplied (.ref g) (pure (n:Int))) Q E s:=by
 obtain⟨os,f,l,c⟩:=id i;unfold Builtin.Slice.sliceApplied Builtin.Slice.sliceFields;refine gq (gq (lN f c (x:=d) rfl (gq (lN f c (x:=e) rfl (gq (lN f c (x:= .none) rfl (gE ?_)))))));refine gq (Bj ?_);show wpAny _ _ (if((1:Int)==0)=true then _ else _) _ _ s;rw[hJ (by decide)];refine gq (yh j (gq (yh k (gq (gE ?_)))));show wpAny _ _ (match Builtin.Slice.sliceAdjust lo b 1 (n:Int) with|(lo,b)=>pure (lo,(1:Int),Builtin.Slice.slicePlaces lo b 1)) _ _ s;rw[Gj lo b n];show wpAny _ _ (pure (((sIx n 0 lo:Nat):Int),(1:Int),Builtin.Slice.slicePlaces ((sIx n 0 lo:Nat):Int) ((sIx n n b:Nat):Int) 1)) _ _ s;rw[Fq];exact gE h
theorem KR(b:lA)(i k:Nat):((List.range k).filterMap λ(m:Nat)=>b[((i:Int)+(m:Int)*1).toNat]?).toArray=((b.toList.drop i).take k).toArray:=by
 have e:(λ(m:Nat)=>b[((i:Int)+(m:Int)*1).toNat]?)=λm=>b[i+m]?:=by
  funext m;have:((i:Int)+(m:Int)*1).toNat=i+m:=by lia
  rw[this]
 rw[e];have:=pick_run b i k;rw[List.filterMap_map] at this;have c:((λx=>b[x]?)∘λx=>i+x)=λm=>b[i+m]?:=rfl;rw[c] at this;rw[this]
def FU{t g:gm}{b:lA}{j k:gz}{lo c:Option Int}{Q:hZ}(d:IsTup s.heap t b)(i:s.heap.IsSliceOf g j k .none)(r:IsPart j lo)(u:IsPart k c)
  (p: ¬(sIx b.size 0 lo=0/\sIx b.size b.size c=b.size))
  (h:Q (.ref s.heap.objs.size) {s with heap:=s.heap.push {cls:= .type "tuple",data:= .seq ((b.toList.drop (sIx b.size 0 lo)).take (sIx b.size b.size c-sIx b.size 0 lo)).toArray}})
  (o:b.size<=sizeLine):wpAny (model a w) A (getItem (.ref t) (.ref g)) Q E s:=by
 have e:sizeOk (.seq ((b.toList.drop (sIx b.size 0 lo)).take (sIx b.size b.size c-sIx b.size 0 lo)).toArray):=by
  show((b.toList.drop (sIx b.size 0 lo)).take (sIx b.size b.size c-sIx b.size 0 lo)).toArray.size<=sizeLine;rw[je,tD,EE,ni]
  lia
 have y:sIx b.size b.size c<=b.size:=Qh _ _ (iY _) c;obtain⟨os,v,l,x⟩:=id i;have n:s.TypeIs (.ref g) "slice":=⟨os,v,l⟩
 unfold getItem
 try with_reducible refine lO ?_
 first|refine gq (gE ?_)|skip
 refine gq (ED d.typeIs (by decide) ?_)
 refine gq (tu (name:=Str.ofString "__getitem__") d.typeIs xj
  (pY xj d.typeIs EC ?_ (EB _ _)))
 show wpAny _ _ (Builtin.Tuple.tupleItemsOf (.ref t)>>=_) _ _ s;refine gq (EA d ?_);refine gq (tm n ?_);rw[gF (by decide)];refine gq (oA i r u ?_)
 have f: ¬((((sIx b.size 0 lo:Nat):Int)==0&&(1:Int)==1&&(sIx b.size b.size c-sIx b.size 0 lo)==b.size)=true):=by
  intro q;rw[kZ,kZ] at q;have z:((sIx b.size 0 lo:Nat):Int)=0:=tj q.1.1;have B:sIx b.size b.size c-sIx b.size 0 lo=b.size:=tj q.2;exact p ⟨by lia,by lia⟩
 show wpAny _ _ (if(((sIx b.size 0 lo:Nat):Int)==0&&(1:Int)==1&&(sIx b.size b.size c-sIx b.size 0 lo)==b.size)=true then _ else _) _ _ s;rw[hJ f,KR]
 first
  |exact gq (m:=Builtin.Tuple.tupleExact _) (lE (gE ⟨_,rfl,gE h⟩) e)
  |exact gq (m:=Builtin.Tuple.tupleExact _) (lE (gq (gE (gE ⟨_,rfl,gE h⟩))) e)
  |exact gq (gq (m:=Builtin.Tuple.tupleExact _) (lE (gE (gE ⟨_,rfl,gE h⟩)) e))
  |exact gq (gq (m:=Builtin.Tuple.tupleExact _) (lE (gE ⟨_,rfl,gE h⟩) e))
end
end HT
namespace L2
open PySem PySem.Spec PyProof.Rows
abbrev TO:=St->Hp->(Option Int->Hp->Prop)->Prop
def PO(X:Cx)(e:Option Expr)(t:TO):Prop:=
 ∀(a:hG) (s:gu) (b:St) (H:Hp) (Q:Option Int->Hp->Prop),Inv X a b H s->t b H Q->
  wpAny (model X.prog X.w) X.A (evalPart e X.env) (λu d=> ∃o c,Inv X a b c d/\IsPart u o/\Q o c) X.xe s
noncomputable def MP:TO:=λ_ H Q=>Q none H
def Tq(t:TE):TO:=λb H Q=>t b H λx a=> ∃i,x= .int i/\Q (some i) a
section
variable {X:Cx}{e:gw}{d:TE}{lo c:Option Expr}{f g:TO}{k j:Pos}
def GX:PO X none MP:=by
 intro a s b H Q I h;rw[Ez];exact gE ⟨none,H,I,.none,h⟩
def GW(h:PE X e d):PO X (some e) (Tq d):=by
 intro a s p H Q I m;rw[evalPart_some];refine thn (h a s p H _ I m) λu s1 ⟨x,b,l,o,n⟩=>?_;obtain⟨i,rfl,q⟩:=n;obtain⟨t,rfl⟩:=o;exact⟨some i,b,l,.int i t,q⟩
def SlR(X:Cx)(r:V->Option Int->Option Int->Hp->VK->Prop):Prop:=
 ∀(a:hG) (s:gu) (l:St) (H:Hp) (x:V) (v h i:gz) (lo c:Option Int) (b:gm) (Q:VK),Inv X a l H s->RelV x v->s.heap.IsSliceOf b h i .none->IsPart h lo->IsPart i c->r x lo c H Q->
  ∃T id,typeLookup (.type T) "__getitem__"=pure (some (.builtin id))/\s.TypeIs v T/\wpAny (model X.prog X.w) X.A (getItem v (.ref b)) (EP X a l Q) X.xe s
def tSl(r:V->Option Int->Option Int->Hp->VK->Prop)(d:TE)(f g:TO):TE:=λa H Q=>d a H λx b=>f a b λl h=>g a h λu i=>r x l u i Q
def Dj{r:V->Option Int->Option Int->Hp->VK->Prop}(N:SlR X r)(J:PE X e d)(M:PO X lo f)(U:PO X c g):PE X (.Subscript e (.Slice lo c none j) k) (tSl r d f g):=by
 intro a s m H Q I h;refine Subscript_ (thn (J a s m H _ I h) λv s1 ⟨x,t,z,r1,q1⟩=>?_);refine wpAny_Slice (thn (M a s1 m t _ z q1) λn s2 ⟨l,y,B,Y,q2⟩=>thn (U a s2 m y _ B q2) λo i ⟨u,p,C,pu,q3⟩=>?_);rw[Ez];refine gE ?_;have E:Inv X a m p {i with heap:=i.heap.push {cls:= .type "slice",data:= .fields #[n,o,.none]}}:=C.kept (t':=i.toks) λb D q=>iA _ q;obtain⟨T,id,G,O,L⟩:=N a {i with heap:=i.heap.push {cls:= .type "slice",data:= .fields #[n,o,.none]}} m p x v n o l u i.heap.objs.size Q E r1 (Heap.IsSliceOf.new ..) Y pu q3;show wpAny (model X.prog X.w) X.A (subscriptTail e (.Slice lo c none j) v (.ref i.heap.objs.size)) (EP X a m Q) X.xe {i with heap:=i.heap.push {cls:= .type "slice",data:= .fields #[n,o,.none]}};exact tail_any (ops:=[.ref i.heap.objs.size,v]) O G L (by with_unfolding_all rfl)
noncomputable def DS(a:List V)(lo c:Option Int):List V:=(a.drop (HT.sIx a.length 0 lo)).take (HT.sIx a.length a.length c-HT.sIx a.length 0 lo)
def wk(a:List V)(lo c:Option Int):(DS a lo c).length<=a.length:=by
 unfold DS;rw[tD,EE]
 lia
def VO(K:gK):V->Option Int->Option Int->Hp->VK->Prop:=λx lo c H Q=> ∃a b,x= .ref a/\SqT K H a b/\
 ¬(HT.sIx b.length 0 lo=0/\HT.sIx b.length b.length c=b.length)/\ ∀p,H p=none->Q (.ref p) (upd H p (.tup (DS b lo c)))
def Qd:SlR X (VO X.K):=by
 intro t s L H x v G J lo c E Q I B u z A h;obtain⟨a,l,rfl,y,w,q⟩:=h;cases B;obtain⟨m,r,n,p⟩:=I.tuple y;have i:m.toArray.size=l.length:=by rw[je];exact r.length.symm
 refine⟨"tuple",_,xj.lookup,n.typeIs,?_⟩;refine HT.FU n u z A (by rw[i];exact w) ?_ (by rw[i];exact p);rw[i];refine⟨.ref s.heap.objs.size,_,I.laid (t':=s.toks) (o:= .tup (DS l lo c)) (λb C q=>iA _ q) (iY _) ?_,rfl,q _ (I.hok.fresh (iY _))⟩;exact⟨mw (wk l lo c) p,_,(r.drop (HT.sIx l.length 0 lo)).take (HT.sIx l.length l.length c-HT.sIx l.length 0 lo),uX _ _⟩
def T3(K:gK):R2:=λx y H Q=> ∃a b i h,x= .ref a/\y= .ref b/\SqT K H a i/\SqT K H b h/\i≠[]/\i.length+h.length<=sizeLine/\
 (h=[]->Q (.ref a) H)/\(h≠[]-> ∀p,H p=none->Q (.ref p) (upd H p (.tup (i++h))))
def Vals.nil_iff{b:List V}{a:ik}(r:Vals b a):a=[]↔b=[]:=by
 cases r with
 |nil=>simp
 |cons _ _=>simp
def NO:OpR X (binaryOp .Add) (T3 X.K):=by
 intro n s T H x y v u Q I G J h;obtain⟨a,b,L,M,rfl,rfl,p,r,t,m,C,E⟩:=h;cases G;cases J;obtain⟨A,l,B,_⟩:=I.tuple p;obtain⟨N,i,j,_⟩:=I.tuple r;refine HT.UE B j (λz=>t (l.nil_iff.mp z)) (λz=>⟨.ref a,H,I,rfl,C (i.nil_iff.mp z)⟩) (λz=>?_) (by rw[<-l.length,<-i.length];exact m);refine⟨.ref s.heap.objs.size,_,I.laid (t':=s.toks) (o:= .tup (L++M)) (λb O q=>iA _ q) (iY _) ?_,rfl,E (λw=>z (i.nil_iff.mpr w)) _ (I.hok.fresh (iY _))⟩;exact⟨by rw[pO];exact m,_,l.append i,uX _ _⟩
end
noncomputable def ixN(n:Nat)(i:Int):Option Nat:=if 0<=i then(if i<n then some i.toNat else none) else if -(n:Int)<=i then some (i+n).toNat else none
noncomputable def atI{b:Type}(a:List b)(i:Int):Option b:=(ixN a.length i).bind λj=>a[j]?
def Cc{n:Nat}{i:Int}{j:Nat}(h:ixN n i=some j):seqIndex? i n=some j/\j<n/\ -(n:Int)<=i/\i<n:=by
 unfold ixN at h;by_cases a:0<=i
 ·rw[gF a] at h;by_cases h1:i<n
  ·rw[gF h1] at h;have e:i.toNat=j:=js h;exact⟨by rw[Ey a h1,e],by lia,by lia,h1⟩
  ·rw[hJ h1] at h;cases h
 ·rw[hJ a] at h;by_cases h1: -(n:Int)<=i
  ·rw[gF h1] at h;have e:(i+n).toNat=j:=js h;exact⟨by rw[Ex (by lia) h1,e],by lia,h1,by lia⟩
  ·rw[hJ h1] at h;cases h
def HF{b:Type}{a:List b}{i:Int}{v:b}(h:atI a i=some v): ∃j,seqIndex? i a.length=some j/\a[j]?=some v/\j<a.length/\ -(a.length:Int)<=i/\i<a.length:=by
 unfold atI at h
 cases e:ixN a.length i with
 |none=>rw[e] at h;cases h
 |some j=>
  rw[e] at h;obtain⟨h1,c,d,f⟩:=Cc e;exact⟨j,h1,h,c,d,f⟩
def uE(b:gw):Prop:= ∀o i,subscripted b false o i=operate [o,i] (getItem o i)
def IxR(X:Cx)(r:R2):Prop:=
 ∀(b slice:gw) (a:hG) (s:gu) (c:St) (H:Hp) (x y:V) (v u:gz) (Q:VK),Inv X a c H s->RelV x v->RelV y u->r x y H Q->
  subscripted slice false v u=operate [v,u] (getItem v u)->wpAny (model X.prog X.w) X.A (subscriptTail b slice v u) (EP X a c Q) X.xe s
def MtR(X:Cx)(id:String)(r:V->List V->Hp->VK->Prop):Prop:=
 ∀(a:hG) (s:gu) (d:St) (H:Hp) (x:V) (c:List V) (v:gz) (b:ik) (Q:VK),Inv X a d H s->RelV x v->Vals c b->r x c H Q->
  wpAny (model X.prog X.w) X.A (call (.builtin id) (v::b)) (EP X a d Q) X.xe s
section
variable {X:Cx}{a b:gw}{J G:TE}{E:Pos}
def Pe{r:R2}(i:IxR X r)(f:PE X a J)(g:PE X b G)(j:uE b):PE X (.Subscript a b E) (tOp r J G):=by
 intro c s n H Q I h;exact Subscript_ (SO f g I h λv u m x y d e k l q=>i a b c m n d x y v u Q e k l q (j _ _))
def VT(K:gK):R2:=λx y H Q=> ∃p c i v,x= .ref p/\y= .int i/\SqL K H p c/\atI c i=some v/\Q v H
def VS(K:gK):R2:=λx y H Q=> ∃p c i v,x= .ref p/\y= .int i/\SqT K H p c/\atI c i=some v/\Q v H
def N7:IxR X (VT X.K):=by
 intro g slice c s n H x y v u Q I O T h m;obtain⟨p,P,i,z,rfl,rfl,M,C,q⟩:=h;cases O;obtain⟨t,rfl⟩:=T;obtain⟨e,r,f,F⟩:=I.list M;obtain⟨j,h1,o,Y,A,B⟩:=HF C;obtain⟨w,k,N⟩:=r.get o;have L:=r.length;have D:=B7;have fin:EP X c n Q w s:=⟨z,H,I,N,q⟩
 by_cases l:0<=i
 ·have d:i.toNat=j:=by
   rw[Ey l B] at h1;exact js h1
  exact item_listR f.isList l (by lia) (by rw[d];simpa using k) fin m
 ·have d:(i+(e.toArray.size:Int)).toNat=j:=by
   rw[Ex (by lia) A] at h1;rw[je,<-L];exact js h1
  exact Jz (x:=w) f.isList.typeIs slot_list_getitem.lookup
   (wpAny_getItem_list_neg (Q:=λr U=>r=w/\EP X c n Q r U) f.isList (by lia) (by rw[je]<;>lia) (by lia) (by rw[d];simpa using k) ⟨rfl,fin⟩) m
def R6:IxR X (VS X.K):=by
 intro d slice c s f H x y v u Q I C L h o;obtain⟨p,D,i,z,rfl,rfl,n,l,q⟩:=h;cases C;obtain⟨t,rfl⟩:=L;obtain⟨A,r,e,Y⟩:=I.tuple n;obtain⟨j,h1,k,N,O,T⟩:=HF l;obtain⟨w,g,B⟩:=r.get k;have m:=r.length;have U:=B7;have fin:EP X c f Q w s:=⟨z,H,I,B,q⟩
 exact Jz (x:=w) e.typeIs slot_tuple_getitem.lookup
  (getItem_tuple (j:=j) (Q:=λr M=>r=w/\EP X c f Q r M) e (by lia) (by lia) (by rw[je,<-m];exact h1) (by simpa using g) ⟨rfl,fin⟩) o
def FG(c:ik)(n j:Nat)(u:gz):Obj.mapSeq (·.setIfInBounds j u) {cls:= .type "list",data:= .seq c.toArray n}={cls:= .type "list",data:= .seq (c.set j u).toArray n}:=by
 simp[Obj.mapSeq]
theorem Inv.lst{d:hG}{f:St}{H:Hp}{s:gu}{p:gm}{xs:List V}(I:Inv X d f H s)(h:H p=some (.lst xs)):
  ∃(c:ik) (n:Nat),Vals xs c/\s.heap.get? p=some {cls:= .type "list",data:= .seq c.toArray n}/\xs.length<=sizeLine:=by
 obtain⟨z,c,n,r,e⟩:=I.hok p _ h;exact⟨c,n,r,e,z⟩
def Inv.lstUpd{d:hG}{l:St}{H:Hp}{s:gu}{p:gm}{w j:List V}{g c:ik}{n i:Nat}{f:Obj->Obj}(I:Inv X d l H s)(h:H p=some (.lst w))
  (o:s.heap.get? p=some {cls:= .type "list",data:= .seq g.toArray n})(k:f {cls:= .type "list",data:= .seq g.toArray n}={cls:= .type "list",data:= .seq c.toArray i})(r:Vals j c)(v:j.length<=sizeLine)(t:Nat):
  Inv X d l (upd H p (.lst j)) {s with heap:=s.heap.update p f,toks:=t}:=by
 have e:(s.heap.update p f).get? p=some {cls:= .type "list",data:= .seq c.toArray i}:=by
  rw[xM f o (by rw[k]<;>rfl),k]
 refine I.write (x:=p) (e:=p) (by rw[h];trivial) (.inl rfl) (λb u m q=>(Bi _ _ (mJ m)).trans q) ⟨_,e⟩ ?_;exact⟨v,c,i,r,e⟩
def TX:V->V->V->Hp->(Hp->Prop)->Prop:=λo i v H Q=> ∃p c k j,o= .ref p/\i= .int k/\H p=some (.lst c)/\ixN c.length k=some j/\Q (upd H p (.lst (c.set j v)))
def Kf:SV X TX:=by
 intro d s M H o i v U T u Q I B A C h;obtain⟨p,L,k,j,rfl,rfl,x,y,q⟩:=h;cases B;obtain⟨t,rfl⟩:=A;obtain⟨c,n,r,f,z⟩:=I.lst x;obtain⟨h1,N,m,w⟩:=Cc y;have e:=r.length;have O:=B7
 have g:Inv X d M (upd H p (.lst (L.set j v))) {s with heap:=s.heap.update p (Obj.mapSeq (·.setIfInBounds j u))}:=
  I.lstUpd x f (FG c n j u) (r.set C j) (by rw[rG];exact z) s.toks
 by_cases l:0<=k
 ·have hk:k.toNat=j:=by
   rw[Ey l w] at h1;exact js h1
  exact PySem.W.ki_setAt f l (by lia) (by rw[je,<-e];exact w) (by rw[hk];exact⟨_,g,q⟩)
 ·have hk:(k+(c.toArray.size:Int)).toNat=j:=by
   rw[Ex (by lia) m] at h1;rw[je,<-e];exact js h1
  exact PySem.W.ki_setBack f (by lia) (by rw[je,<-e];exact m) (by lia) (by rw[hk];exact⟨_,g,q⟩)
def BG(lo c:Option Int)(n:Nat):(sliceBounds lo c none n).1=((HT.sIx n 0 lo:Nat):Int)/\(sliceBounds lo c none n).2.1=((HT.sIx n n c:Nat):Int)/\(sliceBounds lo c none n).2.2=1:=by
 refine⟨?_,?_,rfl⟩
 ·cases lo with
  |none=>simp[sliceBounds,HT.sIx]
  |some i=>
   simp only[sliceBounds,HT.sIx,Option.getD_none,show(1:Int)>0 by decide,ja];by_cases h:i<0
   ·simp only[h,ja]<;>lia
   ·simp only[h,jl]<;>lia
 ·cases c with
  |none=>simp[sliceBounds,HT.sIx]
  |some i=>
   simp only[sliceBounds,HT.sIx,Option.getD_none,show(1:Int)>0 by decide,ja];by_cases h:i<0
   ·simp only[h,ja]<;>lia
   ·simp only[h,jl]<;>lia
theorem zt(c:ik)(lo d:Option Int):slicePick c.toArray lo d none=((c.drop (HT.sIx c.length 0 lo)).take (HT.sIx c.length c.length d-HT.sIx c.length 0 lo)).toArray:=by
 obtain⟨h1,e,f⟩:=BG lo d c.toArray.size;unfold slicePick;rw[h1,e,f];simp only[sliceRange_one,pick_run,je]<;>rfl
def VP(K:gK):V->Option Int->Option Int->Hp->VK->Prop:=λx lo d H Q=> ∃a c,x= .ref a/\SqL K H a c/\ ∀p,H p=none->Q (.ref p) (upd H p (.lst (DS c lo d)))
def MQ:SlR X (VP X.K):=by
 intro g s z H x v w y lo e u Q I p i m n h;obtain⟨a,c,rfl,j,q⟩:=h;cases p;obtain⟨l,r,f,k⟩:=I.list j;have d:=r.length;refine⟨"list",_,slot_list_getitem.lookup,f.isList.typeIs,?_⟩;refine wpAny_getItem_list_slice f.isList i m n .none (by simp) ?_ (by rw[je]<;>lia);rw[zt,<-d];refine⟨.ref s.heap.objs.size,_,I.laid (t':=s.toks) (o:= .lst (DS c lo e)) (λb t q=>iA _ q) (iY _) ?_,rfl,q _ (I.hok.fresh (iY _))⟩;exact⟨mw (wk c lo e) k,_,0,(r.drop (HT.sIx c.length 0 lo)).take (HT.sIx c.length c.length e-HT.sIx c.length 0 lo),jr _ rfl⟩
noncomputable def Pq:V->Bool
 | .non=>true
 | .bl _=>true
 | .int _=>true
 | .str _=>true
 |_=>false
noncomputable def eqV:V->V->Bool
 | .non,.non=>true
 | .bl a,.bl b=>a==b
 | .bl a,.int b=>(if a then 1 else 0)==b
 | .int a,.bl b=>a==(if b then 1 else 0)
 | .int a,.int b=>a==b
 | .str a,.str b=>a==b
 |_,_=>false
def kX{A:gR}{s:gu}{y x:V}{u v:gz}(f:RelV y u)(c:RelV x v)(g:Pq y=true)(e:Pq x=true):SeqAt.EqAt A s u v (eqV y x):=by
 cases y with
 |non=>
  cases f
  cases x with
  |non=>cases c;exact SeqAt.EqAt.same _
  |bl b=>cases c;exact SeqAt.EqAt.none_bool b
  |int b=>obtain⟨t,rfl⟩:=c;exact SeqAt.EqAt.none_int b t
  |str b=>obtain⟨t,rfl⟩:=c;exact SeqAt.EqAt.none_str b t
  |_=>exact absurd (show false=true from e) jT
 |bl a=>
  cases f
  cases x with
  |non=>cases c;exact SeqAt.EqAt.bool_none a
  |bl b=>cases c;exact SeqAt.EqAt.bool_bool a b
  |int b=>obtain⟨t,rfl⟩:=c;exact SeqAt.EqAt.bool_int a b t
  |str b=>obtain⟨t,rfl⟩:=c;exact SeqAt.EqAt.bool_str a b t
  |_=>exact absurd (show false=true from e) jT
 |int a=>
  obtain⟨d,rfl⟩:=f
  cases x with
  |non=>cases c;exact SeqAt.EqAt.int_none a d
  |bl b=>cases c;exact SeqAt.EqAt.int_bool a d b
  |int b=>obtain⟨t,rfl⟩:=c;exact SeqAt.EqAt.int_int a d b t
  |str b=>obtain⟨t,rfl⟩:=c;exact SeqAt.EqAt.int_str a d b t
  |_=>exact absurd (show false=true from e) jT
 |str a=>
  obtain⟨d,rfl⟩:=f
  cases x with
  |non=>cases c;exact SeqAt.EqAt.str_none a d
  |bl b=>cases c;exact SeqAt.EqAt.str_bool a d b
  |int b=>obtain⟨t,rfl⟩:=c;exact SeqAt.EqAt.str_int a d b t
  |str b=>obtain⟨t,rfl⟩:=c;exact SeqAt.EqAt.str_str a d b t
  |_=>exact absurd (show false=true from e) jT
 |_=>exact absurd (show false=true from g) jT
def uw:ju X (.builtin "len") (λk H Q=> ∃p d,k=[.ref p]/\(SqL X.K H p d\/SqT X.K H p d)/\Q (.int d.length) H):=by
 intro j s t H k o Q I r h;obtain⟨p,d,rfl,e,q⟩:=h;obtain⟨u,rfl,m⟩:=pP r;cases m;have n:=B7;rcases e with e|e
 ·obtain⟨f,i,g,l⟩:=I.list e;have c:=i.length;exact Calls.call_len_list g.isList (by simp only[je]<;>lia) ⟨.int d.length,H,I.tok _,⟨s.toks+1,by rw[je,c]⟩,q⟩
 ·obtain⟨f,i,g,l⟩:=I.tuple e;have c:=i.length;exact len_tuple g (by simp only[je]<;>lia) ⟨.int d.length,H,I.tok _,⟨s.toks+1,by rw[je,c]⟩,q⟩
def uv:ju X (.type "list") (λB H Q=> ∃p i,B=[.ref p]/\(SqL X.K H p i\/SqT X.K H p i)/\ ∀l,H l=none->Q (.ref l) (upd H l (.lst i))):=by
 intro v s L H B M Q I r h;obtain⟨p,i,rfl,k,q⟩:=h;obtain⟨u,rfl,C⟩:=pP r;cases C
 have fin: ∀(c:ik),Vals i c->i.length<=sizeLine-> ∀(d:gL) (f:Nat),(∀b A,s.heap.get? b=some A->d.get? b=some A)->
   d.get? s.heap.objs.size=some {cls:= .type "list",dict:=none,data:= .seq c.toArray f,slots:= #[]}->EP X v L Q (.ref s.heap.objs.size) {s with heap:=d}:=λc g m d f t e=>
  ⟨.ref s.heap.objs.size,_,I.laid (t':=s.toks) t (iY _) (show ObjOk X.prog X.w _ d _ (.lst i) from⟨m,c,f,g,e⟩),rfl,q _ (I.hok.fresh (iY _))⟩
 rcases k with k|k
 ·obtain⟨c,g,z,m⟩:=I.list k;have j:=g.length;obtain⟨o,y,x,n,hd⟩:=z.isList;exact call_list_seq p (.inl rfl) y x hd (λd f t e=>fin c g m d f t e) (by simp only[je]<;>lia)
 ·obtain⟨c,g,z,m⟩:=I.tuple k;have j:=g.length;obtain⟨o,y,x,n,hd⟩:=z;exact call_list_seq p (.inr rfl) y x hd (λd f t e=>fin c g m d f t e) (by simp only[je]<;>lia)
def rX:ju X (.type "tuple") (λv H Q=> ∃p f,v=[.ref p]/\((SqL X.K H p f/\ ∀l,H l=none->Q (.ref l) (upd H l (.tup f)))\/(SqT X.K H p f/\Q (.ref p) H))):=by
 intro c s x H v B Q I r h;obtain⟨p,f,rfl,h⟩:=h;obtain⟨u,rfl,A⟩:=pP r;cases A;rcases h with⟨i,q⟩|⟨i,q⟩
 ·obtain⟨d,k,j,t⟩:=I.list i;have n:=k.length;refine call_tuple_list j.isList (λg z=>?_) (by simp only[je]<;>lia);have m:Inv X c x H {s with heap:=g}:=I.kept (t':=s.toks) z
  have y:Inv X c x (upd H g.objs.size (.tup f)) {s with heap:=g.push {cls:= .type "tuple",data:= .seq d.toArray}}:=
   m.laid (t':=s.toks) (λb o e=>iA _ e) (iY _) (show ObjOk X.prog X.w _ _ _ (.tup f) from⟨t,d,k,uX _ _⟩)
  exact⟨.ref g.objs.size,_,y,rfl,q _ (m.hok.fresh (iY _))⟩
 ·obtain⟨d,k,j,t⟩:=I.tuple i;exact call_tuple_same j ⟨.ref p,H,I,rfl,q⟩
def tyV(K:gK)(T:String)(x:V)(H:Hp):Prop:=match x with
 | .str _=>T="str"
 | .int _=>T="int"
 | .ref p=>(T="list"/\ ∃d,SqL K H p d)\/(T="tuple"/\ ∃o,K.lookup p=some o/\o.cls= .type "tuple"/\o.dict=none)\/
   (T="dict"/\((∃c,H p=some (.dK c))\/ ∃c,H p=some (.dT c)))\/(T="set"/\ ∃S n,H p=some (.set S n))
 |_=>False
def JR{d:hG}{q:St}{H:Hp}{s:gu}{T:String}{x:V}{v:gz}(I:Inv X d q H s)(r:RelV x v)(ty:tyV X.K T x H):
  s.TypeIs v T/\ ∀a,v= .ref a-> ∃h,s.heap.get? a=some h/\h.dict=none:=by
 cases x with
 |str z=>
  obtain⟨t,rfl⟩:=r;cases(show T="str" from ty);exact⟨typeIs_str s z t,λ_ e=>nomatch e⟩
 |int i=>
  obtain⟨t,rfl⟩:=r;cases(show T="int" from ty);exact⟨typeIs_int s i t,λ_ e=>nomatch e⟩
 |ref p=>
  cases r;rcases ty with⟨rfl,u,l⟩|⟨rfl,o,hk,k,hd⟩|⟨rfl,hk⟩|⟨rfl,S,n,hk⟩
  ·obtain⟨m,_,j,_⟩:=I.list l;refine⟨j.isList.typeIs,λa e=>?_⟩;cases e;obtain⟨o,n,e,c,hd,_⟩:=j;exact⟨o,e,hd⟩
  ·refine⟨⟨o,I.kIn p o hk,k⟩,λa e=>?_⟩;cases e;exact⟨o,I.kIn _ o hk,hd⟩
  ·have z: ∃o,s.heap.get? p=some o/\o.ExactDict:=by
    rcases hk with⟨g,hk⟩|⟨g,hk⟩
    ·obtain⟨_,_,_,_,o,_,_,e,ex,_⟩:=I.hok p _ hk;exact⟨o,e,ex⟩
    ·obtain⟨_,_,_,_,o,_,_,e,ex,_⟩:=I.hok p _ hk;exact⟨o,e,ex⟩
   obtain⟨o,e,ex⟩:=z;refine⟨⟨o,e,ex.1⟩,λa f=>?_⟩;cases f;exact⟨o,e,ex.2.1⟩
  ·obtain⟨o,_,_,_,e,ex,_⟩:=I.hok p _ hk;refine⟨⟨o,e,ex.1⟩,λa f=>?_⟩;cases f;exact⟨o,e,ex.2.1⟩
 |_=>exact False.elim ty
def Vi(K:gK)(T:String)(r:V->List V->Hp->VK->Prop)(B:TE):TE:=λd H Q=>B d H λx c=>tyV K T x c/\r x [] c Q
def tBM(K:gK)(T:String)(r:V->List V->Hp->VK->Prop)(B:TE)(t:TA):TE:=λd H Q=>B d H λx c=>tyV K T x c/\t d c λf e=>r x f e Q
variable {o e:gw}{C:iO}{B:TE}{t:TA}{d:Str}{g m:Pos}{T id:String}{r:V->List V->Hp->VK->Prop}
def RA(y:PlainAttrs T)(slot:Slot T d id)(l:typeOf (.builtin id)=pure (.type "method_descriptor"))(p:MtR X id r)(q:PE X o B)
  (w:attributeBase o d X.env (eval o X.env)=eval o X.env:=by rfl)(u:(g.endLine==m.line)=true:=by rfl):PE X (.Call (.Attribute o d g) [] [] m) (Vi X.K T r B):=by
 intro c s j H Q I h;refine wpAny_Call_method0_late w u (thn (q c s j H _ I h) λv s1 ⟨x,k,f,i,ty,z⟩=>?_);obtain⟨h1,n⟩:=JR f i ty;exact⟨T,id,y,slot,l,h1,n,Jy rfl (PySem.evalArgs_none (p c s1 j k x [] v [] Q f i .nil z))⟩
def Lb(U:PlainAttrs T)(slot:Slot T d id)(q:typeOf (.builtin id)=pure (.type "method_descriptor"))(z:MtR X id r)(A:PE X o B)(y:PA X (e::C) t)
  (N:attributeBase o d X.env (eval o X.env)=eval o X.env:=by rfl)
  (O:((backTo m (starEach (e::C) X.env)).all (λx=>!x.1)&&(backToKw m (keywordEach [] X.env)).all (λx=>x.1.isSome)
   &&decide ((e::C).length+([]:List Keyword).length+(if([]:List Keyword).isEmpty then 0 else 1)<30))=true:=by rfl)
  (M:(g.endLine==m.line)=true:=by rfl)(L:starEach (e::C) X.env=(false,eval e X.env)::starEach C X.env:=by rfl)(u:(backTo m (starEach C X.env)).any (·.1)=false:=by rfl):
  PE X (.Call (.Attribute o d g) (e::C) [] m) (tBM X.K T r B t):=by
 intro c s f H Q I h;refine wpAny_Call_method_late N O M rfl (thn (A c s f H _ I h) λv s1 ⟨x,l,i,k,ty,Y⟩=>?_);obtain⟨h1,w⟩:=JR i k ty;refine⟨T,id,U,slot,q,h1,w,?_⟩;have j:=y m c s1 f l _ i Y;rw[L] at j ⊢;refine Jy (by show(false||(backTo m (starEach C X.env)).any (·.1))=false;rw[u]<;>rfl) (Jx ?_);exact thn j λus s2 ⟨vs,n,p,r2,q2⟩=>z c s2 f n x vs v us Q p k r2 q2
end
def MtM(X:Cx)(id:String)(r:V->List V->Hp->VK->Prop):Prop:=
 ∀(a:hG) (s:gu) (d:St) (H:Hp) (x:V) (c:List V) (v:gz) (b:ik) (Q:VK),Inv X a d H s->RelV x v->Vals c b->r x c H Q->
  wpAny (model X.prog X.w) X.A (call (.builtin id) (v::b)) (EP X a d Q) X.xe s
theorem Vals.one: ∀{x:V} {a:ik},Vals [x] a-> ∃u,a=[u]/\RelV x u
 |_,_,.cons r .nil=>⟨_,rfl,r⟩
def Vals.zero: ∀{a:ik},Vals [] a->a=[]
 |_,.nil=>rfl
def Vals.dropLast{b:List V}{a:ik}(h:Vals b a):Vals b.dropLast a.dropLast:=by
 induction h with
 |nil=>exact .nil
 |cons r t c=>
  cases t with
  |nil=>exact .nil
  |cons q d=>exact .cons r c
theorem Vals.eraseIdx: ∀{b:List V} {a:ik} (i:Nat),Vals b a->Vals (b.eraseIdx i) (a.eraseIdx i)
 |_,_,_,.nil=> .nil
 |_,_,0,.cons _ t=>t
 |_,_,i+1,.cons r t=> .cons r (Vals.eraseIdx i t)
theorem Vals.reverse{b:List V}{a:ik}(h:Vals b a):Vals b.reverse a.reverse:=by
 induction h with
 |nil=>exact .nil
 |cons r t c=>rw[xK,xK];exact Vals.append c (.cons r .nil)
theorem Vals.rep{b:List V}{a:ik}(h:Vals b a): ∀k:Nat,Vals (List.replicate k b).flatten (List.replicate k a).flatten
 |0=> .nil
 |k+1=>by
  rw[tf,tf,uW,uW];exact Vals.append h (Vals.rep h k)
theorem FZ{d:Type}(l:List d):l.eraseIdx (l.length-1)=l.dropLast:=by
 induction l with
 |nil=>rfl
 |cons a r c=>
  cases r with
  |nil=>rfl
  |cons b r=>
   have e:(a::b::r).length-1=((b::r).length-1)+1:=by
    have h1:(a::b::r).length=r.length+2:=rfl;have f:(b::r).length=r.length+1:=rfl
    lia
   rw[e,List.eraseIdx_cons_succ,c]
   all_goals rfl
theorem Aq{a:Type}: ∀(l:List a) (i:Nat),(l.eraseIdx i).length<=l.length
 |[],_=>iY _
 |_::_,0=>xJ _
 |_::r,i+1=>Nat.succ_le_succ (Aq r i)
theorem Ax(b:ik): ∀(k:Nat) (a:ik),
  List.foldl (λx1 x2=>x1++x2) a.toArray (List.replicate k b.toArray)=(a++(List.replicate k b).flatten).toArray
 |0,a=>by simp
 |k+1,a=>by
  have e:a.toArray++b.toArray=(a++b).toArray:=by simp
  have c:(a++b)++(List.replicate k b).flatten=a++(List.replicate (k+1) b).flatten:=by
   rw[tf,uW,pN]
  rw[<-c,<-Ax b k (a++b),<-e,tf,xH]
section
variable {X:Cx}{a:hG}{c:St}{H:Hp}{s:gu}{l b:gm}{g d i:List V}
def Inv.lset{h its':ik}{n:Nat}{f:Array Value->Array Value}{r:Nat}(I:Inv X a c H s)(j:H l=some (.lst g))
  (e:s.heap.get? l=some {cls:= .type "list",data:= .seq h.toArray n})(m:f h.toArray=its'.toArray)(hv:Vals d its')(p:d.length<=sizeLine):
  Inv X a c (upd H l (.lst d)) {s with heap:=s.heap.update l (Obj.mapSeq f),toks:=r}:=by
 have q:=PySem.IsL.update e f;rw[m] at q;refine I.write (x:=l) (e:=l) (by rw[j];exact trivial) (.inl rfl) (λt u k o=>(Bi s.heap (Obj.mapSeq f) (mJ k)).trans o) ⟨_,q⟩ ?_;exact⟨p,its',_,hv,q⟩
def Inv.lnew{e:ik}{t':Nat}(I:Inv X a c H s)(hv:Vals d e)(f:d.length<=sizeLine):
  Inv X a c (upd H s.heap.objs.size (.lst d)) {s with heap:=s.heap.push {cls:= .type "list",data:= .seq e.toArray},toks:=t'}:=
 I.laid (λ_ _ q=>iA _ q) (iY _) ⟨f,e,0,hv,jr _ rfl⟩
def Inv.fresh(I:Inv X a c H s):H s.heap.objs.size=none:=I.hok.fresh (iY _)
def Inv.lstM(I:Inv X a c H s)(h:H l=some (.lst g)):g.length<=sizeLine/\ ∃(f:ik) (n:Nat),Vals g f/\g.length=f.length/\s.heap.get? l=some {cls:= .type "list",data:= .seq f.toArray n}:=by
 obtain⟨z,f,n,r,e⟩:=I.hok l _ h;exact⟨z,f,n,r,r.length,e⟩
theorem Lm{n:Nat}(h:n<=sizeLine):Builtin.List.listTooLong n=false:=by
 unfold Builtin.List.listTooLong;exact ou (by lia)
end
section
variable {X:Cx}
def M1:V->List V->Hp->VK->Prop:=λx b H Q=> ∃l a y,x= .ref l/\b=[y]/\H l=some (.lst a)/\a.length<sizeLine/\Q .non (upd H l (.lst (a++[y])))
def Im:MtM X "list.append" M1:=by
 intro c s p H x m v k Q I g f h;obtain⟨l,o,y,rfl,rfl,b,j,q⟩:=h;cases g;obtain⟨u,rfl,d⟩:=f.one;obtain⟨z,a,n,r,i,e⟩:=I.lstM b;refine vO F.slot_list_append ⟨_,e,rfl⟩ Jw (Jv _ _) (PySem.list_append l a.toArray n u (by rw[je];lia)) ⟨e,?_⟩;refine⟨.non,_,I.lset (its':=a++[u]) b e (by simp) (r.append (.cons d .nil)) ?_,rfl,q⟩;rw[pO,Ju]
 lia
def VR:V->List V->Hp->VK->Prop:=λx b H Q=> ∃l a y,x= .ref l/\b=[]/\H l=some (.lst a)/\a[a.length-1]?=some y/\Q y (upd H l (.lst a.dropLast))
def RW:MtM X "list.pop" VR:=by
 intro d s A H x t v p Q I o m h;obtain⟨l,w,y,rfl,rfl,c,j,q⟩:=h;cases o;have b:=m.zero;subst b;obtain⟨z,a,n,r,g,e⟩:=I.lstM c;obtain⟨u,i,k⟩:=r.get j
 have f:a.toArray[a.toArray.size-1]?=some u:=by
  show a.toArray[a.length-1]?=some u;rw[<-uV,<-g];exact i
 refine vO F.slot_list_pop ⟨_,e,rfl⟩ F.entry_list_pop (F.args_list_pop_1 _) (MeetsSeq.list_pop_last l a.toArray n u f (by rw[je];lia)) ⟨e,?_⟩;refine⟨y,_,I.lset (its':=a.dropLast) c e ?_ r.dropLast ?_,k,q⟩
 ·show a.toArray.eraseIdxIfInBounds (a.toArray.size-1)=a.dropLast.toArray;rw[je,Jt,FZ]
 ·rw[Ew]
  lia
def Qx:V->List V->Hp->VK->Prop:=λx b H Q=> ∃l a i k y,x= .ref l/\b=[.int i]/\H l=some (.lst a)/\ -(2^63)<=i/\i<2^63/\seqIndex? i a.length=some k/\a[k]?=some y/\Q y (upd H l (.lst (a.eraseIdx k)))
def Lq:MtM X "list.pop" Qx:=by
 intro c s G H x E v C Q I A p h;obtain⟨l,B,i,k,y,rfl,rfl,b,h1,d,hk,j,q⟩:=h;cases A;obtain⟨u,rfl,o⟩:=p.one;obtain⟨t,rfl⟩:=o;obtain⟨z,a,n,r,f,e⟩:=I.lstM b;obtain⟨w,g,m⟩:=r.get j
 refine vO F.slot_list_pop ⟨_,e,rfl⟩ F.entry_list_pop (F.args_list_pop_2 _ _)
  (MeetsSeq.list_pop_at l a.toArray n i t k w (fitsIndex_both h1 d) (by rw[je,<-f];exact hk) (by rw[<-uV];exact g) (by rw[je];lia)) ⟨e,?_⟩
 refine⟨y,_,I.lset (its':=a.eraseIdx k) b e ?_ (r.eraseIdx k) ?_,m,q⟩
 ·show a.toArray.eraseIdxIfInBounds k=(a.eraseIdx k).toArray;rw[Jt]
 ·have:=Aq B k
  lia
theorem NZ{c:Type}(a:List c)(k:Nat):(List.replicate k a).flatten.length=k*a.length:=by
 induction k with
 |zero=>simp
 |succ k b=>rw[tf,uW,pO,b,Nat.succ_mul,Nat.add_comm]
end
section
variable {a:gS}{w:gO}{A:gR}{E:hZ}{s:gu}
end
section
variable {X:Cx}
end
end L2
namespace Att
open PySem PySem.W PySem.Calls PyProof.Rows
def wD{P:Params}{h:gL}: ∀(c:gC) (d:ik),WellAll P h d (c.map WData.int)->IntsAre d c:=by
 intro c
 induction c with
 |nil=>
  intro d w;rw[oo] at w;cases w;exact .nil
 |cons n c e=>
  intro d w;rw[jw] at w
  cases w with
  |cons a b=>
   cases a;exact .cons _ _ (e _ b)
def HQ{l:OpenLaw}{n:Nat}(v:l.most=some n){P:Params}{h:gL}{b:List WData}{e:ik}
  (o:l.row.toRowW.claim.pre b=true)(s:WellAll P h e b):
  ∃a m c,e=[Value.ref a]/\b=[WData.list (c.map WData.int)]/\h.get? a=some {cls:= .type "list",data:= .seq m.toArray}/\IntsAre m c/\c.length<=n:=by
 have j:WShape.hasAll [] b [.list .int]=true:=(pre_splitW o).1;have k:l.pre.holds [] {args:=b}=true:=(pre_splitW o).2;obtain⟨d,r,rfl,h1,t⟩:=hasAllW_cons j;obtain rfl:=hasAllW_nil t;obtain⟨A,rfl,u⟩:=hasW_list h1;obtain⟨c,rfl⟩:=items_int u
 have f:c.length<=n:=by
  unfold OpenLaw.pre at k
  have g:(WTm.not (.lt (.lit (.int (n:Int))) (.len (.arg 0)))).holds [] {args:=[.list (c.map .int)]}=true:=by
   have g:=(holds_andW k).1;rw[v] at g;exact g
  have i:=condW_of g (w_not (w_lt w_lit (w_len_list (w_arg rfl))));rw[jm] at i;refine Nat.le_of_not_lt λq=>?_;have x:(n:Int)<((c.length:Nat):Int):=by lia
  first
   |(rw[xG x] at i;exact absurd i (by decide))
   |(simp at i;lia)
 cases s with
 |cons y z=>
  cases z
  cases y with
  |list w p=>exact⟨_,_,c,rfl,rfl,w,wD c _ p,f⟩
def Ib(l:OpenLaw)(a:List WData):l.row.toRowW.claim.post a (.bool true) a=true:=
 postW_of (r:=l.row.toRowW) (X:=(true==true))
  (show WShape.has [] (.bool true) .bool=true by first|rfl|decide|simp[WShape.has,WShape.arms,WShape.armsAll])
  (show(WTm.eq .res (.lit (.bool true))).value [] {args:=a,res:=some (.bool true),after:=a}=some (.bool (true==true)) from w_eq_bool (w_res rfl) w_lit) rfl
def OC{l:OpenLaw}{n:Nat}{q:gS}{c:iw}{x:(Str->Option Value)->Heap->Prop}{y:World->Heap->Prop}{d:DefRec}
  (U:l.most=some n)(H:d.params.defaults=[])
  (call: ∀(w:gO) (e b:gu) (m u:jX) (j:gm) (o:Obj) (v cd g:gz) (a:gm) (i:ik) (p:gC),
   Ground q c [] x w e m u b.heap->y w b.heap->
   b.heap.get? j=some o->o.data= .func (docDef d.name d.params d.body d.scope v cd g)->b.heap.CodeRec cd d.name->m d.name=some (.ref j)->
   b.heap.get? a=some {cls:= .type "list",data:= .seq i.toArray}->IntsAre i p->p.length<=n->b.gens= #[]->
   codeAny (model l.prog w) callerA (.call (.ref j) ⟨[.ref a],[]⟩) (λr s=>r= .ok (.ret (.bool true))/\OldK b.heap s.heap/\s.os=b.os/\AllBare s.gens) b):
  WalkO q c x y l.row.toRowW d [] (λf i=>PySem.call f i):=by
 intro w e b m u G Y j o v cd g I kV D hd P A t O z C S R B K J Q;obtain rfl:I= .none:=Dflts.none A H;obtain rfl:kV= .none:=Dflts.noKw A;obtain⟨a,i,p,rfl,rfl,E,h,k⟩:=HQ U R J;refine enter_call (tE (call w e b m u j o v cd g a i p G Y D (fd_plain hd) P t E h k O) λr s F=>?_);obtain⟨rfl,L,M,N⟩:=F;exact⟨.inl ⟨.bool true,.bool true,[],rfl,λ_=>rfl,.bool true,Ib l _,λ_=>⟨List.Pairwise.nil,λ_ T=>(nomatch T)⟩⟩,L,M,N⟩
section
variable {a:gS}{w:gO}{A:gR}{E:hZ}{s:gu}{K:Frag}
end
end Att
namespace L2
open PySem PySem.Spec PyProof.Rows
theorem zW: ∀{b:ik} {a:gC},IntsAre b a->Vals (a.map V.int) b
 |_,_,.nil=> .nil
 |_,_,.cons n t h=> .cons ⟨t,rfl⟩ (zW h)
noncomputable def pI(s:Stmt):Arguments:=match s with
 | .FunctionDef _ a _ _ _ _ _ _ _ _=>a
 |_=>{posonlyargs:=[],args:=[],vararg:=none,kwonlyargs:=[],kw_defaults:=[],kwarg:=none,defaults:=[]}
noncomputable def kg(s:Stmt):List Stmt:=match s with
 | .FunctionDef _ _ b _ _ _ _ _ _ _=>b
 |_=>[]
noncomputable def gr(s:Stmt):Scope:=match s with
 | .FunctionDef _ _ _ _ _ _ a _ _ _=>a
 |_=>{kind:= .function,names:=[],isGenerator:=false,isCoroutine:=false}
abbrev CX0:CXT:=λ_ _ _ _ _ _=>False
abbrev E0:XK:=λ_ _ _=>False
def Ua{X:Cx}:Cz CX0 X E0:=λ_ _ _ _ _ _ _ h=>h.elim
structure Fun(K:gK)(x qual:Str)(st:Stmt)(f:gm)(fd:kY):Prop where
 ex: ∃(oc:gz) (od:Option Addr) (kV doc pm:gz) (an:Option Addr) (b8 ct:gz) (s9:pW),
  fd=PySem.W.fnOf x qual (pI st) (kg st) (gr st) .none kV doc pm an b8 ct/\K.lookup f=some ⟨oc,od,.func fd,s9⟩/\PySem.W.codeIn K b8 qual=true
 kp:PySem.W.keepIn K (.ref f)=true
section
variable {P:gS}{w:gO}{K:gK}{a:jX}{base:gL}
theorem Fun.ok{x qual:Str}{st:Stmt}{f:gm}{g:kY}{N d:iw}{k:Nat}{e:Sp}(F:Fun K x qual st f g)(S:FnScope N d (gr st))(len: ∀vs H Q E,e vs H Q E->vs.length=d.length)
  (n: ∀(c:gz) (A:gR) (b:List Env) (s:gu) (H:Hp) (vs:List V) (Q:VK) (E:XK),Room k (A.deeper (envOfC qual (gr st) s.heap.objs.size f c))->e vs H Q E->
   ∃t,PSs (nY CX0 P w K a base N qual (gr st) f c A b s H E).nox (kg st) t/\t {nx:=λ_ i=>Q .non i,rt:=Q} (mY N vs) H):FnOk P w K a base CX0 (k+1) f g d e:=by
 obtain⟨r,u,kV,l,v,p,c,ct,y,rfl,lk,o⟩:=F.ex;refine L6 lk o S len λA b s H vs Q E m j=>?_;obtain⟨t,h,q⟩:=n c A b s H vs Q E m j;exact⟨t,h.nox,q⟩
def Fun.binds{x qual:Str}{st:Stmt}{f:gm}{j:kY}{g:iw}(F:Fun K x qual st f j)
  (h: ∀(kV b e:gz) (c:Option Addr) (d ct:gz) (i:ik),i.length=g.length->bindArgs (PySem.W.fnOf x qual (pI st) (kg st) (gr st) .none kV b e c d ct) ⟨i,[]⟩=pure (g.zip i)):Binds K j g []:=by
 obtain⟨l,m,kV,b,e,c,d,ct,n,rfl,lk,k⟩:=F.ex;exact .all (h kV b e c d ct)
def L4{x qual:Str}{st:Stmt}{f:gm}{h:gz}{i e:Option Addr}{j:pW}{kV b g d ct:gz}(l:K.lookup f=some ⟨h,i,.func (PySem.W.fnOf x qual (pI st) (kg st) (gr st) .none kV b g e d ct),j⟩)
  (c:PySem.W.codeIn K d qual=true)(k:PySem.W.keepIn K (.ref f)=true):Fun K x qual st f (PySem.W.fnOf x qual (pI st) (kg st) (gr st) .none kV b g e d ct):=⟨⟨h,i,kV,b,g,e,d,ct,j,rfl,l,c⟩,k⟩
end
section
variable {X:Cx}
end
def R9{A B:Prop}(h:B):if false=true then A else B:=by
 rw[hJ jT];exact h
def R8{A B:Prop}(h:A):if true=true then A else B:=by
 rw[gF rfl];exact h
theorem sL(b:Env): ∀(l:List (Str×NameKind)) (g:jy),(∀x∈l,x.2= .free-> ∃c,b.cells.lookup x.1=some c)->(∀x c,g.lookup x=some c->b.cells.lookup x=some c)->
  ∃cl,(forIn l g λx r=>if x.2==NameKind.free then do let a <-cellOf b x.1;pure (ForInStep.yield ((x.1,a)::r)) else pure (ForInStep.yield r))=(pure cl:Sem (List (Str×Addr)))/\
   (∀x c,cl.lookup x=some c->b.cells.lookup x=some c)/\(∀x,(x,NameKind.free)∈l-> ∃c,cl.lookup x=some c)/\ ∀x c,g.lookup x=some c-> ∃c,cl.lookup x=some c
 |[],g,_,m=>⟨g,rfl,m,λx h=>by simp at h,λx c h=>⟨c,h⟩⟩
 |(n,k)::l,g,h,m=>by
  by_cases hk:k= .free
  ·subst hk;obtain⟨c,e⟩:=h (n,.free) jB rfl;have q:b.cells.lookup n=some c:=e
   obtain⟨cl,h1,o,p,j⟩:=sL b l ((n,c)::g) (λx f=>h x (jA _ f)) (λx d f=>by
    rw[mG] at f
    cases i:x==n with
    |true=>rw[i] at f;have:=tj i;subst this;cases f;exact q
    |false=>rw[i] at f;exact m x d f)
   refine⟨cl,?_,o,λx f=>?_,λx d f=>?_⟩
   ·rw[List.forIn_cons];have:cellOf b n=pure c:=by unfold cellOf;rw[q]
    simp only[this,pure_bind,beq_self_eq_true,ja];exact h1
   ·rcases jM.mp f with z|z
    ·cases z;exact j n c (by simp[mG])
    ·exact p x z
   ·cases i:x==n with
    |true=>have:=tj i;subst this;exact j x c (by simp[mG])
    |false=>exact j x d (by rw[mG,i];exact f)
  ·obtain⟨cl,h1,o,p,j⟩:=sL b l g (λx f=>h x (jA _ f)) m;have i:(k==NameKind.free)=false:=by simpa using hk
   refine⟨cl,?_,o,λx f=>?_,j⟩
   ·rw[List.forIn_cons];simp only[i,jY,jl,pure_bind];exact h1
   ·rcases jM.mp f with z|z
    ·cases z;exact absurd rfl hk
    ·exact p x z
def pK(b:Env)(scope:iq)(h: ∀x∈scope.names,x.2= .free-> ∃c,b.cells.lookup x.1=some c):
  ∃cl,closureFor scope b=pure cl/\(∀x c,cl.lookup x=some c->b.cells.lookup x=some c)/\ ∀x,(x,NameKind.free)∈scope.names-> ∃c,cl.lookup x=some c:=by
 obtain⟨cl,h1,d,e,_⟩:=sL b scope.names [] h (λx c f=>by simp at f);refine⟨cl,?_,d,e⟩;unfold closureFor;have:(forIn scope.names ([]:List (Str×Addr)) λx r=>if x.2==NameKind.free then do let a <-cellOf b x.1;pure (ForInStep.yield ((x.1,a)::r)) else pure (ForInStep.yield r))=(pure cl:Sem (List (Str×Addr))):=h1
 first
  |exact(lP (· >>=λr=>pure r) this).trans (pure_bind _ _)
  |(simp only[bind_pure];exact this)
  |exact this
theorem lh: ∀(names:List (Str×NameKind)) (n:Nat) (a:jy),cellsFrom n names a=cellsFrom n names []++a
 |[],_,_=>rfl
 |(x,k)::r,n,a=>by
  unfold cellsFrom;split
  ·rw[lh r (n+1) ((x,n)::a),lh r (n+1) [(x,n)],pN];rfl
  ·exact lh r n a
theorem nZ{x:Str}{c:gm}: ∀(names:List (Str×NameKind)) (n:Nat),(x,c)∈cellsFrom n names []->(x,NameKind.cell)∈names
 |[],_,h=>by simp[cellsFrom] at h
 |(y,k)::r,n,h=>by
  unfold cellsFrom at h;split at h
  ·rename_i hk;rw[lh] at h;rcases rK.mp h with z|z
   ·exact jA _ (nZ r _ z)
   ·cases Gm.mp z;rw[tj hk];exact jB
  ·exact jA _ (nZ r _ h)
structure BCls(cells:jy)(scope:iq)(C:gm)(h:gL)(cl:jy):Prop where
 one: ∀x c,cl.lookup x=some c->(cells.lookup x=some c/\scope.names.lookup x≠some .cell)\/(C<c/\scope.names.lookup x=some .cell/\h.IsCell c none)
 all: ∀x,(x,NameKind.free)∈scope.names\/(x,NameKind.cell)∈scope.names-> ∃c,cl.lookup x=some c
 inj: ∀x y c,C<c->cl.lookup x=some c->cl.lookup y=some c->(∀z d,cells.lookup z=some d->d<C)->x=y
 ex: ∀x c,cl.lookup x=some c->cells.lookup x=some c\/C<c
def NV{M:Model}{A:gR}{E:hZ}{s:gu}{scope:iq}{globals:gm}{a:Env}{cl:jy}{qual:Str}{Q:Env->Shared->Prop}(u: ∀y∈scope.names,y.2= .cell->scope.names.lookup y.1=some .cell)
  (m: ∀x c,cl.lookup x=some c->a.cells.lookup x=some c)(H: ∀x,(x,NameKind.free)∈scope.names-> ∃c,cl.lookup x=some c)
  (B: ∀k r,k.Ns s.heap.objs.size (λ_=>none)->(∀b o,s.heap.get? b=some o->k.get? b=some o)->BCls a.cells scope s.heap.objs.size k r->
   Q {scope,locals:=s.heap.objs.size,globals,cells:=r,qual,func:=none,code:=a.code,frame:=a.frame,builtins:=a.builtins} {s with heap:=k}):
  wpAny M A (newFunctionEnv scope globals cl [] qual none .none (some a)) Q E s:=by
 simp only[newFunctionEnv,Option.isSome_some,ja];refine gq (wpAny_alloc ?_);refine gq (wpAny_layCells _ (λv j i=>by cases n:j==NameKind.cell<;>simp[n]) _ _ _ _ ?_);have ok:=cellsFrom_ok scope.names (s.heap.push {cls:= .type "dict",data:= .dict #[]}) (s.heap.objs.size+1) [] ⟨λ_ _ C=>(nomatch C),List.Pairwise.nil⟩ (by rw[rF];exact iY _);rw[rF] at ok;rw[show({s with heap:=s.heap.push {cls:= .type "dict",data:= .dict #[]}}:Shared).heap.objs.size=s.heap.objs.size+1 from rF ..];simp only[List.forIn_nil];have g: ∀x,(cellsFrom (s.heap.objs.size+1) scope.names cl).lookup x=((cellsFrom (s.heap.objs.size+1) scope.names []).lookup x).or (cl.lookup x):=λx=>by rw[lh,List.lookup_append]
 have f: ∀x c,(cellsFrom (s.heap.objs.size+1) scope.names cl).lookup x=some c->(cl.lookup x=some c/\(cellsFrom (s.heap.objs.size+1) scope.names []).lookup x=none)\/(x,c)∈cellsFrom (s.heap.objs.size+1) scope.names []:=λx c h=>by
  rw[g] at h
  cases p:(cellsFrom (s.heap.objs.size+1) scope.names []).lookup x with
  |none=>rw[p] at h;exact .inl ⟨h,rfl⟩
  |some d=>rw[p] at h;cases h;exact .inr (oq p)
 have lo: ∀{x:Str} {c:gm},(x,c)∈cellsFrom (s.heap.objs.size+1) scope.names []->s.heap.objs.size<c:=λ{x c} h=>(ok.empty x c h).2;refine gq (gE (gE (B _ _ ((Heap.Ns.new s.heap (.type "dict")).keeps (pushCells_keeps _ _)) (λb o e=>pushCells_keeps _ _ b o (iA _ e)) ⟨λx c h=>?_,λx h=>?_,λx y c l h1 w t=>?_,λx c h=>?_⟩)))
 ·rcases f x c h with⟨z,G⟩|z
  ·refine .inl ⟨m x c z,λe=>?_⟩;have:=Bl scope.names (s.heap.objs.size+1) [] (.inl e);rw[G] at this;cases this
  ·exact .inr ⟨lo z,u _ (nZ _ _ z) rfl,(ok.empty x c z).1⟩
 ·rcases h with h|h
  ·obtain⟨c,l⟩:=H x h;rw[g,l];cases(cellsFrom (s.heap.objs.size+1) scope.names []).lookup x<;>exact⟨_,rfl⟩
  ·have:=Bl scope.names (s.heap.objs.size+1) cl (.inl (u _ h rfl));exact IS.mp this
 ·rcases f x c h1 with⟨z,_⟩|z
  ·exact absurd (t x c (m x c z)) (Eu l)
  ·rcases f y c w with⟨q,_⟩|q
   ·exact absurd (t y c (m y c q)) (Eu l)
   ·exact name_of_addr ok.apart z q
 ·rcases f x c h with⟨z,_⟩|z
  ·exact .inl (m x c z)
  ·exact .inr (lo z)
noncomputable def Cx.comp(X:Cx)(d:iw)(scope:iq)(cl:jy)(C:gm)(f:gu)(c:Hp)(e:ji)(a:hG):Cx:=
 {X with N:=d,s₀:=f,H₀:=c,env:=compEnvC scope cl C X.env,outer:=X.stack,stack:=X.stack,ex:=e,fn:=λx=>scope.names.lookup x==some .cell,pn:=X.pn++a,xe:=λ_ _=>False}
abbrev TB:=St->Hp->(St->Hp->Prop)->Prop
def PB(X:Cx)(code:Sem Unit)(t:TB):Prop:=
 ∀(a:hG) (s:gu) (d:St) (H:Hp) (N:St->Hp->Prop),Inv X a d H s->t d H N->
  wpAny (model X.prog X.w) X.A code (λ_ e=> ∃b c,Inv X a b c e/\N b c) X.xe s
def PIf(X:Cx)(b:iO)(t:TT):Prop:=
 ∀(a:hG) (s:gu) (d:St) (H:Hp) (Q:Bool->Hp->Prop),Inv X a d H s->t d H Q->
  wpAny (model X.prog X.w) X.A (forIn b true λc r=>if r=true then do let ok <-isTrue c X.env (eval c X.env);pure (ForInStep.yield ok) else pure (ForInStep.yield r)) (TP X a d Q) X.xe s
noncomputable def To:TT:=λ_ H Q=>Q true H
section
variable {X:Cx}
def Ny:PIf X [] To:=λa s b H Q I h=>wpAny_tests_nil ⟨H,I,h⟩
def Nx{c:gw}{t:TT}(h:PT X c t):PIf X [c] t:=λa s d H Q I b=>wpAny_tests_one (h a s d H Q I b)
noncomputable def iR(e:gw)(depth:Nat)(acc:gz)(a:Env):Sem Unit:=
 match(clausesOf e)[depth+1]? with
 |some c=>do
  let x <-eval c.iter a
  standAt c.iter.pos
  let x <-foldedSetIterable c.iter a x
  let _ <-runOwn (.compStart e (depth+1) (<-holding [x] (pyIter x)) acc a) a
 |none=>match e with
  | .ListComp b _ _ _=>do let _ <-call (.builtin "list.append") [acc,<-eval b a]
  | .SetComp b _ _ _=>do let v <-eval b a;standAt b.pos;let _ <-call (.builtin "set.add") [acc,v]
  |_=>unsupported "no"
def JY(J:It)(g:TG)(n:TT)(l:TB):TB:=λd H N=> ∃W:Nat->Nat->St->Hp->Prop,(∃m,W 0 m d H)/\ ∀i m d H,W i m d H->
 (J.stop i H/\N d H)\/(J.go i H/\ ∀x f,J.yld i H x f->g x d f λa j=>n a j λb h=>if b=true then l a h λe k=> ∃c,c<m/\W (i+1) c e k else ∃c,c<m/\W (i+1) c a h)
theorem Cq(e:gw)(depth:Nat)(k f:gz)(b:Env)(g:pM)(q:(∃d a i p,e= .ListComp d a i p)\/(∃d a i p,e= .SetComp d a i p))
  (j:(clausesOf e)[depth]?=some g)(o:g.is_async=0)(l: ∀h,(clausesOf e)[depth+1]?=some h->h.is_async=0):
  compTurn e depth k f b=(do
   standAt g.iter.pos
   match <-pyNext k with
   |none=>pure (.done .next)
   |some v=>
    letOwnedTupleGo g.target k v
    assign g.target b v
    let ok <-forIn g.ifs true λc r=>if r=true then do let ok <-isTrue c b (eval c b);pure (ForInStep.yield ok) else pure (ForInStep.yield r)
    if ok=true then iR e depth f b
    again (.compLoop e depth k f b)):=by
 rcases q with⟨d,a,i,p,rfl⟩|⟨d,a,i,p,rfl⟩
 ·have m:a[depth]?=some g:=j;unfold compTurn iR;simp only[clausesOf] at j l ⊢;rw[m];simp only[o]
  cases n:a[depth+1]? with
  |none=>rfl
  |some h=>
   have:=l h n;simp only[this,uU,jY,jl]
   congr 1;funext _;congr 1;funext r
   cases r with
   |none=>rfl
   |some v=>
    dsimp only
    congr 1;funext _;congr 1;funext _;congr 1;funext ok
    cases ok with
    |false=>rfl
    |true=>simp only[ja,bind_assoc];rfl
 ·have m:a[depth]?=some g:=j;unfold compTurn iR;simp only[clausesOf] at j l ⊢;rw[m];simp only[o]
  cases n:a[depth+1]? with
  |none=>rfl
  |some h=>
   have:=l h n;simp only[this,uU,jY,jl]
   congr 1;funext _;congr 1;funext r
   cases r with
   |none=>rfl
   |some v=>
    dsimp only
    congr 1;funext _;congr 1;funext _;congr 1;funext ok
    cases ok with
    |false=>rfl
    |true=>simp only[ja,bind_assoc];rfl
def Ml 
  (d:(∃b a c p,e= .ListComp b a c p)\/(∃b a c p,e= .SetComp b a c p))
  (h:wpAny (model prog w) A ((compTurn e depth it acc env).onRaise (λx=>do noteFrame x env;theTreesLotGoes x)) Q E s):
  wpAny (model prog w) (A.under (.compLoop e depth it acc env)) ((model prog w).den (.compLoop e depth it acc env)) Q E s:=by
 rcases d with⟨b,a,c,p,rfl⟩|⟨b,a,c,p,rfl⟩
 ·exact h
 ·exact h
def NW{e:gw}{depth:Nat}{acc:gz}{c:pM}{g:TG}{ti:TT}{tb:TB}{J:It}{y:ji}{it:gm}{tn:Nat->Heap->Prop}(da:X.xe=λ_ _=>False)(hc:X.calm=true)
  (hl:(∃B k sc p,e= .ListComp B k sc p)\/(∃B k sc p,e= .SetComp B k sc p))(hg:(clausesOf e)[depth]?=some c)(ha:c.is_async=0)(l5: ∀g',(clausesOf e)[depth+1]?=some g'->g'.is_async=0)
  (T:Turn X.prog X.w X.K c.target J y it tn)(pg:PG X c.target g)(eG:PIf X c.ifs ti)(pb:PB X (iR e depth acc X.env) tb)
  {a:hG}{s:gu}{σ:St}{H:Hp}{N:St->Hp->Prop}(I:Inv X a σ H s)(f2: ∀b∈y,qx X a H b)(st:tn 0 s.heap)(h:JY J g ti tb σ H N):
  codeAny (model X.prog X.w) X.A (.compLoop e depth (.ref it) acc X.env) (λr s'=>r= .ok .next/\ ∃f j,Inv X a f j s'/\(∀b∈y,j b=none)/\N f j) s:=by
 obtain⟨W,⟨m0,w0⟩,M⟩:=h;have P: ∀{j:Hp},(∀b∈y,j b=none)-> ∀b∈y,qx X a j b:=λhn b v=>⟨hn b v,(f2 b v).2⟩
 have D: ∀{Z:Type} {t:Sem Z} {Q:Z->Shared->Prop} {E:hZ} {s:gu},wpAny (model X.prog X.w) X.A t Q X.xe s->wpAny (model X.prog X.w) X.A t Q E s:=λh=>lQ h (λ_ _ x=>x) λ_ _ z=>by rw[da] at z;exact z.elim
 refine codeAny_loop rfl (λn s'=> ∃i f j,Inv X a f j s'/\tn i s'.heap/\(∀b∈y,j b=none)/\W i n f j) (λn V hI=>?_) m0 ⟨0,σ,H,I,st,λb v=>(f2 b v).1,w0⟩;refine Ml hl ?_;refine wpAny_noted ?_;rw[Cq e depth (.ref it) acc X.env c hl hg ha l5];obtain⟨i,l,U,R,S,F,w3⟩:=hI;refine gq (xh ?_);rcases M i n l U w3 with⟨stop,qn⟩|⟨go,step⟩
 ·refine gq (thn (T.done X rfl rfl rfl hc i a V l U _ R (P F) S stop) λr s4 ⟨hr,I4⟩=>?_);subst hr;exact gE ⟨rfl,l,U,I4,F,qn⟩
 ·refine gq (thn (T.item X rfl rfl rfl hc i a V l U _ R (P F) S go) λr s4 ⟨u,hr,h4⟩=>?_);subst hr;refine gq (thn h4 λ_ s5 ⟨x,H5,I5,r5,y5,bL,fO⟩=>?_);have gg:=I5.pinned (P fO) (T.obj _ _ bL);refine gq (thn (D (pg _ s5 l H5 x u _ gg r5 (step x H5 y5))) λ_ s6 ⟨O,H6,I6,q6⟩=>?_);refine gq (thn (D (eG _ s6 O H6 _ I6 q6)) λok s7 ⟨H7,I7,q7⟩=>?_)
  have again: ∀{L:gu} {q:St} {C:Hp},Inv X (a++yq y s5.heap) q C L->(∃Y,Y<n/\W (i+1) Y q C)-> ∃m,m<n/\ ∃i f j,Inv X a f j L/\tn i L.heap/\(∀b∈y,j b=none)/\W i m f j:=λ{L q C} G ⟨Y,hm,w8⟩=>by
   refine⟨Y,hm,i+1,q,C,G.unpinned,T.keep _ _ _ bL λb v o e=>(G.pin (b,o) (ot _ (ot _ (pj v e)))).1,λb v=>?_,w8⟩;obtain⟨o,e,d⟩:=T.obj _ _ bL b v;exact(G.pin (b,o) (ot _ (ot _ (pj v e)))).2.1
  cases ok with
  |false=>
   rw[hJ jT] at q7;exact gE ⟨rfl,again I7 q7⟩
  |true=>
   rw[gF rfl] at q7;simp only[ja];refine gq (thn (D (pb _ s7 O H7 _ I7 q7)) λ_ L ⟨q,C,G,q8⟩=>?_);exact gE ⟨rfl,again G q8⟩
def Tu(d:gm)(e:TE):TB:=λc H N=>e c H λy b=> ∃a,b d=some (.lst a)/\a.length<sizeLine/\N c (upd b d (.lst (a++[y])))
def NF{b:gw}{a:om}{i:iq}{p:Pos}{depth:Nat}{d:gm}{j:TE}(o:a[depth+1]?=none)(m:PE X b j):PB X (iR (.ListComp b a i p) depth (.ref d) X.env) (Tu d j):=by
 intro f s k H N I h
 have l:iR (.ListComp b a i p) depth (.ref d) X.env=(do let _ <-call (.builtin "list.append") [.ref d,<-eval b X.env]):=by
  unfold iR;simp only[clausesOf];rw[o]
 rw[l];refine gq (thn (m f s k H _ I h) λu s1 ⟨y,v,g,t,A,hd,x,q⟩=>?_);obtain⟨z,c,n,r,w,e⟩:=g.lstM hd;refine gq (vO F.slot_list_append ⟨_,e,rfl⟩ Jw (Jv _ _) (PySem.list_append d c.toArray n u (by rw[je];omega)) ⟨e,?_⟩);refine gE ⟨k,_,g.lset (its':=c++[u]) hd e (by simp) (r.append (.cons t .nil)) ?_,q⟩;rw[pO,Ju];omega
def J6{b:gS}{w:gO}{A:gR}{e:gw}{depth:Nat}{i acc:gz}{d:Env}{R:Result->Shared->Prop}{s:gu}{c:pM}
  (r:(∃g a j p,e= .ListComp g a j p)\/(∃g a j p,e= .SetComp g a j p))(q:(clausesOf e)[depth]?=some c)(o:c.is_async=0)
  (m:codeAny (model b w) A (.compLoop e depth i acc d) R s)
  (k: ∀(Q:hZ) (E:hZ),Q i s->wpAny (model b w) A (pyIter i) Q E s):
  codeAny (model b w) A (.compStart e depth i acc d) R s:=by
 have h:wpAny (model b w) A (compStart e depth i acc d) (λfin l=>match fin with| .done f=>R (.ok f) l| .again n=>n.quiet=true/\codeAny (model b w) A n R l) (notedBy (model b w) A d λx l=>R (.error x) l) s:=by
  unfold compStart;rw[q];simp only[Option.elim,o,uU,jY,jl];refine gq (wpAny_askSetting (wpAny_ite ?_));split
  ·first
    |exact gq (gE (gE (And.intro rfl m)))
    |exact gE (And.intro rfl m)
  ·exact gq (rJ (gq (xh (gq (k _ _ (gE (And.intro rfl m)))))))
 rcases r with⟨g,a,j,p,rfl⟩|⟨g,a,j,p,rfl⟩
 ·refine Bh ?_;show wpAny _ A ((compStart (.ListComp g a j p) depth i acc d).onRaise (λx=>do noteFrame x d;standAt theWindowsPlace)) _ _ s;exact wpAny_notedAt h
 ·refine Bh ?_;show wpAny _ A ((compStart (.SetComp g a j p) depth i acc d).onRaise (λx=>do noteFrame x d;standAt theWindowsPlace)) _ _ s;exact wpAny_notedAt h
end
theorem mK{a:Env}: ∀{names:List (Str×NameKind)} {x:Str},names.lookup x=some .free->
  (names.map λ(n,k)=>if(k==NameKind.free&&a.scope.kind== .function&&a.kindOf n==some .cell) then(n,NameKind.cell) else(n,k)).lookup x=some .cell\/
  (names.map λ(n,k)=>if(k==NameKind.free&&a.scope.kind== .function&&a.kindOf n==some .cell) then(n,NameKind.cell) else(n,k)).lookup x=some .free
 |[],_,h=>by simp at h
 |(n,k)::r,x,h=>by
  have d:= @mK a r x;rw[jw]
  cases b:x==n with
  |true=>
   simp only[mG,b] at h;cases h;by_cases c:(NameKind.free==NameKind.free&&a.scope.kind== .function&&a.kindOf n==some .cell)=true
   ·left;simp only[c,ja,mG,b]
   ·right;simp only[c,jl,mG,b,jY]
  |false=>
   simp only[mG,b] at h;by_cases c:(k==NameKind.free&&a.scope.kind== .function&&a.kindOf n==some .cell)=true
   ·simp only[c,ja,mG,b];exact d h
   ·simp only[c,jl,mG,b,jY];exact d h
theorem jW{a:Env}: ∀{names:List (Str×NameKind)} {x:Str} {f:NameKind},
  (names.map λ(n,k)=>if(k==NameKind.free&&a.scope.kind== .function&&a.kindOf n==some .cell) then(n,NameKind.cell) else(n,k)).lookup x=some f-> ∃k,(x,k)∈names/\(k=f\/k= .free)
 |[],_,_,h=>by simp at h
 |(n,k)::r,x,f,h=>by
  rw[jw] at h
  cases c:x==n with
  |true=>
   have e:=tj c;subst e;by_cases b:(k==NameKind.free&&a.scope.kind== .function&&a.kindOf x==some .cell)=true
   ·refine⟨k,jB,.inr ?_⟩
    have h1:(k==NameKind.free)=true:=by
     cases hk:(k==NameKind.free) with
     |true=>rfl
     |false=>rw[hk] at b;simp at b
    exact tj h1
   ·simp only[b,jl,mG,c,jY] at h;exact⟨k,jB,.inl (by simpa using h)⟩
  |false=>
   by_cases b:(k==NameKind.free&&a.scope.kind== .function&&a.kindOf n==some .cell)=true
   ·simp only[b,ja,mG,c] at h;obtain⟨g,h1,d⟩:=jW h;exact⟨g,jA _ h1,d⟩
   ·simp only[b,jl,mG,c,jY] at h;obtain⟨g,h1,d⟩:=jW h;exact⟨g,jA _ h1,d⟩
structure CompScope(X:Cx)(N':iw)(scope:iq)(pre:St->St):Prop where
 cell: ∀y∈scope.names,y.2= .cell->scope.names.lookup y.1=some .cell
 kind:scope.kind= .function
 names: ∀y∈scope.names,y.2= .local->scope.names.lookup y.1=some .local
 free: ∀y∈scope.names,y.2= .free->X.env.scope.names.lookup y.1=some .cell\/X.env.scope.names.lookup y.1=some .free
 len: ∀σ:St,(pre σ).length=N'.length
 pre: ∀(σ:St) (i:Nat) (v:V) (x:Str),(pre σ)[i]?=some (some v)->N'[i]?=some x->scope.names.lookup x=some .free/\ ∃j:Nat,X.N[j]?=some x/\σ[j]?=some (some v)
section
variable {X:Cx}
def Om{J:iw}{scope:iq}{pre:St->St}(S:CompScope X J scope pre){d:hG}{f:gu}{H:St}{t:Hp}{E:ji}{cl:jy}{G:gL}{t':Nat}(I:Inv X d H t f)
  (B:BCls X.env.cells scope f.heap.objs.size G cl)
  (C: ∀b∈E,qx X d t b)(M: ∀b∈E,b<f.heap.objs.size)
  (Q:G.Ns f.heap.objs.size (λ_=>none))(hk: ∀b o,f.heap.get? b=some o->G.get? b=some o):
  Inv (X.comp J scope cl f.heap.objs.size f t E d) [] (pre H) t {f with heap:=G,toks:=t'}:=by
 have F: ∀b∈frs X.stack,t b=none:=I.stkFree;have w: ∀b,b≠X.env.locals->b∉X.fs->b∉frs X.stack:=λb h1 a z=>(jM.mp (I.stkSub b z)).elim h1 a;have A: ∀x c,X.env.cells.lookup x=some c->c<f.heap.objs.size:=λx c e=>(I.cell x c e).elim λ_ z=>z.lt
 refine⟨⟨I.ok.mod,?_,I.ok.glob,I.ok.blt,iY _,λx y c h1 a=>?_,λx h=>?_,λx c q e=>?_,I.ok.hd,I.ok.frames,.inl rfl,λb g=>?_,
  I.bs,mw I.ok.bsz I.sz,λb o e g=>?_,λb g=>w b (C b g).2.1 (C b g).2.2.1,I.stack,F⟩,rfl,I.bare,Un.kept hk,⟨_,Q,λi x v h1 a N=>?_⟩,λx c h=>?_,I.hok.fresh (iY _),λx c h=>?_,λp V=>?_,I.hok.kept hk,S.len H⟩
 ·show(relabel scope X.env).kind= .function;simp[relabel,S.kind]
 ·rcases B.ex x c h1 with z|z
  ·rcases B.ex y c a with s|s
   ·exact I.ok.inj x y c z s
   ·exact absurd (A x c z) (Eu s)
  ·exact B.inj x y c z h1 a A
 ·
  have U:(relabel scope X.env).names.lookup x=some .cell\/(relabel scope X.env).names.lookup x=some .free:=h;refine B.all x ?_;rcases U with z|z
  ·obtain⟨k,h1,a⟩:=jW z;rcases a with a|a<;>subst a
   ·exact .inr h1
   ·exact .inl h1
  ·obtain⟨k,h1,a⟩:=jW z;rcases a with a|a<;>(subst a;exact .inl h1)
 ·rcases B.one x c e with⟨_,z⟩|⟨z,_⟩
  ·exact absurd (tj q) z
  ·exact xi z
 ·refine⟨iP (M b g),λx c h=>?_⟩;rcases B.ex x c h with z|z
  ·exact(C b g).2.2.2.2.1 x c z
  ·exact mH (Et (M b g) z)
 ·
  have Z:b∈E:=g;rcases(C b Z).2.2.2.1 with z|z
  ·exact I.ok.noex b o e z
  ·exact absurd (mx (iJ e) (mw I.ok.bsz z)) (pZ _)
 ·obtain⟨q,j,P,hv⟩:=S.pre H i v x a h1;obtain⟨m,hn,R⟩:=I.loc;have O:=S.free (x,.free) (oq q) rfl;obtain⟨u,r,l⟩:=R j x v P hv (by rcases O with z|z;exact .inr (.inl z);exact .inr (.inr z));refine⟨u,r,.inr ⟨mK q,?_⟩⟩;rcases l with⟨eV,_⟩|⟨_,c,K,W⟩
  ·have T:X.env.scope.names.lookup x=some .local:=eV;rcases O with z|z<;>(have s:X.env.scope.names.lookup x=_:=z;rw[T] at s;cases s)
  ·obtain⟨Y,L⟩:=B.all x (.inl (oq q));rcases B.one x Y L with⟨this,_⟩|⟨_,z,_⟩
   ·rw[K] at this;cases this;exact⟨c,L,W.keeps hk⟩
   ·rw[q] at z;cases z
 ·rcases B.one x c h with⟨z,_⟩|⟨_,_,z⟩
  ·obtain⟨v,hv⟩:=I.cell x c z;exact⟨v,hv.keeps hk⟩
  ·exact⟨_,z⟩
 ·rcases B.ex x c h with z|z
  ·exact I.freeC x c z
  ·exact I.hok.fresh (xi z)
 ·have D:p∈X.pn++d:=by simpa[Cx.comp] using V
  obtain⟨e,n,h1,a,N⟩:=I.pin p D;exact⟨hk _ _ e,n,iP (iJ e),w _ h1 a,N⟩
def yW{r:iw}{scope:iq}{a:hG}{f g:gu}{q l:St}{i m:Hp}{j:ji}{cl:jy}{n:gL}(I:Inv X a q i f)(h: ∀b∈j,qx X a i b)
  (J:Inv (X.comp r scope cl f.heap.objs.size f i j a) [] l m g)(t:Heap.SameBut f.heap.objs.size g.heap n):Inv X a q m {g with heap:=n}:=by
 have K:=I.call' (s':=g) (ch:=j) J.os J.base J.hok J.bare λb d=>⟨(h b d).2.2.2.1,(h b d).2.1,(h b d).2.2.2.2.1,(h b d).2.2.2.2.2⟩
 have k:X.env.locals<f.heap.objs.size:=I.lt;refine K.turned (it:=f.heap.objs.size) (t':=g.toks) (λb o d e=>by rw[t.2 b d];exact e) J.free (mH k) (.inr I.sz) (λx c u z=>?_) (λp s z=>?_)
 ·obtain⟨v,o,e,_⟩:=I.cell x c u;exact absurd (iJ e) (by rw[z];exact pZ _)
 ·obtain⟨e,_⟩:=I.pin p s;exact absurd (iJ e) (by rw[z];exact pZ _)
def GB(o:HO)(J:It)(g:TG)(c:TT)(b:Addr->TB)(pre:St->St)(e:St)(H:Hp)(Q:VK):Prop:=
 ∀d,H d=none->JY J g c (b d) (pre e) (upd H d o) λ_ a=>Q (.ref d) a
def Vh(J:It)(g:TG)(b:TT)(a:Addr->TB)(pre:St->St)(c:St)(H:Hp)(Q:VK):Prop:=GB (.lst []) J g b a pre c H Q
def vG{e:gw}{o:HO}{l:Obj}{c:pM}{iu:om}{scope:iq}{u:iw}{pre:St->St}{g:TG}{ti:TT}{tb:Addr->TB}{N:jy}{J:It}{i:ji}{it:gm}{tn:Nat->Heap->Prop}
  (hl:(∃O k sc p,e= .ListComp O k sc p)\/ ∃O k sc p,e= .SetComp O k sc p)(hg:clausesOf e=c::iu)
  (S:CompScope X u scope pre)(hc:X.calm=true)(ha:c.is_async=0)(l5: ∀H,iu[0]?=some H->H.is_async=0)
  (r6: ∀(cl:jy) (C:gm) (s:gu) (t:Hp) (i:ji) (a:hG),let G:=X.comp u scope cl C s t i a
   PG G c.target g/\PIf G c.ifs ti/\ ∀d,PB G (iR e 0 (.ref d) G.env) (tb d))
  (j6: ∀x c,N.lookup x=some c->X.env.cells.lookup x=some c)(l4: ∀x,(x,NameKind.free)∈scope.names-> ∃c,N.lookup x=some c)
  {a:hG}{f:gu}{I:St}{m:Hp}{Q:VK}{E:hZ}{RR:Value->Addr->Result->Shared->Prop}(I2:Inv X a I m f)(T:Turn X.prog X.w X.K c.target J i it tn)(aM:tn 0 f.heap)(f2: ∀b∈i,qx X a m b)
  (M:Inv X a I (upd m f.heap.objs.size o) {f with heap:=f.heap.push l})
  (h:GB o J g ti tb pre I m Q)
  (hRR: ∀(d:gm) (cl:jy) (s:gu) (t L:Hp) (σ':St) (s4:gu),Inv X a I t s->(∀b∈i,qx X a t b)->Inv (X.comp u scope cl s.heap.objs.size s t i a) [] σ' L s4->Q (.ref d) L->RR (.ref d) s.heap.objs.size (.ok .next) s4):
  wpAny (model X.prog X.w) X.A (newFunctionEnv scope X.env.globals N [] X.env.qual none .none (some X.env)) (λn y=>
   codeAny (model X.prog X.w) X.A (.compStart e 0 (.ref it) (.ref f.heap.objs.size) {n with scope:=relabel scope X.env}) (RR (.ref f.heap.objs.size) n.locals) y) E {f with heap:=f.heap.push l}:=by
 have R: ∀b∈i,b<f.heap.objs.size:=λb j=>by obtain⟨o,e,_⟩:=T.obj _ _ aM b j;exact iJ e
 have U: ∀b∈i,qx X a (upd m f.heap.objs.size o) b:=λb j=>⟨by rw[gQ (iP (R b j))];exact(f2 b j).1,(f2 b j).2⟩
 refine NV S.cell j6 l4 λh1 cl aa F B=>?_;have hk: ∀b o,(f.heap.push l).get? b=some o->h1.get? b=some o:=F;have D: ∀b∈i,b<(f.heap.push l).objs.size:=λb j=>by rw[rF];exact xF (R b j)
 have J0:=Om (t':=f.toks) S M B U D aa hk;obtain⟨pg,eG,pb⟩:=r6 cl (f.heap.push l).objs.size {f with heap:=f.heap.push l} (upd m f.heap.objs.size o) i a;have v:tn 0 h1:=T.keep _ _ _ aM λb j o e=>hk b o (iA _ e);have hw:=h f.heap.objs.size (I2.hok.fresh (iY _))
 have Y: ∀b∈i,qx (X.comp u scope cl (f.heap.push l).objs.size {f with heap:=f.heap.push l} (upd m f.heap.objs.size o) i a) []
   (upd m f.heap.objs.size o) b:=λb j=>by
  obtain⟨z1,z2,z3,z4,z5,z6⟩:=U b j;refine⟨z1,iP (D b j),λz=>(jM.mp (M.stkSub b z)).elim z2 z3,.inl j,λx c hx=>(B.ex x c hx).elim (z5 x c) λz=>mH (Et (D b j) z),λp hp=>z6 p (by simpa[Cx.comp] using hp)⟩
 have V:(clausesOf e)[0]?=some c:=by rw[hg];rfl
 refine J6 hl V ha ?_ (λQ' W hq=>T.self X.A 0 _ Q' W v hq)
 refine tE (NW (X:=X.comp u scope cl (f.heap.push l).objs.size {f with heap:=f.heap.push l} (upd m f.heap.objs.size o) i a)
  (depth:=0) (acc:= .ref f.heap.objs.size) rfl hc hl V ha (λH P=>l5 H (by rw[hg] at P;exact P)) T pg eG (pb _) J0 Y v hw) λr s4 hr=>?_
 obtain⟨rfl,σ4,L,Z,_,q⟩:=hr;exact hRR _ _ _ _ _ _ _ M U Z q
noncomputable def JZ(e:TI)(g:TG)(d:TT)(c:Addr->TB)(pre:St->St):TE:=λa H Q=>e a H λJ b=>Vh J g d c pre a b Q
def K7{b:gw}{c:pM}{iu:om}{scope:iq}{e:Pos}{o:iw}{pre:St->St}{y:TI}{g:TG}{ti:TT}{tb:Addr->TB}
  (S:CompScope X o scope pre)(Y:X.calm=true)(U:c.is_async=0)(l5: ∀t,iu[0]?=some t->t.is_async=0)
  (hs: ∀x,foldedSetIterable c.iter X.env x=pure x)(pi:PI X c.target c.iter y)
  (r6: ∀(cl:jy) (C:gm) (u:gu) (k:Hp) (r:ji) (a:hG),let f:=X.comp o scope cl C u k r a
   PG f c.target g/\PIf f c.ifs ti/\ ∀d,PB f (iR (.ListComp b (c::iu) scope e) 0 (.ref d) f.env) (tb d)):
  PE X (.ListComp b (c::iu) scope e) (JZ y g ti tb pre):=by
 intro a s z H Q I h;obtain⟨tg,p,j,L⟩:=c;obtain rfl:L=0:=U;obtain⟨cl,W,R,V⟩:=pK X.env scope λx P D=>I.ok.has x.1 (S.free x P D);rw[eval_ListComp];show wpAny _ X.A (comprehension _ scope X.env _ (newList []) false (eval p X.env)) _ _ s;refine Es (use:=none) (g:=⟨tg,p,j,0⟩) (gs:=iu) rfl hs W S.kind S.names (thn (pi a s z H _ I h) λv s1 h1=>thn h1 λcW Z O=>?_);obtain⟨it,r,tn,J,H2,rfl,l,T,G,f2,K⟩:=O;refine lE (vG (RR:=λi C=>compPost (model X.prog X.w) X.A X.xe none (EP X a z Q) i C) (.inl ⟨_,_,_,_,rfl⟩) rfl S Y rfl l5 r6 R V l T G f2 (l.lnew (t':=Z.toks) .nil (by simp)) K λd M u k B σ' s4 E N n q=>?_);obtain⟨m,F,_⟩:=id n.loc;exact⟨m,F,λh' v5=>⟨.ref d,B,yW E N n v5,rfl,q⟩⟩
def KJ{f:gw}{c:pM}{iu:om}{scope:iq}{j h9 k:Pos}{N':iw}{pre:St->St}{wi:TI}{g:TG}{ti:TT}{tb:Addr->TB}{y:Str}{i:Nat}
  (bf:swapsWith (.ListComp f (c::iu) scope j) (some (.Name y k)) h9.line X.env=pure true)
  (S:CompScope X N' scope pre)(hc:X.calm=true)(ha:c.is_async=0)(l5: ∀g',iu[0]?=some g'->g'.is_async=0)
  (hs: ∀x,foldedSetIterable c.iter X.env x=pure x)(pi:PI X c.target c.iter wi)(eE:PG X (.Name y k) (DI i))
  (r6: ∀(cl:jy) (C:gm) (l:gu) (H3:Hp) (fp:ji) (a:hG),let u:=X.comp N' scope cl C l H3 fp a
   PG u c.target g/\PIf u c.ifs ti/\ ∀d,PB u (iR (.ListComp f (c::iu) scope j) 0 (.ref d) u.env) (tb d)):
  PS X (.Assign [.Name y k] (.ListComp f (c::iu) scope j) h9) (Qa (JZ wi g ti tb pre) (DI i)):=by
 intro a s E H D I h;obtain⟨W,N,t,az⟩:=c;obtain rfl:az=0:=ha;obtain⟨cl,m7,j6,l4⟩:=pK X.env scope λx Y hf=>I.ok.has x.1 (S.free x Y hf);rw[exec_Assign_Name_used _ _ _ _ bf];refine gq (xh (gq ?_));show wpAny _ X.A (do let _ <-comprehension (.ListComp f (⟨W,N,t,0⟩::iu) scope j) scope X.env _ (newList []) false (eval N X.env) (some (assign (.Name y k) X.env))) _ _ s
 refine gq (lQ (Es (use:=some (assign (.Name y k) X.env)) (g:=⟨W,N,t,0⟩) (gs:=iu) (Q:=λ_ B=>SP X a D .next B) rfl hs m7 S.kind S.names
  (thn (pi a s E H _ I h) λv s1 h1=>thn h1 λcW s2 h2=>?_)) (λ_ B hq=>gE (gE hq)) λ_ _ e=>e)
 obtain⟨it,fp,tn,J,H2,rfl,P,T,aM,f2,hw⟩:=h2;refine lE (vG (RR:=λM C=>compPost (model X.prog X.w) X.A X.xe (some (assign (.Name y k) X.env)) (λ_ B=>SP X a D .next B) M C) (.inl ⟨_,_,_,_,rfl⟩) rfl S hc rfl l5 r6 j6 l4 P T aM f2 (P.lnew (t':=s2.toks) .nil (by simp)) hw λd cl' l H3 G σ' K n ff L q=>?_);obtain⟨m,hn,_⟩:=id L.loc;obtain⟨F,es,ep,ho,hd,hr⟩:=id hn;have R:Inv X a E G K:=yW n ff L (Er ..);have r:l.heap.objs.size≠X.env.locals:=mH n.lt;have O:l.heap.objs.size∉X.fs:=λz=>n.nofs (iY _) z
 have Z:Inv X (a++[(l.heap.objs.size,F)]) E G K:=R.pins_of λp U=>by
  rcases rK.mp U with z|z
  ·exact R.pin p (ot _ z)
  ·rcases Gm.mp z with rfl
   exact⟨ho,L.free,r,O,λv z=>by rw[hd] at z;cases z⟩
 show wpAny _ X.A (assign (.Name y k) X.env (.ref d)) _ _ _;refine thn (eE _ K E G (.ref d) (.ref d) _ Z rfl q) λ_ s5 ⟨σ5,H5,I5,q5⟩=>?_;have V:=I5.pin (l.heap.objs.size,F) (by simp);refine⟨m,⟨F,es,ep,V.1,hd,hr⟩,λh' v5=>⟨σ5,H5,?_,q5⟩⟩;refine I5.unpinned.turned (it:=l.heap.objs.size) (t':=s5.toks) (λb o hb e=>by rw[v5.2 b hb];exact e) V.2.1 r (.inr n.sz) (λx c Y z=>?_) (λp U z=>?_)
 ·obtain⟨v,o,e,_⟩:=n.cell x c Y;exact absurd (iJ e) (by rw[z];exact pZ _)
 ·obtain⟨e,_⟩:=n.pin p U;exact absurd (iJ e) (by rw[z];exact pZ _)
end
section
variable {κ:Type}[DecidableEq κ]
noncomputable def pS(a:List (κ×V))(k:κ):Option V:=(a.find? λb=>decide (b.1=k)).map (·.2)
noncomputable def mS(a:List (κ×V))(k:κ)(v:V):List (κ×V):=
 if(a.any λb=>decide (b.1=k))=true then a.map (λb=>if b.1=k then(b.1,v) else b) else a++[(k,v)]
theorem qa{p:κ×V}{r:List (κ×V)}{k:κ}(e:p.1=k):pS (p::r) k=some p.2:=by simp[pS,uT,e]
theorem nr{p:κ×V}{r:List (κ×V)}{k:κ}(e: ¬p.1=k):pS (p::r) k=pS r k:=by simp[pS,uT,e]
theorem CS(k:κ): ∀a:List (κ×V),(a.any λb=>decide (b.1=k))=(pS a k).isSome
 |[]=>rfl
 |p::r=>by
  rw[uS];by_cases e:p.1=k
  ·simp only[qa e,xG e,Bool.true_or,Option.isSome_some]
  ·rw[nr e,ou e,Bool.false_or];exact CS k r
theorem qj(a:List (κ×V))(k:κ)(v:V):(mS a k v).length<=a.length+1:=by
 unfold mS;split
 ·rw[jm];omega
 ·rw[pO,kT,rE];omega
theorem RelO.isSome_eq{o:Option V}{u:Option Value}(r:RelO o u):o.isSome=u.isSome:=by
 cases o with
 |none=>cases u with
  |none=>rfl
  |some _=>exact(show False from r).elim
 |some _=>cases u with
  |none=>exact(show False from r).elim
  |some _=>rfl
theorem KV.val{kvs:List (κ×V)}{vs:List (κ×Value)}(r:KV kvs vs)(k:κ):RelO (pS kvs k) (valueAt vs k):=by
 unfold KV at r
 induction r with
 |nil=>exact True.intro
 | @cons p q g c h t f=>
  obtain⟨h1,d⟩:=h;by_cases e:p.1=k
  ·have a:q.1=k:=h1.symm.trans e;have b:valueAt (q::c) k=some q.2:=by simp[valueAt,uT,a]
   rw[qa e,b];exact d
  ·have a: ¬q.1=k:=λz=>e (h1.trans z);have b:valueAt (q::c) k=valueAt c k:=by simp[valueAt,uT,a]
   rw[nr e,b];exact f
theorem KV.any{a:List (κ×V)}{vs:List (κ×Value)}(r:KV a vs)(k:κ):(a.any λb=>decide (b.1=k))=vs.any λb=>decide (b.1=k):=by
 unfold KV at r
 induction r with
 |nil=>rfl
 |cons h t c=>rw[uS,uS,c,h.1]
theorem KV.repl{b:List (κ×V)}{c:List (κ×Value)}(r:KV b c)(k:κ){y:V}{u:gz}(g:RelV y u):
  KV (b.map λa=>if a.1=k then(a.1,y) else a) (c.map λa=>if a.1=k then(a.1,u) else a):=by
 unfold KV at r ⊢
 induction r with
 |nil=>exact .nil
 | @cons p q i j h t f=>
  rw[jw,jw];refine .cons ?_ f;obtain⟨h1,d⟩:=h;by_cases e:p.1=k
  ·rw[gF e,gF (h1.symm.trans e)];exact⟨h1,g⟩
  ·rw[hJ e,hJ (λz=>e (h1.trans z))];exact⟨h1,d⟩
theorem KV.put{a:List (κ×V)}{b:List (κ×Value)}(r:KV a b)(k:κ){y:V}{u:gz}(c:RelV y u):KV (mS a k y) (stored b k u):=by
 unfold mS stored;rw[r.any k];by_cases e:(b.any λd=>decide (d.1=k))=true
 ·rw[gF e,gF e];exact r.repl k c
 ·rw[hJ e,hJ e];exact Paired.snoc r ⟨rfl,c⟩
theorem KV.length{a:List (κ×V)}{vs:List (κ×Value)}(r:KV a vs):a.length=vs.length:=uZ r
end
def wc{P:gS}{w:gO}{k:Key}{u:gz}(r:RelV (kV k) u):(jc P w).is k u=true:=by
 cases k with
 |inl i=>obtain⟨t,e⟩:=(show ∃t,u=Value.int i t from r);subst e;exact Dt P w i t
 |inr x=>obtain⟨t,e⟩:=(show ∃t,u=Value.str x t from r);subst e;exact Ds P w x t
theorem As{P:gS}{w:gO}: ∀{a:List Key} {b:ik},Vals (a.map kV) b->ItemsAre (jc P w) a b
 |[],_,r=>by rw[oo] at r;cases r;exact .nil
 |k::a,_,r=>by
  rw[jw] at r
  cases r with
  |cons h t=>exact .cons (wc h) (As t)
abbrev KT(H:Hp):List (List Key×V)->List (List Key×Addr×Value)->Prop:=Paired λp q=>p.1=q.1/\H q.2.1=some (.tup (p.1.map kV))/\RelV p.2 q.2.2
theorem KT.val{H:Hp}{kvs:List (List Key×V)}{d:List (List Key×Addr×Value)}(r:KT H kvs d)(k:List Key):RelO (pS kvs k) ((atKey d k).map (·.2)):=by
 induction r with
 |nil=>exact True.intro
 | @cons p q i c h t g=>
  obtain⟨h1,_,f⟩:=h;by_cases e:p.1=k
  ·have a:q.1=k:=h1.symm.trans e;have b:atKey (q::c) k=some q.2:=by simp[atKey,uT,a]
   rw[qa e,b];exact f
  ·have a: ¬q.1=k:=λz=>e (h1.trans z);have b:atKey (q::c) k=atKey c k:=by simp[atKey,uT,a]
   rw[nr e,b];exact g
def KT.repl{H:Hp}{a:List (List Key×V)}{d:List (List Key×Addr×Value)}(r:KT H a d)(k:List Key){y:V}{u:gz}(i:RelV y u):
  KT H (a.map λb=>if b.1=k then(b.1,y) else b) (d.map (putAt k u)):=by
 induction r with
 |nil=>exact .nil
 | @cons p q j l h t g=>
  rw[jw,jw];refine .cons ?_ g;obtain⟨h1,c,f⟩:=h;unfold putAt;by_cases e:p.1=k
  ·rw[gF e,gF (h1.symm.trans e)];exact⟨h1,c,i⟩
  ·rw[hJ e,hJ (λz=>e (h1.trans z))];exact⟨h1,c,f⟩
def KT.put{H:Hp}{a:List (List Key×V)}{c:List (List Key×Addr×Value)}(r:KT H a c)(k:List Key){b:gm}{y:V}{u:gz}(f:H b=some (.tup (k.map kV)))(d:RelV y u):
  KT H (mS a k y) (storedH c k b u):=by
 have e:(a.any λg=>decide (g.1=k))=(atKey c k).isSome:=by
  rw[CS,(r.val k).isSome_eq,Ep]
 unfold mS storedH;rw[e];by_cases q:(atKey c k).isSome=true
 ·rw[gF q,gF q];exact r.repl k d
 ·rw[hJ q,hJ q];exact Paired.snoc r ⟨rfl,f,d⟩
def KT.keeps{H c:Hp}{a:List (List Key×V)}{d:List (List Key×Addr×Value)}(r:KT H a d)(f: ∀b e,H b=some (.tup e)->c b=some (.tup e)):KT c a d:=
 Paired.mapP r λ_ _ z=>⟨z.1,f _ _ z.2.1,z.2.2⟩
section
variable {P:gS}{w:gO}{H:Hp}{h:gL}{a:gm}
def OU{u:HO}(ok:HOk P w H h)(e:Rd H a u):ObjOk P w H h a u:=e.ok ok
def Hv{b:List (Key×V)}(ok:HOk P w H h)(e:Rd H a (.dK b)):b.length<=sizeLine/\(a==sysModules)=false/\ ∃c,KV b c/\h.DictOf (jc P w) a c:=
 show ObjOk P w H h a (.dK b) from OU ok e
def Hw{b:List (Key×V)}(ok:HOk P w H h)(e:H a=some (.dK b)):b.length<=sizeLine/\(a==sysModules)=false/\ ∃c,KV b c/\h.DictOf (jc P w) a c:=Hv ok (.inl e)
def sy{c:List Key}(ok:HOk P w H h)(e:H a=some (.tup (c.map kV))):(tupleKind (jc P w)).is h c a:=by
 obtain⟨_,b,r,o,h1,d,n,f⟩:=(show ObjOk P w H h a (.tup (c.map kV)) from ok a _ e)
 exact⟨o,b.toArray,n,h1,d,f,by simpa using As r⟩
def Ht{b:List (List Key×V)}(ok:HOk P w H h)(e:Rd H a (.dT b)):b.length<=sizeLine/\(a==sysModules)=false/\
  ∃d,KT H b d/\h.DictOfH (tupleKind (jc P w)) a d:=by
 obtain⟨z,y,d,r,o,i,g,h1,j,k,n,s⟩:=(show ObjOk P w H h a (.dT b) from OU ok e)
 refine⟨z,y,d,r,o,i,g,h1,j,k,n,λx c=>?_,s⟩
 have all: ∀{l:List (List Key×V)} {m:List (List Key×Addr×Value)},KT H l m-> ∀x∈m,(tupleKind (jc P w)).is h x.1 x.2.1:=by
  intro l m q
  induction q with
  |nil=>intro x c;exact nomatch c
  | @cons p q v A f t u=>
   intro x c;rcases jM.mp c with e|c
   ·subst e;exact sy ok (by rw[<-f.1];exact f.2.1)
   ·exact u x c
 exact all r x c
def Mj{b:List (List Key×V)}(ok:HOk P w H h)(e:H a=some (.dT b)):b.length<=sizeLine/\(a==sysModules)=false/\
  ∃c,KT H b c/\h.DictOfH (tupleKind (jc P w)) a c:=Ht ok (.inl e)
end
def DGet(H:Hp)(a:gm)(y:V)(r:Option V):Prop:=
 (∃c k,Rd H a (.dK c)/\y=kV k/\r=pS c k)\/ ∃c k b,Rd H a (.dT c)/\y= .ref b/\H b=some (.tup (k.map kV))/\r=pS c k
def DPut(H:Hp)(a:gm)(y v:V)(c:Hp):Prop:=
 (∃kvs k,H a=some (.dK kvs)/\y=kV k/\kvs.length<sizeLine/\c=upd H a (.dK (mS kvs k v)))\/
 ∃kvs k b,H a=some (.dT kvs)/\y= .ref b/\H b=some (.tup (k.map kV))/\kvs.length<sizeLine/\c=upd H a (.dT (mS kvs k v))
theorem DGet.k{H:Hp}{a:gm}{kvs:List (Key×V)}{k:Key}(e:H a=some (.dK kvs)):DGet H a (kV k) (pS kvs k):= .inl ⟨kvs,k,.inl e,rfl,rfl⟩
theorem DGet.t{H:Hp}{a b:gm}{kvs:List (List Key×V)}{k:List Key}(e:H a=some (.dT kvs))(c:H b=some (.tup (k.map kV))):DGet H a (.ref b) (pS kvs k):= .inr ⟨kvs,k,b,.inl e,rfl,c,rfl⟩
theorem DPut.k{H:Hp}{a:gm}{kvs:List (Key×V)}{k:Key}{v:V}(e:H a=some (.dK kvs))(b:kvs.length<sizeLine):DPut H a (kV k) v (upd H a (.dK (mS kvs k v))):= .inl ⟨kvs,k,e,rfl,b,rfl⟩
theorem DPut.t{H:Hp}{a b:gm}{kvs:List (List Key×V)}{k:List Key}{v:V}(e:H a=some (.dT kvs))(c:H b=some (.tup (k.map kV)))(d:kvs.length<sizeLine):
  DPut H a (.ref b) v (upd H a (.dT (mS kvs k v))):= .inr ⟨kvs,k,b,e,rfl,c,d,rfl⟩
section
variable {X:Cx}{d:hG}{f:St}{H:Hp}{s:gu}{a:gm}{y v:V}{u r:gz}{o:Option V}{A:gR}{E:hZ}
def Inv.big(I:Inv X d f H s):sysModules<s.heap.objs.size:=by
 have h:mainGlobals<s.heap.objs.size:=(I.mod.glob.keeps I.bk).lt;exact Et (by decide) h
def AB{Q:hZ}(J:A.units+1<cLine)(I:Inv X d f H s)(g:DGet H a y (some v))(x:RelV y u)(h: ∀i B,Inv X d f H B->RelV v i->Q i B):
  wpAny (model X.prog X.w) A (getItem (.ref a) u) Q E s:=by
 rcases g with⟨q,k,e,j,l⟩|⟨q,k,b,e,j,C,l⟩
 ·subst j;obtain⟨z,hd,L,c,dd⟩:=Hv I.hok e;obtain⟨i,n,t⟩:=RelO.some_of (v:=v) (o:=valueAt L k) (by rw[l];exact c.val k);exact wpAny_getItem_of (wc x) dd.mapOf n (h i _ (I.tok _) t)
 ·subst j;cases(show u=Value.ref b from x);obtain⟨z,hd,M,c,dd⟩:=Ht I.hok e;obtain⟨i,n,t⟩:=RelO.some_of (v:=v) (o:=(atKey M k).map (·.2)) (by rw[l];exact c.val k);obtain⟨p,G,m⟩:=Option.map_eq_some_iff.mp n;refine wpAny_getItem_heap (uR J) (sy I.hok C) dd G ?_;rw[m];exact h i _ (I.tok _) t
def UD{Q:hZ}(t:A.units+1<cLine)(I:Inv X d f H s)(g:DGet H a y o)(m:RelV y u)(h: ∀n,Inv X d f H n->Q (.bool o.isSome) n):
  wpAny (model X.prog X.w) A (compareOp .In u (.ref a)) Q E s:=by
 rcases g with⟨j,k,e,i,l⟩|⟨j,k,b,e,i,p,l⟩
 ·subst i;obtain⟨z,hd,x,c,dd⟩:=Hv I.hok e;refine wpAny_in_of (wc m) hd dd.mapOf ?_;rw[<-(c.val k).isSome_eq,<-l];exact h _ (I.tok _)
 ·subst i;cases(show u=Value.ref b from m);obtain⟨z,hd,B,c,dd⟩:=Ht I.hok e;refine wpAny_in_heap (uR t) (sy I.hok p) hd dd ?_;have q:=(c.val k).isSome_eq;rw[Ep] at q;rw[<-q,<-l];exact h _ (I.tok _)
def Hx{Q:hZ}(t:A.units+1<cLine)(I:Inv X d f H s)(g:DGet H a y o)(m:RelV y u)(h: ∀n,Inv X d f H n->Q (.bool (!o.isSome)) n):
  wpAny (model X.prog X.w) A (compareOp .NotIn u (.ref a)) Q E s:=by
 rcases g with⟨j,k,e,i,l⟩|⟨j,k,b,e,i,p,l⟩
 ·subst i;obtain⟨z,hd,x,c,dd⟩:=Hv I.hok e;refine wpAny_notIn_of (wc m) hd dd.mapOf ?_;rw[<-(c.val k).isSome_eq,<-l];exact h _ (I.tok _)
 ·subst i;cases(show u=Value.ref b from m);obtain⟨z,hd,B,c,dd⟩:=Ht I.hok e;refine wpAny_notIn_heap (uR t) (sy I.hok p) hd dd ?_;have q:=(c.val k).isSome_eq;rw[Ep] at q;rw[<-q,<-l];exact h _ (I.tok _)
def ur{h':gL}{t':Nat}{c:HO}(I:Inv X d f H s)(j:Mut (H a))(i:Heap.SameBut a s.heap h')(h: ∃q,h'.get? a=some q)(new:ObjOk X.prog X.w (upd H a c) h' a c):
  Inv X d f (upd H a c) {s with heap:=h',toks:=t'}:=
 I.write (x:=a) (e:=a) j (.inl rfl) (λb q g z=>(i.2 b g).trans z) h new
def Mk{P:gS}{w:gO}{g:Hp}{h':gL}{b:List (Key×V)}{e:List (Key×Value)}(z:b.length<=sizeLine)(hd:(a==sysModules)=false)(c:KV b e)(dd:h'.DictOf (jc P w) a e):
  ObjOk P w g h' a (.dK b):=⟨z,hd,e,c,dd⟩
def vF{G:Hp}{Q:Unit->Shared->Prop}(hu:A.units+1<cLine)(I:Inv X d f H s)(g:DPut H a y v G)(O:RelV y u)(N:RelV v r)(h: ∀T,Inv X d f G T->Q () T):
  wpAny (model X.prog X.w) A (setItem (.ref a) u r) Q E s:=by
 rcases g with⟨i,k,e,t,l,p⟩|⟨i,k,b,e,t,J,l,p⟩
 ·subst t p;obtain⟨z,hd,S,j,dd⟩:=Hw I.hok e;have C:S.length<=sizeLine:=by rw[<-j.length];exact z
  have x:(mS i k v).length<=sizeLine:=by have:=qj i k v;omega
  refine wpAny_setItem_pairs (hsz:=C) (wc O) dd λM m B=>h _ ?_;have R: ∃q,M.get? a=some q:=let⟨q,_,_,n,_⟩:=m;⟨q,n⟩
  exact ur I (by rw[e];exact True.intro) B R (Mk x hd (j.put k N) m)
 ·subst t p;cases(show u=Value.ref b from O);obtain⟨z,hd,V,j,dd⟩:=Mj I.hok e;have C:V.length<=sizeLine:=by rw[<-uZ j];exact z
  have x:(mS i k v).length<=sizeLine:=by have:=qj i k v;omega
  refine wpAny_setItem_heap (hsz:=C) (uR hu) (sy I.hok J) dd λM m B=>h _ ?_;obtain⟨q,Y,U,n,D,F,K,_,P⟩:=m;refine ur I (by rw[e];exact True.intro) B ⟨q,n⟩ ⟨x,hd,_,(j.put k J N).keeps λc W L=>?_,q,Y,U,n,D,F,K,P⟩;rw[gQ (Ph L e (λz=>nomatch z))];exact L
end
def DR{P:gS}{w:gO}{H:Hp}(h:gL)(a:sysModules<h.objs.size):ObjOk P w H (h.push {cls:= .type "dict",data:= .dict #[]}) h.objs.size (.dK []):=
 ⟨mF _,CF.mpr (mJ (iP a)),[],.nil,Heap.DictOf.new h⟩
noncomputable def P9:TE:=λ_ H Q=> ∀p,H p=none->Q (.ref p) (upd H p (.dK []))
section
variable {X:Cx}{b:Pos}
def K9:PE X (.Dict [] [] b) P9:=λc s d H Q I h=>
 wpAny_Dict_empty ⟨.ref s.heap.objs.size,_,I.laid (a:=s.heap.objs.size) (o:= .dK []) (t':=s.toks) (λ_ _ q=>iA _ q) (iY _) (DR s.heap I.big),rfl,h _ (I.hok.fresh (iY _))⟩
end
def E7:List (TE×TE)->St->Hp->(List (V×V)->Hp->Prop)->Prop
 |[],_,H,Q=>Q [] H
 |(e,f)::r,σ,H,Q=>e σ H λx a=>f σ a λy b=>E7 r σ b λd c=>Q ((x,y)::d) c
abbrev VV:List (V×V)->List (Value×Value)->Prop:=Paired λp q=>RelV p.1 q.1/\RelV p.2 q.2
def PPs(X:Cx)(d:Pos)(c:List (Option Expr))(a:iO)(h:List (TE×TE)):Prop:=
 ∀(b:hG) (s:gu) (e:St) (H:Hp) (Q:List (V×V)->Hp->Prop),Inv X b e H s->E7 h e H Q->
  wpAny (model X.prog X.w) X.A (evalPairs (pairTrees c a X.env d)) (λj i=> ∃g f,Inv X b e f i/\VV g j/\Q g f) X.xe s
def Nu{X:Cx}{a:Pos}:PPs X a [] [] []:=λb s c H Q I h=>pairTrees_nil_walk ⟨[],H,I,.nil,h⟩
def KN{X:Cx}{b:Pos}{k v:gw}{f:List (Option Expr)}{j:iO}{g i:TE}{e:List (TE×TE)}(hk:PE X k g)(hv:PE X v i)(r:PPs X b f j e):
  PPs X b (some k::f) (v::j) ((g,i)::e):=λa s d H Q I h=>
 pairTrees_cons_walk (thn (hk a s d H _ I h) λu s1 ⟨x,l,o,B,w⟩=>thn (hv a s1 d l _ o w) λJ E ⟨y,m,p,C,z⟩=>
  thn (r a E d m _ p z) λL G ⟨t,n,q,c,A⟩=>⟨(x,y)::t,n,q,.cons ⟨B,C⟩ c,A⟩)
noncomputable def yC(b more:List (Key×V)):List (Key×V):=more.foldl (λa c=>mS a c.1 c.2) b
def KV.merge: ∀{more:List (Key×V)} {c:List (Key×Value)} {a:List (Key×V)} {b:List (Key×Value)},KV more c->KV a b->KV (yC a more) (merged b c):=by
 intro more c a b r;unfold KV at r
 induction r generalizing a b with
 |nil=>intro q;exact q
 | @cons p q g i h t d=>
  intro f
  have e:KV (mS a p.1 p.2) (stored b q.1 q.2):=by
   have:=f.put p.1 h.2;rw[<-h.1];exact this
  exact d e
theorem rR: ∀(more a:List (Key×V)),(yC a more).length<=a.length+more.length
 |[],a=>by show a.length<=a.length+0;omega
 |p::r,a=>by
  have h1:=rR r (mS a p.1 p.2);have b:=qj a p.1 p.2;show(yC (mS a p.1 p.2) r).length<=_;rw[kT];omega
theorem yY{P:gS}{w:gO}: ∀{d:List (Key×V)} {g:List (Value×Value)},VV (d.map λf=>(kV f.1,f.2)) g-> ∃e,Carries (jc P w) g e/\KV d e
 |[],_,r=>by rw[oo] at r;cases r;exact⟨[],True.intro,.nil⟩
 |p::d,_,r=>by
  rw[jw] at r
  cases r with
  | @cons a b j bs h t=>
   obtain⟨e,c,q⟩:=yY (P:=P) (w:=w) t;obtain⟨k,i⟩:=b;exact⟨(p.1,i)::e,⟨wc h.1,rfl,c⟩,.cons ⟨rfl,h.2⟩ q⟩
def Tw(d:List (TE×TE)):TE:=λf H Q=> ∀p,H p=none->E7 d f (upd H p (.dK [])) λe b=>b p=some (.dK [])/\ ∃a:List (Key×V),e=a.map (λc=>(kV c.1,c.2))/\a.length<=15/\Q (.ref p) (upd b p (.dK (yC [] a)))
def NC{X:Cx}{i:Pos}{b:List (Option Expr)}{d:iO}{m:List (TE×TE)}(h:PPs X i b d m)(r:b.all (·.isSome)=true)(x:b.length=d.length)(u:b≠[])
  (j:b.length<=15):PE X (.Dict b d i) (Tw m):=by
 intro g s N H Q I q;have y:=I.hok.fresh (iY s.heap.objs.size);have p:=I.laid (a:=s.heap.objs.size) (o:= .dK []) (h':=s.heap.push {cls:= .type "dict",data:= .dict #[]}) (t':=s.toks) (λ_ _ q=>iA _ q) (iY _) (DR s.heap I.big);refine wpAny_Dict_walk (knd:=jc X.prog X.w) r x u j (thn (h g _ N _ _ p (q _ y)) λY U ⟨T,O,l,k,e,f,t,lk,E⟩=>?_);subst t;obtain⟨L,c,J⟩:=yY (P:=X.prog) (w:=X.w) k;obtain⟨z,hd,M,G,dd⟩:=Hw l.hok e;cases G;refine⟨L,c,dd,λh' n B=>⟨.ref s.heap.objs.size,_,?_,rfl,E⟩⟩
 have C:(yC [] f).length<=sizeLine:=by
  have h1:=rR f [];rw[rE] at h1;rw[iB];omega
 have v: ∃q,h'.get? s.heap.objs.size=some q:=let⟨q,_,_,A,_⟩:=n;⟨q,A⟩
 exact ur l (by rw[e];exact True.intro) B v (Mk C hd (J.merge .nil) n)
end L2
namespace PX
open PySem PySem.Spec PyProof.Rows L2
inductive OK where
 |dct|set|fn(i:Nat)|exc(c:Nat)
 deriving DecidableEq
inductive D where
 |non|bl(b:Bool)|int(i:Int)|str(x:Str)|tup(l:List D)|lst(l:List D)|oth(k:OK)(ks vs:List D)
mutual
/-- the hash of ints and of tuples of such -/
noncomputable def D.hash:D->Int
 | .int i=>hashInt i
 | .tup l=>reduceHash (Builtin.Tuple.tupleHashOf (D.hashL l))
 |_=>0
noncomputable def D.hashL:List D->List Int
 |[]=>[]
 |d::l=>D.hash d::D.hashL l
end
noncomputable def iV:Key->D
 | .inl i=> .int i
 | .inr x=> .str x
def Wg(K:gK)(o:Obj)(C:Nat):Prop:=o.cls= .ref C/\(∀a:Addr,PySem.W.KitX K (.ref a) (.ref C) λh=>h.get? a=some o)/\ ∀n∈["int","bool","str","tuple","list","dict"],PySem.W.kitOne K (.ref C) (.type n)=some false
def OthB(K:gK)(h:Option HO)(k:OK)(a c:List D)(b:List V):Prop:=
 match k with
 | .dct=>(∃kvs:List (Key×V),h=some (.dK kvs)/\a=kvs.map (λp=>iV p.1)/\b=kvs.map (·.2))\/
   (∃kvs:List (List Key×V),h=some (.dT kvs)/\a=kvs.map (λp=> .tup (p.1.map iV))/\b=kvs.map (·.2))
 | .set=>a=[]/\ ∃d:List (Int×V),h=some (.stt d)/\d.Perm ((D.hashL c).zip b)
 | .exc C=>(a=[]/\c=[]/\b=[])/\ ∃o,h=some (.frz o (.own 0))/\Wg K o C
 |_=>False
def OthB.ex{K h k a vs us}(x:OthB K h k a vs us): ∃o,h=some o:=by
 cases k with
 |dct=>rcases x with⟨_,e,_⟩|⟨_,e,_⟩<;>exact⟨_,e⟩
 |set=>obtain⟨_,_,e,_⟩:=x;exact⟨_,e⟩
 |exc C=>obtain⟨_,_,e,_⟩:=x;exact⟨_,e⟩
 |_=>exact x.elim
def OthB.keep{K k a b us}(x:OthB K h k a b us)(c: ∀o,h=some o->h'=some o):OthB K h' k a b us:=by
 obtain⟨o,e⟩:=x.ex;rw[c o e,<-e];exact x
abbrev AP':=Addr->Prop
def KT(K:gK)(a:gm)(c:List V):Prop:= ∃(o:Obj) (b:lA) (n:Nat),K.lookup a=some o/\o.cls= .type "tuple"/\o.data= .seq b n/\b.size<=sizeLine/\Vals c b.toList
def KL(K:gK)(a:gm)(c:List V):Prop:= ∃(o:Obj) (b:lA) (n:Nat),K.lookup a=some o/\o.cls= .type "list"/\o.dict=none/\o.data= .seq b n/\b.size<=sizeLine/\Vals c b.toList
def SqTO(K:gK)(H:Hp)(O:AP')(a:gm)(b:List V):Prop:=H a=some (.tup b)/\ ¬O a
def SqLO(K:gK)(H:Hp)(O:AP')(a:gm)(b:List V):Prop:=(Rd H a (.lst b)/\ ¬O a)\/KL K a b
theorem SqTO.sq{K H O a xs}(h:SqTO K H O a xs):SqT K H a xs:= .inl (.inl h.1)
theorem SqLO.sq{K H O a xs}(h:SqLO K H O a xs):SqL K H a xs:=h.elim (λz=> .inl z.1) .inr
def Rd.mono{a u}(h:Rd H a u)(k: ∀o,H a=some o->b a=some o):Rd b a u:=by
 rcases h with h|⟨o,h⟩
 ·exact .inl (k _ h)
 ·exact .inr ⟨o,k _ h⟩
def SqTO.mono{K H c}{a xs}(h:SqTO K H O a xs)(k: ∀b o,H b=some o-> ¬O b->c b=some o)(e: ∀b,H b≠none->d b->O b):SqTO K c d a xs:=
 ⟨k a _ h.1 h.2,λz=>h.2 (e a (by rw[h.1];simp) z)⟩
def SqLO.mono{K H c}{a xs}(h:SqLO K H O a xs)(k: ∀b o,H b=some o-> ¬O b->c b=some o)(f: ∀b,H b≠none->d b->O b):SqLO K c d a xs:=by
 rcases h with⟨r,n⟩|h
 ·refine .inl ⟨Rd.mono r λo e=>k a o e n,λz=>n (f a ?_ z)⟩;rcases r with r|⟨_,r⟩<;>(rw[r];simp)
 ·exact .inr h
mutual
/-- v is the datum,in H;nothing of it stands at an address of O -/
def Rep(K:gK)(H:Hp)(O:AP'):D->V->Prop
 | .non,v=>v= .non
 | .bl b,v=>v= .bl b
 | .int i,v=>v= .int i
 | .str x,v=>v= .str x
 | .tup l,v=> ∃a xs,v= .ref a/\SqTO K H O a xs/\RepL K H O l xs
 | .lst l,v=> ∃a xs,v= .ref a/\SqLO K H O a xs/\RepL K H O l xs
 | .oth k c vs,v=> ∃a us,v= .ref a/\(¬O a/\OthB K (H a) k c vs us)/\RepL K H O vs us
def RepL(K:gK)(H:Hp)(O:AP'):List D->List V->Prop
 |[],vs=>vs=[]
 |d::l,vs=> ∃v r,vs=v::r/\Rep K H O d v/\RepL K H O l r
end
mutual
theorem Rep.mono{K H g}{O i:AP'}(k: ∀b o,H b=some o-> ¬O b->g b=some o)(c: ∀b,H b≠none->i b->O b): ∀{d:D} {v:V},Rep K H O d v->Rep K g i d v
 | .non,_,h=>h
 | .bl _,_,h=>h
 | .int _,_,h=>h
 | .str _,_,h=>h
 | .tup l,_,h=>by
  rw[Rep] at h ⊢;obtain⟨a,f,e,s,r⟩:=h;exact⟨a,f,e,s.mono k c,RepL.mono k c r⟩
 | .lst l,_,h=>by
  rw[Rep] at h ⊢;obtain⟨a,f,e,s,r⟩:=h;exact⟨a,f,e,s.mono k c,RepL.mono k c r⟩
 | .oth j m vs,_,h=>by
  rw[Rep] at h ⊢;obtain⟨a,us,e,s,r⟩:=h;exact⟨a,us,e,⟨λz=>s.1 (c a (by obtain⟨o,q⟩:=s.2.ex;rw[q];simp) z),s.2.keep λo q=>k a o q s.1⟩,RepL.mono k c r⟩
theorem RepL.mono{K H a}{O c:AP'}(k: ∀b o,H b=some o-> ¬O b->a b=some o)(f: ∀b,H b≠none->c b->O b): ∀{l:List D} {vs:List V},RepL K H O l vs->RepL K a c l vs
 |[],_,h=>h
 |d::l,_,h=>by
  rw[RepL] at h ⊢;obtain⟨v,r,e,h1,g⟩:=h;exact⟨v,r,e,Rep.mono k f h1,RepL.mono k f g⟩
end
def Rep.mkInt{K H O i}:Rep K H O (.int i) (.int i):=by rw[Rep]
def Rep.mkBl{K H O i}:Rep K H O (.bl i) (.bl i):=by rw[Rep]
def Rep.mkNon{K H O}:Rep K H O .non .non:=by rw[Rep]
def Rep.mkStr{K H O i}:Rep K H O (.str i) (.str i):=by rw[Rep]
theorem Rep.int{K H O i v}(h:Rep K H O (.int i) v):v= .int i:=by rwa [Rep] at h
theorem Rep.bl{K H O i v}(h:Rep K H O (.bl i) v):v= .bl i:=by rwa [Rep] at h
def Rep.non{K H O v}(h:Rep K H O .non v):v= .non:=by rwa [Rep] at h
theorem Rep.str{K H O i v}(h:Rep K H O (.str i) v):v= .str i:=by rwa [Rep] at h
theorem Rep.tup{K H O l v}(h:Rep K H O (.tup l) v): ∃a b,v= .ref a/\SqTO K H O a b/\RepL K H O l b:=by rwa [Rep] at h
theorem Rep.lst{K H O l v}(h:Rep K H O (.lst l) v): ∃a xs,v= .ref a/\SqLO K H O a xs/\RepL K H O l xs:=by rwa [Rep] at h
def Rep.oth{K H O k ks vs v}(h:Rep K H O (.oth k ks vs) v): ∃a us,v= .ref a/\(¬O a/\OthB K (H a) k ks vs us)/\RepL K H O vs us:=by rwa [Rep] at h
def Rep.mkOth{K H O k b vs a us}(n: ¬O a)(h:OthB K (H a) k b vs us)(r:RepL K H O vs us):Rep K H O (.oth k b vs) (.ref a):=by rw[Rep];exact⟨a,us,rfl,⟨n,h⟩,r⟩
def Rep.mkTup{K H O l a xs}(h:SqTO K H O a xs)(r:RepL K H O l xs):Rep K H O (.tup l) (.ref a):=by rw[Rep];exact⟨a,xs,rfl,h,r⟩
def Rep.mkLst{K H O l a xs}(h:SqLO K H O a xs)(r:RepL K H O l xs):Rep K H O (.lst l) (.ref a):=by rw[Rep];exact⟨a,xs,rfl,h,r⟩
theorem RepL.length{K H O}: ∀{l:List D} {vs:List V},RepL K H O l vs->vs.length=l.length
 |[],vs,h=>by rw[RepL] at h;rw[h];rfl
 |d::l,vs,h=>by
  rw[RepL] at h;obtain⟨v,r,rfl,_,a⟩:=h;simp[RepL.length a]
theorem RepL.get{K H O}: ∀{l:List D} {a:List V} {i:Nat} {d:D},RepL K H O l a->l[i]?=some d-> ∃v,a[i]?=some v/\Rep K H O d v
 |[],_,_,_,_,e=>by simp at e
 |d::l,a,0,b,h,e=>by
  rw[RepL] at h;obtain⟨v,r,rfl,h1,_⟩:=h;simp at e;subst e;exact⟨v,rfl,h1⟩
 |d::l,a,i+1,b,h,e=>by
  rw[RepL] at h;obtain⟨v,r,rfl,_,c⟩:=h;obtain⟨w,f,g⟩:=RepL.get (i:=i) c (by simpa using e);exact⟨w,by simpa using f,g⟩
theorem RepL.append{K H O}: ∀{l m:List D} {a c:List V},RepL K H O l a->RepL K H O m c->RepL K H O (l++m) (a++c)
 |[],_,a,_,h,b=>by rw[RepL] at h;subst h;exact b
 |d::l,_,a,_,h,b=>by
  rw[RepL] at h;obtain⟨v,r,rfl,h1,e⟩:=h;show RepL K H O (d::(l++_)) _;rw[RepL];exact⟨v,_,rfl,h1,RepL.append e b⟩
theorem RepL.one{K H O}{d:D}{v:V}(h:Rep K H O d v):RepL K H O [d] [v]:=by
 rw[RepL];exact⟨v,[],rfl,h,by rw[RepL]⟩
theorem RepL.nil{K H O}:RepL K H O [] []:=by rw[RepL]
theorem RepL.cons{K H O}{l vs}(h:Rep K H O d v)(h':RepL K H O l vs):RepL K H O (d::l) (v::vs):=by
 rw[RepL];exact⟨v,vs,rfl,h,h'⟩
theorem RepL.take{K H O}: ∀{l:List D} {a:List V} (n:Nat),RepL K H O l a->RepL K H O (l.take n) (a.take n)
 |_,_,0,_=>by simp[RepL]
 |[],a,n+1,h=>by rw[RepL] at h;subst h;simp[RepL]
 |d::l,a,n+1,h=>by
  rw[RepL] at h;obtain⟨v,r,rfl,h1,b⟩:=h;exact RepL.cons h1 (RepL.take n b)
theorem RepL.drop{K H O}: ∀{l:List D} {a:List V} (n:Nat),RepL K H O l a->RepL K H O (l.drop n) (a.drop n)
 |_,_,0,h=>h
 |[],a,n+1,h=>by rw[RepL] at h;subst h;simp[RepL]
 |d::l,a,n+1,h=>by
  rw[RepL] at h;obtain⟨v,r,rfl,h1,b⟩:=h;exact RepL.drop n b
theorem RepL.set{K H O}{d:D}{v:V}(hv:Rep K H O d v): ∀{l:List D} {vs:List V} (i:Nat),RepL K H O l vs->RepL K H O (l.set i d) (vs.set i v)
 |[],vs,i,h=>by rw[RepL] at h;subst h;simp[RepL]
 |e::l,vs,0,h=>by
  rw[RepL] at h;obtain⟨w,r,rfl,h1,a⟩:=h;exact RepL.cons hv a
 |e::l,vs,i+1,h=>by
  rw[RepL] at h;obtain⟨w,r,rfl,h1,a⟩:=h;exact RepL.cons h1 (RepL.set hv i a)
abbrev Sl:=Option (D×Bool)
abbrev Dn:=List Sl
def OwnA(b:L2.St)(δ:Dn)(a:gm):Prop:= ∃(i:Nat) (d:D),δ[i]?=some (some (d,true))/\b[i]?=some (some (V.ref a))
def OwnOk(K:gK)(H:Hp)(O:AP'):D->Addr->Prop
 | .lst l,a=> ∃d,H a=some (.lst d)/\RepL K H O l d
 | .oth k e c,a=> ∃b,OthB K (H a) k e c b/\RepL K H O c b
 |_,_=>False
def OwnOk.mono{K H c}(h:OwnOk K H O d a)(k: ∀b o,H b=some o-> ¬O b->c b=some o)(f: ∀b,H b≠none->i b->O b)(g: ∀o,H a=some o->c a=some o):OwnOk K c i d a:=by
 cases d with
 |lst l=>obtain⟨j,e,r⟩:=h;exact⟨j,g _ e,RepL.mono k f r⟩
 |oth m n vs=>obtain⟨us,e,r⟩:=h;exact⟨us,e.keep g,RepL.mono k f r⟩
 |_=>exact h
def OwnOk.rep{K H}(h:OwnOk K H O d a)(g: ¬c a)(f: ∀b,H b≠none->c b->O b):Rep K H c d (.ref a):=by
 cases d with
 |lst l=>
  obtain⟨i,e,r⟩:=h;rw[Rep];exact⟨a,i,rfl,.inl ⟨.inl e,g⟩,RepL.mono (λb o e _=>e) f r⟩
 |oth j k n=>
  obtain⟨m,e,r⟩:=h;exact Rep.mkOth g e (RepL.mono (λb o e _=>e) f r)
 |_=>exact h.elim
def Ow:Option HO->Prop
 |none=>False
 |some (.tup _)=>False
 |_=>True
theorem Ow.ne{o:Option HO}(h:Ow o):o≠none:=λe=>by rw[e] at h;exact h
theorem Ow.up{o a:Option HO}(h:Ow o)(k: ∀x,o=some x->a=some x):Ow a:=by
 cases o with
 |none=>exact h.elim
 |some x=>rw[k x rfl];exact h
def nOw{o:Option HO}(h:o=none): ¬Ow o:=λz=>z.ne h
def Ow.nt{o:Option HO}(h:Ow o)(a:List V):o≠some (.tup a):=λe=>by rw[e] at h;exact h
def OwnOk.ow{K H}{O:AP'}{d:D}{a:gm}(h:OwnOk K H O d a):Ow (H a):=by
 cases d with
 |lst l=>obtain⟨g,e,_⟩:=h;rw[e];trivial
 |oth k b f=>
  obtain⟨c,e,_⟩:=h
  cases k with
  |dct=>rcases e with⟨_,e,_⟩|⟨_,e,_⟩<;>(rw[e];trivial)
  |set=>obtain⟨_,_,e,_⟩:=e;rw[e];trivial
  |exc C=>obtain⟨_,_,e,_⟩:=e;rw[e];trivial
  |_=>exact e.elim
 |_=>exact h.elim
structure ER(K:gK)(H:Hp)(T:AP')(σ:L2.St)(δ:Dn):Prop where
 len:σ.length=δ.length
 val: ∀(i:Nat) (d:D),δ[i]?=some (some (d,false))-> ∃v,σ[i]?=some (some v)/\Rep K H (λa=>OwnA σ δ a\/T a) d v
 own: ∀(i:Nat) (d:D),δ[i]?=some (some (d,true))-> ∃a,σ[i]?=some (some (V.ref a))/\OwnOk K H (λa=>OwnA σ δ a\/T a) d a
 inj: ∀(i j:Nat) (d e:D) (a:gm),δ[i]?=some (some (d,true))->δ[j]?=some (some (e,true))->σ[i]?=some (some (V.ref a))->σ[j]?=some (some (V.ref a))->i=j
 nT: ∀a,OwnA σ δ a-> ¬T a
 dom: ∀a,T a->Ow (H a)
def ER.ownOw{K H T σ e}(E:ER K H T σ e)(h:OwnA σ e a):Ow (H a):=by
 obtain⟨i,d,h1,f⟩:=h;obtain⟨b,c,g⟩:=E.own i d h1;rw[f] at c;cases c;exact g.ow
def ER.ownDom{K H T σ δ}(E:ER K H T σ δ)(h:OwnA σ δ a):H a≠none:=(E.ownOw h).ne
def ER.mono{K H c σ δ}(E:ER K H T σ δ)(k: ∀b o,H b=some o-> ¬T b->c b=some o)(g: ∀b,H b≠none->T' b->T b)(hd: ∀a,T' a->Ow (c a)):ER K c T' σ δ where
 len:=E.len
 val:=λi d h=>by
  obtain⟨v,h1,f⟩:=E.val i d h;exact⟨v,h1,Rep.mono (λb o e n=>k b o e λz=>n (.inr z)) (λb j z=>z.elim .inl λz=> .inr (g b j z)) f⟩
 own:=λi d h=>by
  obtain⟨a,h1,f⟩:=E.own i d h;exact⟨a,h1,f.mono (λb o e n=>k b o e λz=>n (.inr z)) (λb j z=>z.elim .inl λz=> .inr (g b j z)) λo e=>k a o e (E.nT a ⟨i,d,h,h1⟩)⟩
 inj:=E.inj
 nT:=λa h z=>E.nT a h (g a (E.ownDom h) z)
 dom:=hd
def OwnA.set(h:OwnA σ (c.set i (some (d,false))) a):OwnA σ c a:=by
 obtain⟨j,e,h1,b⟩:=h;rw[xD] at h1;split at h1
 ·split at h1<;>simp at h1
 ·exact⟨j,e,h1,b⟩
def ER.freeze{K H T σ m}(E:ER K H T σ m){i:Nat}{d:D}{b:Bool}(h:m[i]?=some (some (d,b))):ER K H T σ (m.set i (some (d,false)))/\ ∃v,σ[i]?=some (some v)/\Rep K H (λa=>OwnA σ (m.set i (some (d,false))) a\/T a) d v:=by
 have o:i<m.length:=(uG.mp h).1
 have p: ∃v,σ[i]?=some (some v)/\Rep K H (λa=>OwnA σ (m.set i (some (d,false))) a\/T a) d v:=by
  cases b with
  |false=>
   obtain⟨v,h1,l⟩:=E.val i d h;exact⟨v,h1,Rep.mono (λ_ _ e _=>e) (λb _ z=>z.elim (λz=> .inl z.set) .inr) l⟩
  |true=>
   obtain⟨a,h1,l⟩:=E.own i d h;refine⟨.ref a,h1,l.rep (λz=>?_) λb _ z=>z.elim (λz=> .inl z.set) .inr⟩;rcases z with⟨j,e,n,q⟩|z
   ·rw[xD] at n;split at n
    ·first
      |(split at n<;>simp at n)
      |simp at n
    ·rename_i r;exact r (E.inj i j d e a h n h1 q)
   ·exact E.nT a ⟨i,d,h,h1⟩ z
 refine⟨⟨by rw[rG];exact E.len,λj e c=>?_,λj e c=>?_,λj k e f a c hk h1 l=>?_,λa z=>E.nT a z.set,E.dom⟩,p⟩
 ·by_cases g:i=j
  ·subst g;rw[mv o] at c;cases c;exact p
  ·rw[mI g] at c;obtain⟨v,h1,l⟩:=E.val j e c;exact⟨v,h1,Rep.mono (λ_ _ e _=>e) (λb _ z=>z.elim (λz=> .inl z.set) .inr) l⟩
 ·by_cases g:i=j
  ·subst g;rw[mv o] at c;cases c
  ·rw[mI g] at c;obtain⟨a,h1,l⟩:=E.own j e c;exact⟨a,h1,l.mono (λ_ _ e _=>e) (λb _ z=>z.elim (λz=> .inl z.set) .inr) λ_ e=>e⟩
 ·have g1:m[j]?=some (some (e,true)):=by
   by_cases g:i=j
   ·subst g;rw[mv o] at c;cases c
   ·rwa [mI g] at c
  have g2:m[k]?=some (some (f,true)):=by
   by_cases g:i=k
   ·subst g;rw[mv o] at hk;cases hk
   ·rwa [mI g] at hk
  exact E.inj j k e f a g1 g2 h1 l
def OwnI(b:L2.St)(δ:Dn)(i:Nat)(a:gm):Prop:= ∃d:D,δ[i]?=some (some (d,true))/\b[i]?=some (some (V.ref a))
structure Keep(σ:L2.St)(δ:Dn)(H:Hp)(δ':Dn)(H':Hp):Prop where
 kp: ∀a o,H a=some o-> ¬OwnA σ δ a->H' a=some o
 owi: ∀i a,OwnI σ δ' i a->OwnI σ δ i a
 dm: ∀a,H a≠none->H' a≠none
def Keep.ow{σ c H b f}(k:Keep σ c H b f)(a:gm)(h:OwnA σ b a):OwnA σ c a:=by
 obtain⟨i,d,h1,g⟩:=h;obtain⟨e,j,l⟩:=k.owi i a ⟨d,h1,g⟩;exact⟨i,e,j,l⟩
def Keep.refl{σ a H}:Keep σ a H a H:=⟨λ_ _ e _=>e,λ_ _ z=>z,λ_ z=>z⟩
theorem Keep.trans{σ δ δ1 δ2 H H1 b}(x:Keep σ δ H δ1 H1)(y:Keep σ δ1 H1 δ2 b):Keep σ δ H δ2 b:=
 ⟨λa o e n=>y.kp a o (x.kp a o e n) λz=>n (x.ow a z),λi a z=>x.owi i a (y.owi i a z),λa z=>y.dm a (x.dm a z)⟩
def Keep.ext{σ b H H1}(k: ∀a o,H a=some o->H1 a=some o):Keep σ b H b H1:=⟨λa o e _=>k a o e,λ_ _ z=>z,λa z=>by
 cases h:H a with
 |none=>exact absurd h z
 |some o=>rw[k a o h];simp⟩
def OwnI.set(h:OwnI σ (c.set i (some (d,false))) j a):OwnI σ c j a:=by
 obtain⟨e,h1,b⟩:=h;rw[xD] at h1;split at h1
 ·split at h1<;>simp at h1
 ·exact⟨e,h1,b⟩
def Keep.set{σ a H i d}:Keep σ a H (a.set i (some (d,false))) H:=⟨λ_ _ e _=>e,λ_ _ z=>z.set,λ_ z=>z⟩
def Post(K:gK)(T:AP')(e:L2.St)(f:Dn)(H:Hp)(r:D×Bool)(b:Dn)(v:V)(c:Hp):Prop:=
 Keep e f H b c/\
 match r with
 |(d,false)=>ER K c T e b/\Rep K c (λa=>OwnA e b a\/T a) d v
 |(d,true)=> ∃p,v= .ref p/\H p=none/\ER K c (λa=>T a\/a=p) e b/\OwnOk K c (λa=>OwnA e b a\/T a\/a=p) d p
abbrev F:=Dn->Option ((D×Bool)×Dn)
def tF(K:gK)(f:F):TE:=λd H Q=> ∃b T r a,ER K H T d b/\f b=some (r,a)/\ ∀v c,Post K T d b H r a v c->Q v c
def PX(X:Cx)(e:gw)(f:F):Prop:=PE X e (tF X.K f)
noncomputable def Tmp(T:AP')(r:D×Bool)(v:V):AP':=λa=>T a\/(r.2=true/\v= .ref a)
section
variable {K:gK}{T:AP'}{c:L2.St}{δ δ1 δ2:Dn}{H f g:Hp}{x y:D×Bool}{v u:V}
def Post.er(E:ER K H T c δ)(P:Post K T c δ H x δ1 v f):ER K f (Tmp T x v) c δ1:=by
 obtain⟨d,b⟩:=x
 cases b with
 |false=>
  refine P.2.1.mono (λ_ _ e _=>e) (λb _ z=>z.elim id λz=>absurd z.1 (by simp)) (λa z=>?_);rcases z with z|z
  ·exact P.2.1.dom a z
  ·exact absurd z.1 (by simp)
 |true=>
  obtain⟨p,rfl,i,h,j⟩:=P.2;refine h.mono (λ_ _ e _=>e) (λb _ z=>z.elim .inl λz=> .inr (by have:=z.2;cases this;rfl)) (λa z=>?_);rcases z with z|z
  ·exact h.dom a (.inl z)
  ·have:=z.2;cases this;exact h.dom _ (.inr rfl)
def Post.rep(E:ER K H T c δ)(P:Post K T c δ H x δ1 v f):ER K f T c δ1/\Rep K f (λa=>OwnA c δ1 a\/T a) x.1 v:=by
 obtain⟨d,b⟩:=x
 cases b with
 |false=>exact P.2
 |true=>
  obtain⟨p,rfl,i,h,j⟩:=P.2;refine⟨h.mono (λ_ _ e _=>e) (λb _ z=> .inl z) (λa z=>h.dom a (.inl z)),j.rep (λz=>?_) λb _ z=>z.elim .inl λz=> .inr (.inl z)⟩;rcases z with z|z
  ·exact h.nT p z (.inr rfl)
  ·exact(E.dom p z).ne i
theorem Post.val(k:Keep c δ H δ2 g)(E:ER K g T c δ2)(r:Rep K g (λa=>OwnA c δ2 a\/T a) d w):Post K T c δ H (d,false) δ2 w g:=⟨k,E,r⟩
end
def gM{e f:Type}{a c:e}{b d:f}(h:some (a,b)=some (c,d)):a=c/\b=d:=by cases h;exact⟨rfl,rfl⟩
noncomputable def fC(d:D):F:=λδ=>some ((d,false),δ)
noncomputable def jJ(i:Nat):F:=λδ=>match δ[i]? with
 |some (some (d,_))=>some ((d,false),δ.set i (some (d,false)))
 |_=>none
section
variable {X:Cx}{a b c:gw}{g:Pos}{n m l:F}
def PX.imp(h:PE X e t)(k: ∀i H Q,tF X.K f i H Q->t i H Q):PX X e f:=λd s i H Q I j=>h d s i H Q I (k i H Q j)
def Q3{i j}:PX X (.Constant (.int i) j g) (fC (.int i)):=PX.imp BR λo H Q h=>by
 obtain⟨f,T,r,d,E,e,k⟩:=h;cases e;exact k _ _ (Post.val .refl E (by first|exact Rep.mkInt|exact Rep.mkBl|exact Rep.mkNon|exact Rep.mkStr))
def OY{i j}:PX X (.Constant (.bool i) j g) (fC (.bl i)):=PX.imp T9 λo H Q h=>by
 obtain⟨f,T,r,d,E,e,k⟩:=h;cases e;exact k _ _ (Post.val .refl E (by first|exact Rep.mkInt|exact Rep.mkBl|exact Rep.mkNon|exact Rep.mkStr))
def QU{j}:PX X (.Constant .none j g) (fC .non):=PX.imp Ry λi H Q h=>by
 obtain⟨f,T,r,d,E,e,k⟩:=h;cases e;exact k _ _ (Post.val .refl E (by first|exact Rep.mkInt|exact Rep.mkBl|exact Rep.mkNon|exact Rep.mkStr))
def QD{i j}:PX X (.Constant (.str i) j g) (fC (.str i)):=PX.imp Rv λo H Q h=>by
 obtain⟨f,T,r,d,E,e,k⟩:=h;cases e;exact k _ _ (Post.val .refl E (by first|exact Rep.mkInt|exact Rep.mkBl|exact Rep.mkNon|exact Rep.mkStr))
def Qy{i:Nat}{x:Str}(s:X.N[i]?=some x)(hv:Vis X.env.scope x)(hd:(x==("__debug__":Str))=false)(t:(x==("__classdict__":Str))=false):PX X (.Name x g) (jJ i):=PX.imp (yt s hv hd t) λy H Q h=>by
 obtain⟨u,T,r,w,E,e,k⟩:=h;unfold jJ at e
 cases f:u[i]? with
 |none=>rw[f] at e;cases e
 |some o=>
  cases o with
  |none=>rw[f] at e;cases e
  |some p=>
   obtain⟨d,b⟩:=p;rw[f] at e;cases e;obtain⟨j,v,h1,q⟩:=E.freeze f;exact⟨v,h1,k v H (Post.val .set j q)⟩
end
inductive Opd where
 |val(r:D×Bool)|slot(i:Nat)
noncomputable def res(a:Dn):Opd->Option D
 | .val r=>some r.1
 | .slot i=>match a[i]? with
  |some (some (d,_))=>some d
  |_=>none
def jq(K:gK)(H:Hp)(O:AP')(d:D)(v:V):Prop:=Rep K H O d v\/ ∃a,v= .ref a/\OwnOk K H O d a
abbrev FO:=Dn->Option (Opd×Dn)
def PostO(K:gK)(T:AP')(b:L2.St)(d:Dn)(H:Hp)(o:Opd)(a:Dn)(v:V)(c:Hp):Prop:=
 match o with
 | .val r=>Post K T b d H r a v c
 | .slot i=>Keep b d H a c/\ER K c T b a/\b[i]?=some (some v)
noncomputable def zo(T:AP')(o:Opd)(v:V):AP':=match o with
 | .val r=>Tmp T r v
 | .slot _=>T
def tO(K:gK)(f:FO):TE:=λd H Q=> ∃b T o a,ER K H T d b/\f b=some (o,a)/\ ∀v c,PostO K T d b H o a v c->Q v c
def PO(X:Cx)(e:gw)(f:FO):Prop:=PE X e (tO X.K f)
noncomputable def gn(f:F):FO:=λδ=>(f δ).bind λp=>some (.val p.1,p.2)
noncomputable def gk(i:Nat):FO:=λδ=>match δ[i]? with
 |some (some _)=>some (.slot i,δ)
 |_=>none
def PE.imp'(h:PE X e t)(k: ∀b H Q,d b H Q->t b H Q):PE X e d:=λa s b H Q I c=>h a s b H Q I (k b H Q c)
section
variable {X:Cx}{a:Pos}
def PX.po(h:PX X e f):PO X e (gn f):=PE.imp' h λj H Q g=>by
 obtain⟨c,T,o,i,E,e,k⟩:=g;unfold gn at e
 cases h1:f c with
 |none=>rw[h1] at e;cases e
 |some p=>
  obtain⟨r,b⟩:=p;rw[h1] at e;obtain⟨rfl,rfl⟩:=gM e;exact⟨c,T,r,b,E,h1,λv d P=>k v d P⟩
def Rq{i:Nat}{x:Str}(f:X.N[i]?=some x)(hv:Vis X.env.scope x)(hd:(x==("__debug__":Str))=false)(g:(x==("__classdict__":Str))=false):PO X (.Name x a) (gk i):=PE.imp' (yt f hv hd g) λr H Q h=>by
 obtain⟨j,T,o,l,E,e,k⟩:=h;unfold gk at e
 cases c:j[i]? with
 |none=>rw[c] at e;cases e
 |some q=>
  cases q with
  |none=>rw[c] at e;cases e
  |some p=>
   obtain⟨d,b⟩:=p;rw[c] at e;obtain⟨rfl,rfl⟩:=gM e;obtain⟨m,v,h1,n⟩:=E.freeze c;exact⟨v,h1,k v H ⟨.refl,E,h1⟩⟩
end
structure Ops(K:gK)(T:AP')(σ:L2.St)(δ:Dn)(H:Hp)(os:List Opd)(vs:List V)(δ':Dn)(H':Hp)(T':AP'):Prop where
 len:os.length=vs.length
 keep:Keep σ δ H δ' H'
 er:ER K H' T' σ δ'
 tt: ∀a,T a->T' a
 val: ∀(j:Nat) (d:D) (v:V),os[j]?=some (.val (d,false))->vs[j]?=some v->Rep K H' (λa=>OwnA σ δ' a\/T a) d v
 tmp: ∀(j:Nat) (d:D) (v:V),os[j]?=some (.val (d,true))->vs[j]?=some v-> ∃p,v= .ref p/\T' p/\H p=none/\OwnOk K H' (λa=>OwnA σ δ' a\/T a) d p
 slt: ∀(j i:Nat) (v:V),os[j]?=some (.slot i)->vs[j]?=some v->σ[i]?=some (some v)
section
variable {K:gK}{T T':AP'}{b:L2.St}{δ a c:Dn}{H H' e:Hp}{os:List Opd}{vs:List V}{o:Opd}{v:V}
theorem Ops.nil(E:ER K H T b δ):Ops K T b δ H [] [] δ H T:=⟨rfl,.refl,E,λ_ z=>z,λj d v h=>by simp at h,λj d v h=>by simp at h,λj i v h=>by simp at h⟩
def PostO.keep(P:PostO K T b δ H o a v H'):Keep b δ H a H':=by
 cases o with
 |val r=>exact P.1
 |slot i=>exact P.1
def PostO.er(E:ER K H T b δ)(P:PostO K T b δ H o a v H'):ER K H' (zo T o v) b a:=by
 cases o with
 |val r=>exact Post.er E P
 |slot i=>exact P.2.1
end
def Gen(K:gK)(H:Hp)(O:AP')(z:D×Bool)(Q:VK):Prop:=
 match z with
 |(d,false)=> ∀w b,(∀a o,H a=some o->b a=some o)->Rep K b O d w->Q w b
 |(d,true)=> ∀p b,H p=none->(∀a o,H a=some o->b a=some o)->OwnOk K b (λa=>O a\/a=p) d p->Q (.ref p) b
section
variable {K:gK}{T m:AP'}{f:L2.St}{δ δ1 c δ2:Dn}{H s H' h:Hp}{os:List Opd}{vs:List V}{o:Opd}{v:V}{z:D×Bool}{Q:VK}
theorem Ops.cons(E:ER K H T f δ)(P:PostO K T f δ H o δ1 v s)(B:Ops K (zo T o v) f δ1 s os vs δ2 h m):Ops K T f δ H (o::os) (v::vs) δ2 h m:=by
 have A:=P.er E;have x:=B.keep.kp;have y:=B.keep.ow
 have t: ∀a,T a->zo T o v a:=λa z=>by
  cases o with
  |val r=>exact .inl z
  |slot i=>exact z
 refine⟨by simp[B.len],P.keep.trans B.keep,B.er,λa z=>B.tt a (t a z),λj d w h1 g=>?_,λj d w h1 g=>?_,λj i w h1 g=>?_⟩
 ·cases j with
  |zero=>
   simp at h1 g;subst h1;subst g;have q:Post K T f δ H (d,false) δ1 v s:=P;exact Rep.mono (λb k e n=>x b k e λz=>n (.inl z)) (λb _ z=>z.elim (λz=>Or.inl (y b z)) Or.inr) (q.rep E).2
  |succ j=>exact Rep.mono (λ_ _ e _=>e) (λb _ z=>z.elim Or.inl λz=>Or.inr (t b z)) (B.val j d w (by simpa using h1) (by simpa using g))
 ·cases j with
  |zero=>
   simp at h1 g;subst h1;subst g;have q:Post K T f δ H (d,true) δ1 v s:=P;obtain⟨p,rfl,u,G,ok⟩:=q.2;have l:zo T (.val (d,true)) (V.ref p) p:= .inr ⟨rfl,rfl⟩;refine⟨p,rfl,B.tt p l,u,ok.mono (λb k e n=>x b k e λz=>n (.inl z)) (λb _ z=>z.elim (λz=>Or.inl (y b z)) λz=>Or.inr (Or.inl z)) λk e=>x p k e λz=>A.nT p z l⟩
  |succ j=>
   obtain⟨p,rfl,l,u,ok⟩:=B.tmp j d w (by simpa using h1) (by simpa using g);refine⟨p,rfl,l,?_,ok.mono (λ_ _ e _=>e) (λb _ z=>z.elim Or.inl λz=>Or.inr (t b z)) λ_ e=>e⟩
   cases C:H p with
   |none=>rfl
   |some k=>exact absurd u (P.keep.dm p (by rw[C];simp))
 ·cases j with
  |zero=>
   simp at h1 g;subst h1;subst g;exact P.2.2
  |succ j=>exact B.slt j i w (by simpa using h1) (by simpa using g)
def Ops.view(B:Ops K T f δ H os vs c H' m){j:Nat}{d:D}(h1:os[j]?=some o)(n:vs[j]?=some v)(g:res c o=some d):jq K H' (λa=>OwnA f c a\/T a) d v:=by
 cases o with
 |val r=>
  obtain⟨e,b⟩:=r;have hd:e=d:=js g;subst hd
  cases b with
  |false=>exact .inl (B.val j e v h1 n)
  |true=>
   obtain⟨p,rfl,_,_,ok⟩:=B.tmp j e v h1 n;exact .inr ⟨p,rfl,ok⟩
 |slot i=>
  have u:=B.slt j i v h1 n;unfold res at g;dsimp only at g
  cases l:c[i]? with
  |none=>rw[l] at g;cases g
  |some q=>
   cases q with
   |none=>rw[l] at g;cases g
   |some p=>
    obtain⟨e,b⟩:=p;rw[l] at g;have hd:e=d:=js g;subst hd
    cases b with
    |false=>
     obtain⟨w,k,t⟩:=B.er.val i e l;rw[u] at k;cases k;exact .inl (Rep.mono (λ_ _ e _=>e) (λb _ z=>z.elim Or.inl λz=>Or.inr (B.tt b z)) t)
    |true=>
     obtain⟨a,k,t⟩:=B.er.own i e l;rw[u] at k;cases k;exact .inr ⟨a,rfl,t.mono (λ_ _ e _=>e) (λb _ z=>z.elim Or.inl λz=>Or.inr (B.tt b z)) λ_ e=>e⟩
def Ops.done(B:Ops K T f δ H os vs c H' m)(k: ∀v h,Post K T f δ H z c v h->Q v h):Gen K H' (λa=>OwnA f c a\/T a) z Q:=by
 obtain⟨d,b⟩:=z;have i: ∀{h:Hp},(∀a o,H' a=some o->h a=some o)-> ∀a,T a->Ow (h a):=λ{h} g a z=>(B.er.dom a (B.tt a z)).up (g a)
 cases b with
 |false=>
  intro w h g r;exact k w h ⟨B.keep.trans (.ext g),B.er.mono (λb o e _=>g b o e) (λb _ z=>B.tt b z) (i g),r⟩
 |true=>
  intro p h l g ok
  have j:H p=none:=by
   cases n:H p with
   |none=>rfl
   |some t=>exact absurd l (B.keep.dm p (by rw[n];simp))
  refine k (.ref p) h ⟨B.keep.trans (.ext g),p,rfl,j,B.er.mono (λb o e _=>g b o e) (λb q z=>z.elim (B.tt b) λz=>absurd (z▸l) q) (λa z=>?_),ok.mono (λ_ _ e _=>e) (λb _ z=>?_) λ_ e=>e⟩
  ·rcases z with z|z
   ·exact i g a z
   ·subst z;exact ok.ow
  ·rcases z with z|z|z
   ·exact Or.inl (Or.inl z)
   ·exact Or.inl (Or.inr z)
   ·exact Or.inr z
theorem Gen.int(g:Gen K H O (.int i,false) Q):Q (.int i) H:=g _ H (λ_ _ e=>e) Rep.mkInt
theorem Gen.bl(g:Gen K H O (.bl i,false) Q):Q (.bl i) H:=g _ H (λ_ _ e=>e) Rep.mkBl
def ky{H:Hp}{p:gm}{o:HO}(b:H p=none): ∀a u,H a=some u->upd H p o a=some u:=λa u e=>by rw[gQ (by intro z;subst z;rw[e] at b;cases b)];exact e
theorem Gen.lst{O:AP'}{l:List D}{xs:List V}{p:gm}(g:Gen K H O (.lst l,true) Q)(a:H p=none)(r:RepL K H O l xs):Q (.ref p) (upd H p (.lst xs)):=
 g p _ a (ky a) ⟨xs,gU,RepL.mono (λb o e _=>ky a b o e) (λb d z=>z.elim id λz=>absurd (z▸a) d) r⟩
theorem Gen.tup(g:Gen K H O (.tup l,false) Q)(a:H p=none)(np: ¬O p)(r:RepL K H O l xs):Q (.ref p) (upd H p (.tup xs)):=
 g _ _ (ky a) (Rep.mkTup ⟨gU,np⟩ (RepL.mono (λb o e _=>ky a b o e) (λb d z=>z) r))
def Ops.np(B:Ops K T f δ H os vs c H' m)(a: ¬Ow (H' p)): ¬(OwnA f c p\/T p):=λz=>a (z.elim (λz=>B.er.ownOw z) λz=>B.er.dom p (B.tt p z))
end
noncomputable def jg(g:D->Option (D×Bool))(a:FO):F:=λδ=>(a δ).bind λp=>(res p.2 p.1).bind λx=>(g x).bind λz=>some (z,p.2)
noncomputable def gy(g:D->D->Option (D×Bool))(a fb:FO):F:=λδ=>(a δ).bind λp=>(fb p.2).bind λq=>(res q.2 p.1).bind λx=>(res q.2 q.1).bind λy=>(g x y).bind λz=>some (z,q.2)
noncomputable def jk:List FO->Dn->Option (List Opd×Dn)
 |[],a=>some ([],a)
 |f::fs,a=>(f a).bind λp=>(jk fs p.2).bind λq=>some (p.1::q.1,q.2)
noncomputable def si(a:Dn):List Opd->Option (List D)
 |[]=>some []
 |o::os=>(res a o).bind λd=>(si a os).bind λl=>some (d::l)
noncomputable def gJ(g:List D->Option (D×Bool))(fs:List FO):F:=λδ=>(jk fs δ).bind λp=>(si p.2 p.1).bind λds=>(g ds).bind λz=>some (z,p.2)
def tA(K:gK)(fs:List FO):TA:=λe H Q=> ∃b T os a,ER K H T e b/\jk fs b=some (os,a)/\ ∀d c f,Ops K T e b H os d a c f->Q d c
section
variable {X:Cx}{e a b:gw}{m:iO}{i n:FO}{fs:List FO}{c:Pos}
def gh{d g:Type}{x:Option d}{f:d->Option g}{b:g}(h:x.bind f=some b): ∃a,x=some a/\f a=some b:=by
 cases x with
 |none=>cases h
 |some a=>exact⟨a,rfl,h⟩
def We(K:gK)(r:V->Hp->VK->Prop)(g:D->Option (D×Bool)):Prop:=
 ∀x z v H (O:AP') (Q:VK),(∀p,¬Ow (H p)-> ¬O p)->jq K H O x v->g x=some z->Gen K H O z Q->r v H Q
def SU(K:gK)(r:R2)(g:D->D->Option (D×Bool)):Prop:=
 ∀x y z v u H (O:AP') (Q:VK),(∀p,¬Ow (H p)-> ¬O p)->jq K H O x v->jq K H O y u->g x y=some z->Gen K H O z Q->r v u H Q
def Wd(K:gK)(r:List V->Hp->VK->Prop)(g:List D->Option (D×Bool)):Prop:=
 ∀ds z f H (O:AP') (Q:VK),(∀p,¬Ow (H p)-> ¬O p)->ds.length=f.length->(∀(j:Nat) d v,ds[j]?=some d->f[j]?=some v->jq K H O d v)->g ds=some z->Gen K H O z Q->r f H Q
def QN{r:V->Hp->VK->Prop}{g:D->Option (D×Bool)}(h:PE X e (tUn r (tO X.K i)))(u:We X.K r g):PX X e (jg g i):=PX.imp h λG H Q w=>by
 obtain⟨y,T,C,A,E,e,k⟩:=w;obtain⟨⟨o,d⟩,h1,e⟩:=gh e;obtain⟨x,q,e⟩:=gh e;obtain⟨z,s,e⟩:=gh e;obtain⟨rfl,rfl⟩:=gM e;refine⟨y,T,o,d,E,h1,λv l f=>?_⟩;have B:=Ops.cons E f (Ops.nil (f.er E));exact u x z v l _ Q (λp t=>B.np t) (B.view (j:=0) rfl rfl q) s (B.done k)
def QM{r:R2}{g:D->D->Option (D×Bool)}(h:PE X e (tOp r (tO X.K i) (tO X.K n)))(I:SU X.K r g):PX X e (gy g i n):=PX.imp h λY H Q J=>by
 obtain⟨M,T,U,N,E,e,k⟩:=J;obtain⟨⟨o,d⟩,h1,e⟩:=gh e;obtain⟨⟨L,l⟩,t,e⟩:=gh e;obtain⟨x,w,e⟩:=gh e;obtain⟨y,A,e⟩:=gh e;obtain⟨z,C,e⟩:=gh e;obtain⟨rfl,rfl⟩:=gM e;refine⟨M,T,o,d,E,h1,λv O f=>⟨d,zo T o v,L,l,f.er E,t,λu s q=>?_⟩⟩;have B:=Ops.cons E f (Ops.cons (f.er E) q (Ops.nil (q.er (f.er E))));exact I x y z v u s _ Q (λp G=>B.np G) (B.view (j:=0) rfl rfl w) (B.view (j:=1) rfl rfl A) C (B.done k)
def wQ:PA X [] (tA X.K []):=λc d s g H Q I h=>by
 obtain⟨j,T,os,f,E,e,k⟩:=h;obtain⟨rfl,rfl⟩:=gM e;exact nv c d s g H Q I (k [] H T (Ops.nil E))
def qg(t:PO X e i)(u:PA X m (tA X.K fs))(w:starEach (e::m) X.env=(false,eval e X.env)::starEach m X.env):PA X (e::m) (tA X.K (i::fs)):=λc d s z H Q I h=>by
 obtain⟨x,T,os,y,E,e,k⟩:=h;unfold jk at e;obtain⟨⟨o,f⟩,h1,e⟩:=gh e;obtain⟨⟨g,j⟩,r,e⟩:=gh e;obtain⟨rfl,rfl⟩:=gM e;exact ke t u w c d s z H Q I ⟨x,T,o,f,E,h1,λv A l=>⟨f,zo T o v,g,j,l.er E,r,λC p q B=>k _ p q (Ops.cons E l B)⟩⟩
theorem my{k:Dn}: ∀{os:List Opd} {f:List D},si k os=some f->f.length=os.length/\ ∀(j:Nat) d,f[j]?=some d-> ∃o,os[j]?=some o/\res k o=some d
 |[],f,h=>by cases h;exact⟨rfl,λj d h=>by simp at h⟩
 |o::os,f,h=>by
  unfold si at h;obtain⟨d,h1,h⟩:=gh h;obtain⟨l,p,h⟩:=gh h;cases h;obtain⟨q,r⟩:=my p;refine⟨by simp[q],λj e g=>?_⟩
  cases j with
  |zero=>simp at g;subst g;exact⟨o,rfl,h1⟩
  |succ j=>
   obtain⟨s,t,u⟩:=r j e (by simpa using g);exact⟨s,by simpa using t,u⟩
def Nf{r:List V->Hp->VK->Prop}{g:List D->Option (D×Bool)}(h:PE X e (tCB r (tA X.K fs)))(C:Wd X.K r g):PX X e (gJ g fs):=PX.imp h λO H Q G=>by
 obtain⟨J,T,N,L,E,e,k⟩:=G;obtain⟨⟨os,l⟩,h1,e⟩:=gh e;obtain⟨s,t,e⟩:=gh e;obtain⟨z,u,e⟩:=gh e;obtain⟨rfl,rfl⟩:=gM e;obtain⟨w,x⟩:=my t;refine⟨J,T,os,l,E,h1,λI q M B=>?_⟩;refine C s z I q _ Q (λp A=>B.np A) (w.trans B.len) (λj d v hd hv=>?_) u (B.done k);obtain⟨o,y,f⟩:=x j d hd;exact B.view y hv f
end
open PySem.SeqAt
mutual
/-- ==of data -/
noncomputable def D.eqb:D->D->Bool
 | .non,.non=>true
 | .bl a,.bl b=>a==b
 | .bl a,.int b=>(if a then 1 else 0)==b
 | .int a,.bl b=>a==(if b then 1 else 0)
 | .int a,.int b=>a==b
 | .str a,.str b=>a==b
 | .tup l,.tup m=>D.eqbL l m
 | .lst l,.lst m=>D.eqbL l m
 | .oth _ _ _,.oth _ _ _=>true
 |_,_=>false
noncomputable def D.eqbL:List D->List D->Bool
 |[],[]=>true
 |a::l,b::m=>D.eqb a b&&D.eqbL l m
 |_,_=>false
end
mutual
noncomputable def D.dep:D->Nat
 | .tup l=>D.depL l+1
 | .lst l=>D.depL l+1
 | .oth _ _ _=>20000
 |_=>0
noncomputable def D.depL:List D->Nat
 |[]=>0
 |d::l=>max (D.dep d) (D.depL l)
end
mutual
theorem D.eqb_refl: ∀d:D,D.eqb d d=true
 | .non=>rfl
 | .bl a=>by simp[D.eqb]
 | .int a=>by simp[D.eqb]
 | .str a=>by simp[D.eqb]
 | .tup l=>by rw[D.eqb];exact D.eqbL_refl l
 | .lst l=>by rw[D.eqb];exact D.eqbL_refl l
 | .oth _ _ _=>by rw[D.eqb]
theorem D.eqbL_refl: ∀l:List D,D.eqbL l l=true
 |[]=>rfl
 |d::l=>by rw[D.eqbL,D.eqb_refl d,D.eqbL_refl l];rfl
end
theorem D.dep_mem{d:D}: ∀{l:List D} {j:Nat},l[j]?=some d->d.dep<=D.depL l
 |[],j,h=>by simp at h
 |e::l,0,h=>by simp at h;subst h;rw[D.depL];exact Nat.le_max_left _ _
 |e::l,j+1,h=>by rw[D.depL];exact mw (D.dep_mem (by simpa using h)) (Nat.le_max_right _ _)
noncomputable def qv(l m:List D)(j:Nat):Bool:=match l[j]?,m[j]? with
 |some d,some e=>D.eqb d e
 |_,_=>true
theorem lZ: ∀l m:List D,((List.range (min l.length m.length)).all (qv l m)&&l.length==m.length)=D.eqbL l m
 |[],[]=>rfl
 |[],e::m=>by simp[D.eqbL]
 |d::l,[]=>by simp[D.eqbL]
 |d::l,e::m=>by
  rw[D.eqbL,<-lZ l m];simp only[kT,Nat.succ_min_succ,List.range_succ_eq_map,List.all_cons,List.all_map,Function.comp_def];have a:qv (d::l) (e::m) 0=D.eqb d e:=rfl;have h1:(λx=>qv (d::l) (e::m) (Nat.succ x))=qv l m:=by funext x;simp[qv]
  rw[a];simp only[h1,Bool.and_assoc]
  congr 2
  simp
section
variable {X:Cx}{pins:hG}{σ:L2.St}{H:Hp}{s:gu}
def lb(h:jq X.K H O (.tup l) v): ∃a b,v= .ref a/\SqT X.K H a b/\RepL X.K H O l b:=by
 rcases h with h|⟨a,rfl,h⟩
 ·obtain⟨a,b,e,q,r⟩:=h.tup;exact⟨a,b,e,q.sq,r⟩
 ·exact h.elim
def jD(h:jq X.K H O (.lst l) v): ∃a b,v= .ref a/\SqL X.K H a b/\RepL X.K H O l b:=by
 rcases h with h|⟨a,rfl,h⟩
 ·obtain⟨a,b,e,q,r⟩:=h.lst;exact⟨a,b,e,q.sq,r⟩
 ·obtain⟨b,e,r⟩:=h;exact⟨a,b,rfl,.inl (.inl e),r⟩
def RepL.views{O:AP'}{l:List D}{b:List V}(r:RepL X.K H O l b){j:Nat}{d:D}{v:V}(h1:l[j]?=some d)(c:b[j]?=some v):Rep X.K H O d v:=by
 obtain⟨w,a,e⟩:=r.get h1;rw[c] at a;cases a;exact e
def Lg(I:Inv X pins σ H s)(h:OthB X.K (H a) k l i us): ∃o,s.heap.get? a=some o/\(o.cls= .type "dict"\/o.cls= .type "set"\/ ∃C,o.cls= .ref C):=by
 cases k with
 |dct=>
  rcases h with⟨b,e,_⟩|⟨b,e,_⟩
  ·obtain⟨_,_,i,_,o,d,g,h1,c,_⟩:=(show ObjOk X.prog X.w H s.heap a (.dK b) from I.hok a _ e)
   exact⟨o,h1,.inl c.1⟩
  ·obtain⟨_,_,m,_,o,d,g,h1,c,_⟩:=(show ObjOk X.prog X.w H s.heap a (.dT b) from I.hok a _ e)
   exact⟨o,h1,.inl c.1⟩
 |set=>
  obtain⟨_,j,e,_⟩:=h;obtain⟨d,n,t,h1,_⟩:=(show ObjOk X.prog X.w H s.heap a (.stt j) from I.hok a _ e)
  exact⟨_,h1,.inr (.inl rfl)⟩
 |exc C=>
  obtain⟨_,o,e,h1,_⟩:=h;obtain⟨f,_⟩:=(show ObjOk X.prog X.w H s.heap a (.frz o (.own 0)) from I.hok a _ e)
  exact⟨o,f,.inr (.inr ⟨C,h1⟩)⟩
 |_=>exact h.elim
def CY(I:Inv X pins σ H s)(h1:SqT X.K H a xs)(f:SqL X.K H a k):False:=by
 obtain⟨g,_,⟨o,e,c,_⟩,_⟩:=I.tuple h1;obtain⟨h,_,⟨j,i,d,b,_⟩,_⟩:=I.list f;rw[e] at d;cases d;rw[c] at b;exact absurd b (by simp)
def NH(I:Inv X pins σ H s)(h1:SqT X.K H a xs)(f:OthB X.K (H a) k h j us):False:=by
 obtain⟨g,_,⟨o,e,c,_⟩,_⟩:=I.tuple h1;obtain⟨i,d,b⟩:=Lg I f;rw[e] at d;cases d;rw[c] at b;rcases b with b|b|⟨C,b⟩<;>exact absurd b (by simp)
def NI(I:Inv X pins σ H s)(h1:SqL X.K H a xs)(f:OthB X.K (H a) k h j us):False:=by
 obtain⟨g,_,⟨o,n,e,c,_⟩,_⟩:=I.list h1;obtain⟨i,d,b⟩:=Lg I f;rw[e] at d;cases d;rw[c] at b;rcases b with b|b|⟨C,b⟩<;>exact absurd b (by simp)
mutual
theorem Rep.inj(I:Inv X pins σ H s): ∀{d e:D} {v:V},d.dep<20000->Rep X.K H O d v->Rep X.K H u e v->d=e
 | .non,e,v,i,h,c=>by
  have:=h.non;subst this
  cases e with
  |non=>rfl
  |bl b=>have:=c.bl;cases this
  |int b=>have:=c.int;cases this
  |str b=>have:=c.str;cases this
  |tup m=>obtain⟨a,f,z,_⟩:=c.tup;cases z
  |lst m=>obtain⟨a,f,z,_⟩:=c.lst;cases z
  |oth m n o=>obtain⟨a,f,z,_⟩:=c.oth;cases z
 | .bl b,e,v,i,h,c=>by
  have:=h.bl;subst this
  cases e with
  |non=>have:=c.non;cases this
  |bl b=>have:=c.bl;cases this;rfl
  |int b=>have:=c.int;cases this
  |str b=>have:=c.str;cases this
  |tup m=>obtain⟨a,f,z,_⟩:=c.tup;cases z
  |lst m=>obtain⟨a,f,z,_⟩:=c.lst;cases z
  |oth m n o=>obtain⟨a,f,z,_⟩:=c.oth;cases z
 | .int b,e,v,i,h,c=>by
  have:=h.int;subst this
  cases e with
  |non=>have:=c.non;cases this
  |bl b=>have:=c.bl;cases this
  |int b=>have:=c.int;cases this;rfl
  |str b=>have:=c.str;cases this
  |tup m=>obtain⟨a,f,z,_⟩:=c.tup;cases z
  |lst m=>obtain⟨a,f,z,_⟩:=c.lst;cases z
  |oth m n o=>obtain⟨a,f,z,_⟩:=c.oth;cases z
 | .str b,e,v,i,h,c=>by
  have:=h.str;subst this
  cases e with
  |non=>have:=c.non;cases this
  |bl b=>have:=c.bl;cases this
  |int b=>have:=c.int;cases this
  |str b=>have:=c.str;cases this;rfl
  |tup m=>obtain⟨a,f,z,_⟩:=c.tup;cases z
  |lst m=>obtain⟨a,f,z,_⟩:=c.lst;cases z
  |oth m n o=>obtain⟨a,f,z,_⟩:=c.oth;cases z
 | .tup l,e,v,i,h,c=>by
  rw[D.dep] at i;obtain⟨a,f,rfl,q,r⟩:=h.tup
  cases e with
  |non=>have:=c.non;cases this
  |bl b=>have:=c.bl;cases this
  |int b=>have:=c.int;cases this
  |str b=>have:=c.str;cases this
  |tup m=>
   obtain⟨k,p,z,g,j⟩:=c.tup;cases z;have:=I.tuple_inj q.sq g.sq;subst this;rw[RepL.inj I (by omega) r j]
  |lst m=>
   obtain⟨k,p,z,g,j⟩:=c.lst;cases z;exact(CY I q.sq g.sq).elim
  |oth m n o=>
   obtain⟨k,t,z,g,j⟩:=c.oth;cases z;exact(NH I q.sq g.2).elim
 | .lst l,e,v,i,h,c=>by
  rw[D.dep] at i;obtain⟨a,f,rfl,q,r⟩:=h.lst
  cases e with
  |non=>have:=c.non;cases this
  |bl b=>have:=c.bl;cases this
  |int b=>have:=c.int;cases this
  |str b=>have:=c.str;cases this
  |tup m=>
   obtain⟨k,p,z,g,j⟩:=c.tup;cases z;exact(CY I g.sq q.sq).elim
  |lst m=>
   obtain⟨k,p,z,g,j⟩:=c.lst;cases z;have:=I.list_inj q.sq g.sq;subst this;rw[RepL.inj I (by omega) r j]
  |oth m n o=>
   obtain⟨k,t,z,g,j⟩:=c.oth;cases z;exact(NI I q.sq g.2).elim
 | .oth _ _ _,e,v,i,h,c=>by rw[D.dep] at i;omega
theorem RepL.inj(I:Inv X pins σ H s){O b:AP'}: ∀{l m:List D} {vs:List V},D.depL l<20000->RepL X.K H O l vs->RepL X.K H b m vs->l=m
 |[],m,vs,_,h,a=>by
  rw[RepL] at h;subst h
  cases m with
  |nil=>rfl
  |cons e m=>rw[RepL] at a;obtain⟨_,_,z,_⟩:=a;cases z
 |d::l,m,vs,i,h,a=>by
  rw[D.depL] at i;rw[RepL] at h;obtain⟨v,r,rfl,h1,c⟩:=h
  cases m with
  |nil=>rw[RepL] at a;cases a
  |cons e m=>
   rw[RepL] at a;obtain⟨k,j,z,f,g⟩:=a;cases z;rw[Rep.inj I (by omega) h1 f,RepL.inj I (by omega) c g]
end
def uk(h:jq X.K H O d v)(hd:d.dep=0)(nt: ∀l,d≠ .tup l)(b: ∀l,d≠ .lst l):Rep X.K H O d v:=by
 rcases h with h|⟨a,rfl,h⟩
 ·exact h
 ·cases d with
  |lst l=>exact absurd rfl (b l)
  |oth _ _ _=>rw[D.dep] at hd;omega
  |_=>exact h.elim
inductive Sh(X:Cx)(H:Hp)(s:gu)(O:AP'):D->V->Value->Prop
 |non:Sh X H s O .non .non .none
 |bl (b:Bool):Sh X H s O (.bl b) (.bl b) (.bool b)
 |int (i:Int) (t:Tok):Sh X H s O (.int i) (.int i) (.int i t)
 |str (x:Str) (t:Tok):Sh X H s O (.str x) (.str x) (.str x t)
 |tup {l:List D} {p:gm} {xs:List V} {its:ik} (q:SqT X.K H p xs) (r:RepL X.K H O l xs) (v:Vals xs its) (pl:IsTup s.heap p its.toArray):Sh X H s O (.tup l) (.ref p) (.ref p)
 |lst {l:List D} {p:gm} {xs:List V} {its:ik} (q:SqL X.K H p xs) (r:RepL X.K H O l xs) (v:Vals xs its) (pl:s.heap.IsList p its.toArray):Sh X H s O (.lst l) (.ref p) (.ref p)
def qA(I:Inv X pins σ H s)(h:jq X.K H O d v)(b:RelV v a)(i:d.dep<20000):Sh X H s O d v a:=by
 cases d with
 |oth m k n=>rw[D.dep] at i;omega
 |tup l=>obtain⟨p,j,rfl,q,r⟩:=lb h;cases b;obtain⟨e,g,f,_⟩:=I.tuple q;exact .tup q r g f
 |lst l=>obtain⟨p,j,rfl,q,r⟩:=jD h;cases b;obtain⟨e,g,f,_⟩:=I.list q;exact .lst q r g f.isList
 |non=>have:=(uk h rfl (by simp) (by simp)).non;subst this;cases b;exact .non
 |bl c=>have:=(uk h rfl (by simp) (by simp)).bl;subst this;cases b;exact .bl c
 |int c=>have:=(uk h rfl (by simp) (by simp)).int;subst this;obtain⟨t,rfl⟩:=b;exact .int c t
 |str c=>have:=(uk h rfl (by simp) (by simp)).str;subst this;obtain⟨t,rfl⟩:=b;exact .str c t
def Az(I:Inv X pins σ H s)(n:Nat)
  (ih: ∀(d e:D) (v u:V) (a b:gz) (O O':AP') (A:gR),jq X.K H O d v->jq X.K H O' e u->RelV v a->RelV u b->d.dep+1<=n->e.dep<20000->A.units+n<cLine+1->EqAt A s a b (D.eqb d e)):
  ∀(d e:D) (v u:V) (a b:gz) (O O':AP') (A:gR),jq X.K H O d v->jq X.K H O' e u->RelV v a->RelV u b->d.dep<=n->e.dep<20000->A.units+n<cLine->EqAt A s a b (D.eqb d e):=by
 intro d e v u a b O O' A hd he o t T o8 hA;have h:A.units<cLine:=by omega
 have m7:cLine=9900:=rfl
 have G: ∀(l m:List D) (L M:List V) (c C:ik) (R S:AP'),D.depL l+1<=n->D.depL m<20000->RepL X.K H R l L->RepL X.K H S m M->Vals L c->Vals M C->
   ∀j (h1:j<c.toArray.size) (J:j<C.toArray.size),EqAt A.in1 s c.toArray[j] C.toArray[j] (qv l m j):=λl m L M c C R S F P r1 i Q k j h1 J=>by
  have e1:=Q.length;have e2:=k.length;have e3:=r1.length;have e4:=i.length;simp only[je] at h1 J;have hx:L[j]?=some L[j]:=iW (by omega);have hy:M[j]?=some M[j]:=iW (by omega);have Z:l[j]?=some l[j]:=iW (by omega);have W:m[j]?=some m[j]:=iW (by omega);obtain⟨w,w1,w2⟩:=Q.get hx;obtain⟨w',w3,w4⟩:=k.get hy
  have i1:c.toArray[j]=w:=by
   have:c[j]?=some c[j]:=iW (by omega);rw[this] at w1;simpa using w1
  have i2:C.toArray[j]=w':=by
   have:C[j]?=some C[j]:=iW (by omega);rw[this] at w3;simpa using w3
  rw[i1,i2];have hj:qv l m j=D.eqb l[j] m[j]:=by unfold qv;rw[Z,W]
  rw[hj];have y7:=D.dep_mem Z;have hdep2:=D.dep_mem W;exact ih _ _ _ _ _ _ R S A.in1 (.inl (r1.views Z hx)) (.inl (i.views W hy)) w2 w4 (by omega) (by omega) (by show A.units+1+n<cLine+1;omega)
 have h1:=qA I hd o (by omega);have J:=qA I he t o8
 cases h1 with
 |non=>
  cases J with
  |non=>exact kX o t rfl rfl
  |bl g=>exact kX o t rfl rfl
  |int g x=>exact kX o t rfl rfl
  |str g x=>exact kX o t rfl rfl
  |tup B i k f=>exact EqAt.none_tuple f h
  |lst B i k f=>exact EqAt.none_list f h
 |bl N=>
  cases J with
  |non=>exact kX o t rfl rfl
  |bl g=>exact kX o t rfl rfl
  |int g x=>exact kX o t rfl rfl
  |str g x=>exact kX o t rfl rfl
  |tup B i k f=>exact EqAt.bool_tuple N f h
  |lst B i k f=>exact EqAt.bool_list N f h
 |int N Y=>
  cases J with
  |non=>exact kX o t rfl rfl
  |bl g=>exact kX o t rfl rfl
  |int g x=>exact kX o t rfl rfl
  |str g x=>exact kX o t rfl rfl
  |tup B i k f=>exact EqAt.int_tuple N Y f h
  |lst B i k f=>exact EqAt.int_list N Y f h
 |str N Y=>
  cases J with
  |non=>exact kX o t rfl rfl
  |bl g=>exact kX o t rfl rfl
  |int g x=>exact kX o t rfl rfl
  |str g x=>exact kX o t rfl rfl
  |tup B i k f=>exact EqAt.str_tuple N Y f h
  |lst B i k f=>exact EqAt.str_list N Y f h
 | @tup l p L c q r Q y=>
  cases J with
  |non=>exact EqAt.tuple_none y h
  |bl g=>exact EqAt.tuple_bool g y h
  |int g x=>exact EqAt.tuple_int g x y h
  |str g x=>exact EqAt.tuple_str g x y h
  | @tup m p2 M C B i k f=>
   by_cases U:p=p2
   ·subst U;have:=I.tuple_inj q B;subst this;rw[RepL.inj I (by rw[D.dep] at T;omega) r i,D.eqb_refl];exact EqAt.same _
   ·refine .of_refs U ?_;have F:D.depL l+1<=n:=by rw[D.dep] at T;exact T
    have P:D.depL m<20000:=by rw[D.dep] at o8;omega
    have z:=RcAt.tuples y f h (G l m L M c C _ _ F P r i Q k);have e1:=Q.length;have e2:=k.length;have e3:=r.length;have e4:=i.length;simp only[je] at z;rw[show c.length=l.length by omega,show C.length=m.length by omega,lZ] at z;rw[D.eqb];exact z
  |lst B i k f=>exact EqAt.tuple_list y f h
 | @lst l p L c q r Q y=>
  cases J with
  |non=>exact EqAt.list_none y h
  |bl g=>exact EqAt.list_bool g y h
  |int g x=>exact EqAt.list_int g x y h
  |str g x=>exact EqAt.list_str g x y h
  |tup B i k f=>exact EqAt.list_tuple y f h
  | @lst m p2 M C B i k f=>
   by_cases U:p=p2
   ·subst U;have:=I.list_inj q B;subst this;rw[RepL.inj I (by rw[D.dep] at T;omega) r i,D.eqb_refl];exact EqAt.same _
   ·refine .of_refs U ?_;have F:D.depL l+1<=n:=by rw[D.dep] at T;exact T
    have P:D.depL m<20000:=by rw[D.dep] at o8;omega
    have e1:=Q.length;have e2:=k.length;have e3:=r.length;have e4:=i.length;have al:=lZ l m;by_cases E:l.length=m.length
    ·have z:=RcAt.lists y f (by simp only[je];omega) h (G l m L M c C _ _ F P r i Q k);simp only[je] at z;rw[show c.length=min l.length m.length by omega] at z;rw[D.eqb,<-al,E];rw[E] at z;simpa using z
    ·have z:=RcAt.lists_lengths y f (by simp only[je,bne_iff_ne,ne_eq];omega) h;rw[D.eqb,<-al];rw[show(l.length==m.length)=false by simpa using E];simpa using z
def F1(I:Inv X pins σ H s): ∀(n:Nat) (d e:D) (v u:V) (a b:gz) (O c:AP') (A:gR),jq X.K H O d v->jq X.K H c e u->RelV v a->RelV u b->d.dep<=n->e.dep<20000->A.units+n<cLine->EqAt A s a b (D.eqb d e):=by
 intro n
 induction n with
 |zero=>
  intro d e v u a b O c A hd f i j g h k;exact Az I 0 (λd e v u a b O c A hd f i j g h k=>absurd g (by omega)) d e v u a b O c A hd f i j g h k
 |succ n l=>
  intro d e v u a b O c A hd f i j g h k;exact Az I (n+1) (λd e v u a b O c A hd f i j g h k=>l d e v u a b O c A hd f i j (by omega) h (by omega)) d e v u a b O c A hd f i j g h k
end
section
variable {X:Cx}{c:hG}{f:L2.St}{H:Hp}{s:gu}
def DP(I:Inv X c f H s){A:gR}{n:Nat}(T:A.units+n<cLine): ∀(l m:List D) (d e:List V) (a b:ik) (g h:AP'),D.depL l+1<=n->D.depL m<20000->RepL X.K H g l d->RepL X.K H h m e->Vals d a->Vals e b->
   ∀j (h1:j<a.toArray.size) (p:j<b.toArray.size),EqAt A.in1 s a.toArray[j] b.toArray[j] (qv l m j):=λl m d e a b g h U Y t u v x j h1 p=>by
 have M:=v.length;have N:=x.length;have O:=t.length;have Q:=u.length;simp only[je] at h1 p;have q:d[j]?=some d[j]:=iW (by omega);have r:e[j]?=some e[j]:=iW (by omega);have k:l[j]?=some l[j]:=iW (by omega);have i:m[j]?=some m[j]:=iW (by omega);obtain⟨w,y,J⟩:=v.get q;obtain⟨G,z,L⟩:=x.get r
 have C:a.toArray[j]=w:=by
  have:a[j]?=some a[j]:=iW (by omega);rw[this] at y;simpa using y
 have E:b.toArray[j]=G:=by
  have:b[j]?=some b[j]:=iW (by omega);rw[this] at z;simpa using z
 rw[C,E];have B:qv l m j=D.eqb l[j] m[j]:=by unfold qv;rw[k,i]
 rw[B];have F:=D.dep_mem k;have o:=D.dep_mem i;exact F1 I (n-1) _ _ _ _ _ _ g h A.in1 (.inl (t.views k q)) (.inl (u.views i r)) J L (by omega) (by omega) (by show A.units+1+(n-1)<cLine;omega)
def Qn(I:Inv X c f H s)(hd:jq X.K H O d v)(he:jq X.K H O' e u)(ra:RelV v a)(rb:RelV u b)(M:d.dep<=n)(T:e.dep<20000)(hA:A.units+n<cLine):RcAt A s a b (D.eqb d e):=by
 have j:A.units<cLine:=by omega
 have B:=DP I hA;have W:cLine=9900:=rfl;have h1:=qA I hd ra (by omega);have G:=qA I he rb T
 cases h1 with
 |non=>
  cases G with
  |non=>exact RcAt.none_none
  |bl g=>exact RcAt.none_bool g
  |int g i=>exact RcAt.none_int g i
  |str g i=>exact RcAt.none_str g i
  |tup E o t h=>exact RcAt.none_tuple h j
  |lst E o t h=>exact RcAt.none_list h j
 |bl k=>
  cases G with
  |non=>exact RcAt.bool_none k
  |bl g=>exact RcAt.bool_bool k g
  |int g i=>exact RcAt.bool_int k g i
  |str g i=>exact RcAt.bool_str k g i
  |tup E o t h=>exact RcAt.bool_tuple k h j
  |lst E o t h=>exact RcAt.bool_list k h j
 |int k x=>
  cases G with
  |non=>exact RcAt.int_none k x
  |bl g=>exact RcAt.int_bool k x g
  |int g i=>exact RcAt.int_int k x g i
  |str g i=>exact RcAt.int_str k x g i
  |tup E o t h=>exact RcAt.int_tuple k x h j
  |lst E o t h=>exact RcAt.int_list k x h j
 |str k x=>
  cases G with
  |non=>exact RcAt.str_none k x
  |bl g=>exact RcAt.str_bool k x g
  |int g i=>exact RcAt.str_int k x g i
  |str g i=>exact RcAt.str_str k x g i
  |tup E o t h=>exact RcAt.str_tuple k x h j
  |lst E o t h=>exact RcAt.str_list k x h j
 | @tup l p U C q r J w=>
  cases G with
  |non=>exact RcAt.tuple_none w j
  |bl g=>exact RcAt.tuple_bool g w j
  |int g i=>exact RcAt.tuple_int g i w j
  |str g i=>exact RcAt.tuple_str g i w j
  | @tup m p2 Y L E o t h=>
   have N:D.depL l+1<=n:=by rw[D.dep] at M;exact M
   have Q:D.depL m<20000:=by rw[D.dep] at T;omega
   have P:=J.length;have R:=t.length;have S:=r.length;have V:=o.length;have z:=RcAt.tuples w h j (B l m U Y C L _ _ N Q r o J t);simp only[je] at z;rw[show C.length=l.length by omega,show L.length=m.length by omega,lZ] at z;rw[D.eqb];exact z
  |lst E o t h=>exact RcAt.tuple_list w h j
 | @lst l p U C q r J w=>
  cases G with
  |non=>exact RcAt.list_none w j
  |bl g=>exact RcAt.list_bool g w j
  |int g i=>exact RcAt.list_int g i w j
  |str g i=>exact RcAt.list_str g i w j
  |tup E o t h=>exact RcAt.list_tuple w h j
  | @lst m p2 Y L E o t h=>
   have N:D.depL l+1<=n:=by rw[D.dep] at M;exact M
   have Q:D.depL m<20000:=by rw[D.dep] at T;omega
   have P:=J.length;have R:=t.length;have S:=r.length;have V:=o.length;have F:=lZ l m;by_cases y:l.length=m.length
   ·have z:=RcAt.lists w h (by simp only[je];omega) j (B l m U Y C L _ _ N Q r o J t);simp only[je] at z;rw[show C.length=min l.length m.length by omega] at z;rw[D.eqb,<-F,y];rw[y] at z;simpa using z
   ·have z:=RcAt.lists_lengths w h (by simp only[je,bne_iff_ne,ne_eq];omega) j;rw[D.eqb,<-F];rw[show(l.length==m.length)=false by simpa using y];simpa using z
def Kq(I:Inv X c f H s)(hd:jq X.K H O d v)(he:jq X.K H O' e u)(ra:RelV v a)(rb:RelV u b)(M:d.dep<=n)(T:e.dep<20000)(hA:A.units+n<cLine):RcNeAt A s a b (!D.eqb d e):=by
 have j:A.units<cLine:=by omega
 have B:=DP I hA;have W:cLine=9900:=rfl;have h1:=qA I hd ra (by omega);have G:=qA I he rb T
 cases h1 with
 |non=>
  cases G with
  |non=>exact RcNeAt.none_none
  |bl g=>exact RcNeAt.none_bool g
  |int g i=>exact RcNeAt.none_int g i
  |str g i=>exact RcNeAt.none_str g i
  |tup E o t h=>exact RcNeAt.none_tuple h j
  |lst E o t h=>exact RcNeAt.none_list h j
 |bl k=>
  cases G with
  |non=>exact RcNeAt.bool_none k
  |bl g=>exact RcNeAt.bool_bool k g
  |int g i=>exact RcNeAt.bool_int k g i
  |str g i=>exact RcNeAt.bool_str k g i
  |tup E o t h=>exact RcNeAt.bool_tuple k h j
  |lst E o t h=>exact RcNeAt.bool_list k h j
 |int k x=>
  cases G with
  |non=>exact RcNeAt.int_none k x
  |bl g=>exact RcNeAt.int_bool k x g
  |int g i=>exact RcNeAt.int_int k x g i
  |str g i=>exact RcNeAt.int_str k x g i
  |tup E o t h=>exact RcNeAt.int_tuple k x h j
  |lst E o t h=>exact RcNeAt.int_list k x h j
 |str k x=>
  cases G with
  |non=>exact RcNeAt.str_none k x
  |bl g=>exact RcNeAt.str_bool k x g
  |int g i=>exact RcNeAt.str_int k x g i
  |str g i=>exact RcNeAt.str_str k x g i
  |tup E o t h=>exact RcNeAt.str_tuple k x h j
  |lst E o t h=>exact RcNeAt.str_list k x h j
 | @tup l p U C q r J w=>
  cases G with
  |non=>exact RcNeAt.tuple_none w j
  |bl g=>exact RcNeAt.tuple_bool g w j
  |int g i=>exact RcNeAt.tuple_int g i w j
  |str g i=>exact RcNeAt.tuple_str g i w j
  | @tup m p2 Y L E o t h=>
   have N:D.depL l+1<=n:=by rw[D.dep] at M;exact M
   have Q:D.depL m<20000:=by rw[D.dep] at T;omega
   have P:=J.length;have R:=t.length;have S:=r.length;have V:=o.length;have z:=RcNeAt.tuples w h j (B l m U Y C L _ _ N Q r o J t);simp only[je] at z;rw[show C.length=l.length by omega,show L.length=m.length by omega,lZ] at z;rw[D.eqb];exact z
  |lst E o t h=>exact RcNeAt.tuple_list w h j
 | @lst l p U C q r J w=>
  cases G with
  |non=>exact RcNeAt.list_none w j
  |bl g=>exact RcNeAt.list_bool g w j
  |int g i=>exact RcNeAt.list_int g i w j
  |str g i=>exact RcNeAt.list_str g i w j
  |tup E o t h=>exact RcNeAt.list_tuple w h j
  | @lst m p2 Y L E o t h=>
   have N:D.depL l+1<=n:=by rw[D.dep] at M;exact M
   have Q:D.depL m<20000:=by rw[D.dep] at T;omega
   have P:=J.length;have R:=t.length;have S:=r.length;have V:=o.length;have F:=lZ l m;by_cases y:l.length=m.length
   ·have z:=RcNeAt.lists w h (by simp only[je];omega) j (B l m U Y C L _ _ N Q r o J t);simp only[je] at z;rw[show C.length=min l.length m.length by omega] at z;rw[D.eqb,<-F,y];rw[y] at z;simpa using z
   ·have z:=RcNeAt.lists_lengths w h (by simp only[je,bne_iff_ne,ne_eq];omega) j;rw[D.eqb,<-F];rw[show(l.length==m.length)=false by simpa using y];simpa using z
def RM(j:X.A.units+60<cLine):OpR X (compareOp .Eq) (λx y H Q=> ∃O d e,jq X.K H O d x/\jq X.K H O e y/\(d.dep<=50/\e.dep<=50)/\Q (.bl (D.eqb d e)) H):=by
 intro c s f H x y v u Q I g i h;obtain⟨O,d,e,h1,a,b,q⟩:=h;exact Qn (A:=X.A) I h1 a g i b.1 (by omega) (by omega) _ _ _ _ ⟨.bl _,H,I,rfl,q⟩
def RI(j:X.A.units+60<cLine):OpR X (compareOp .NotEq) (λx y H Q=> ∃O d e,jq X.K H O d x/\jq X.K H O e y/\(d.dep<=50/\e.dep<=50)/\Q (.bl (!D.eqb d e)) H):=by
 intro c s f H x y v u Q I g i h;obtain⟨O,d,e,h1,a,b,q⟩:=h;exact Kq (A:=X.A) I h1 a g i b.1 (by omega) (by omega) _ _ _ _ ⟨.bl _,H,I,rfl,q⟩
end
def hV{e:Type}{c:Prop}[Decidable c]{a b:e}(h:(if c then some a else none)=some b):c/\a=b:=by
 split at h
 ·rename_i d;exact⟨d,js h⟩
 ·cases h
section
variable {X:Cx}{a:hG}{b:L2.St}{H:Hp}{s:gu}
end
def rD1(K:gK)(g:D->Option (D×Bool)):V->Hp->VK->Prop:=λx H Q=> ∃(O:AP') (d:D) (z:D×Bool),(∀p,¬Ow (H p)-> ¬O p)/\jq K H O d x/\g d=some z/\Gen K H O z Q
def rD(K:gK)(g:D->D->Option (D×Bool)):R2:=λx y H Q=> ∃(O:AP') (d e:D) (z:D×Bool),(∀p,¬Ow (H p)-> ¬O p)/\jq K H O d x/\jq K H O e y/\g d e=some z/\Gen K H O z Q
def rDn(K:gK)(g:List D->Option (D×Bool)):List V->Hp->VK->Prop:=λb H Q=> ∃(O:AP') (a:List D) (z:D×Bool),(∀p,¬Ow (H p)-> ¬O p)/\a.length=b.length/\(∀(j:Nat) d v,a[j]?=some d->b[j]?=some v->jq K H O d v)/\g a=some z/\Gen K H O z Q
section
variable {X:Cx}{e a b:gw}{c fb:FO}{fs:List FO}{k:Pos}
def px1(h:PE X e (tUn (rD1 X.K g) (tO X.K c))):PX X e (jg g c):=QN h λx z v H O Q np f d G=>⟨O,x,z,np,f,d,G⟩
def px2(h:PE X e (tOp (rD X.K g) (tO X.K c) (tO X.K fb))):PX X e (gy g c fb):=QM h λx y z v u H O Q np f i d G=>⟨O,x,y,z,np,f,i,d,G⟩
def pxn(h:PE X e (tCB (rDn X.K g) (tA X.K fs))):PX X e (gJ g fs):=Nf h λd z j H O Q np i hv f G=>⟨O,d,z,np,i,hv,f,G⟩
theorem gY{K H}{O:AP'}{i:Int}{v:V}(h:jq K H O (.int i) v):v= .int i:=h.elim (λh=>h.int) λ⟨_,_,h⟩=>h.elim
theorem By{K H}(h:jq K H O (.bl i) v):v= .bl i:=h.elim (λh=>h.bl) λ⟨_,_,h⟩=>h.elim
def tK{K H}(h:jq K H O (.str i) v):v= .str i:=h.elim (λh=>h.str) λ⟨_,_,h⟩=>h.elim
def CN{K H}(h:jq K H O .non v):v= .non:=h.elim (λh=>h.non) λ⟨_,_,h⟩=>h.elim
theorem Gen.str{K H}(g:Gen K H O (.str i,false) Q):Q (.str i) H:=g _ H (λ_ _ e=>e) Rep.mkStr
noncomputable def gI(f:Int->Int->Option D):D->D->Option (D×Bool)
 | .int i,.int j=>(f i j).map λz=>(z,false)
 |_,_=>none
def wX{f:Int->Int->Option D}{d e:D}{z:D×Bool}(h:gI f d e=some z): ∃i j y,d= .int i/\e= .int j/\f i j=some y/\z=(y,false):=by
 cases d with
 |int i=>
  cases e with
  |int j=>
   cases g:f i j with
   |none=>rw[gI,g] at h;cases h
   |some y=>rw[gI,g] at h;cases h;exact⟨i,j,y,rfl,rfl,g,rfl⟩
  |_=>cases h
 |_=>cases h
def qR{f:vK}{C:Int->Int->Prop}[∀i j,Decidable (C i j)]{g:Int->Int->Int}(q:OpR X f (rI C λi j=> .int (g i j))):OpR X f (rD X.K (gI λi j=>if C i j then some (.int (g i j)) else none)):=by
 intro l s A H x y v u Q I r t h;obtain⟨O,d,e,z,np,h1,m,p,G⟩:=h;obtain⟨i,j,w,rfl,rfl,o,rfl⟩:=wX p;obtain⟨n,rfl⟩:=hV o;exact q l s A H x y v u Q I r t ⟨i,j,gY h1,gY m,n,G.int⟩
def Dl{f:vK}{g:Int->Int->Int}(p:OpR X f (rI0 λi j=> .int (g i j))):OpR X f (rD X.K (gI λi j=>some (.int (g i j)))):=by
 intro l s t H x y v u Q I q r h;obtain⟨O,d,e,z,np,h1,m,o,G⟩:=h;obtain⟨i,j,w,rfl,rfl,n,rfl⟩:=wX o;cases n;exact p l s t H x y v u Q I q r ⟨i,j,gY h1,gY m,G.int⟩
instance(i j:Int):Decidable (CMul i j):=by unfold CMul;exact inferInstance
instance(i j:Int):Decidable (IQ i j):=by unfold IQ;exact inferInstance
instance(i j:Int):Decidable (qy i j):=by unfold qy;exact inferInstance
noncomputable def gSub:=gI λi j=>some (.int (i-j))
noncomputable def nD:=gI λi j=>if CMul i j then some (.int (i*j)) else none
noncomputable def LZ:=gI λi j=>if IQ i j then some (.int (i / j)) else none
noncomputable def zJ:=gI λi j=>if 0<j then some (.int (i%j)) else none
noncomputable def Cg:=gI λi j=>if qy i j then some (.int (i^j.toNat)) else none
def mm:OpR X (binaryOp .Sub) (rD X.K gSub):=Dl RE
def mn:OpR X (binaryOp .Mult) (rD X.K nD):=qR RK
def G5:OpR X (binaryOp .FloorDiv) (rD X.K LZ):=qR NN
def qQ:OpR X (binaryOp .Mod) (rD X.K zJ):=qR RL
def wR:OpR X (binaryOp .Pow) (rD X.K Cg):=qR RH
noncomputable def kD:D->D->Option (D×Bool)
 | .int i,.int j=>some (.int (i+j),false)
 | .str i,.str j=>if i.length+j.length<=sizeLine then some (.str (i++j),false) else none
 | .tup l,.tup m=>if l.length+m.length<=sizeLine then some (.tup (l++m),false) else none
 | .lst l,.lst m=>if l.length+m.length<=sizeLine then some (.lst (l++m),true) else none
 |_,_=>none
def iF:OpR X (binaryOp .Add) (rD X.K kD):=by
 intro o s σ H x y v u Q I M N h;obtain⟨O,d,e,z,np,h1,T,q,G⟩:=h
 cases d with
 |int i=>
  cases e with
  |int j=>cases q;exact RO o s σ H x y v u Q I M N ⟨i,j,gY h1,gY T,G.int⟩
  |_=>cases q
 |str i=>
  cases e with
  |str j=>
   obtain⟨V,rfl⟩:=hV q;exact Fv o s σ H x y v u Q I M N ⟨i,j,tK h1,tK T,V,G.str⟩
  |_=>cases q
 |tup l=>
  cases e with
  |tup m=>
   obtain⟨V,rfl⟩:=hV q;have k1:Rep X.K H O (.tup l) x:=h1.elim id λ⟨_,_,z⟩=>z.elim;have k2:Rep X.K H O (.tup m) y:=T.elim id λ⟨_,_,z⟩=>z.elim;obtain⟨U,xs,rfl,Y,J⟩:=k1.tup;obtain⟨E,ys,rfl,D,L⟩:=k2.tup;have l1:=J.length;have l2:=L.length;by_cases hx:xs=[]
   ·subst hx;have:l=[]:=by simpa using l1.symm
    subst this;cases M;cases N;obtain⟨g,P,S,_⟩:=I.tuple Y.sq;obtain⟨t,v2,W,_⟩:=I.tuple D.sq;have e1:g=[]:=by have:=P.length;simpa using this.symm
    subst e1;obtain⟨⟨R,dd,r,sl⟩,w,B,n,hd⟩:=id S;obtain⟨⟨cA,q9,data2,n6⟩,C,A,Z,f⟩:=id W;simp only at B hd A f;subst B hd A f
    refine Bk ⟨_,w,rfl⟩ ⟨_,C,rfl⟩ EJ EI EH EG (EF _ _)
     (tuple_addW0 U E #[] t.toArray n Z dd q9 sl n6 (by simp)) ⟨w,C,⟨.ref E,H,I,rfl,?_⟩⟩
    exact G _ H (λ_ _ e=>e) (by simpa using k2)
   ·refine NO o s σ H _ _ v u Q I M N ⟨U,E,xs,ys,rfl,rfl,Y.sq,D.sq,hx,by omega,λhy=>?_,λhy p hp=>?_⟩
    ·subst hy;have:m=[]:=by simpa using l2.symm
     subst this;exact G _ H (λ_ _ e=>e) (by simpa using k1)
    ·exact G.tup hp (np p (nOw hp)) (J.append L)
  |_=>cases q
 |lst l=>
  cases e with
  |lst m=>
   obtain⟨V,rfl⟩:=hV q;obtain⟨U,xs,rfl,Y,J⟩:=jD h1;obtain⟨E,ys,rfl,D,L⟩:=jD T;have l1:=J.length;have l2:=L.length;cases M;cases N;obtain⟨g,P,S,_⟩:=I.list Y;obtain⟨t,v2,W,_⟩:=I.list D;have e1:=P.length;have e2:=v2.length;obtain⟨⟨R,dd,r,sl⟩,w,B,n,hd⟩:=id S.isList;obtain⟨⟨cA,q9,data2,n6⟩,C,A,Z,f⟩:=id W.isList;simp only at B hd A f;subst B hd A f
   refine Bk ⟨_,w,rfl⟩ ⟨_,C,rfl⟩ noFill_list_add seq_list_add PySem.F.slot_list_add PySem.F.entry_list_add (PySem.F.args_list_add_2 _ _)
    (list_addW U E g.toArray t.toArray n Z dd q9 sl n6 (by simp only[je];omega)) ⟨w,C,?_⟩
   rw[show g.toArray++t.toArray=(g++t).toArray by simp];exact⟨.ref _,_,I.lnew (t':=s.toks) (P.append v2) (by rw[pO];omega),rfl,G.lst I.fresh (J.append L)⟩
  |_=>cases q
 |_=>cases q
noncomputable def gEq(d e:D):Option (D×Bool):=if d.dep<=50/\e.dep<=50 then some (.bl (D.eqb d e),false) else none
noncomputable def gNe(d e:D):Option (D×Bool):=if d.dep<=50/\e.dep<=50 then some (.bl (!D.eqb d e),false) else none
def nU(l:X.A.units+60<cLine):OpR X (compareOp .Eq) (rD X.K gEq):=by
 intro f s o H x y v u Q I m n h;obtain⟨O,d,e,z,np,h1,g,j,G⟩:=h;obtain⟨i,rfl⟩:=hV j;exact RM l f s o H x y v u Q I m n ⟨O,d,e,h1,g,i,G.bl⟩
def nS(l:X.A.units+60<cLine):OpR X (compareOp .NotEq) (rD X.K gNe):=by
 intro f s o H x y v u Q I m n h;obtain⟨O,d,e,z,np,h1,g,j,G⟩:=h;obtain⟨i,rfl⟩:=hV j;exact RI l f s o H x y v u Q I m n ⟨O,d,e,h1,g,i,G.bl⟩
def ie{d g:Type}{x:Option d}{f:d->g}{b:g}(h:x.map f=some b): ∃a,x=some a/\f a=b:=by
 cases x with
 |none=>cases h
 |some a=>exact⟨a,rfl,js h⟩
noncomputable def nC:D->Option (D×Bool)
 | .int i=>some (.int (-i),false)
 |_=>none
def MO:UnR X (unaryOp .USub) (rD1 X.K nC):=by
 intro f s l H x v Q I j h;obtain⟨O,d,z,np,h1,g,G⟩:=h
 cases d with
 |int i=>cases g;exact P6 f s l H x v Q I j ⟨i,gY h1,G.int⟩
 |_=>cases g
noncomputable def gIx:D->D->Option (D×Bool)
 | .tup l,.int i=>(atI l i).map λd=>(d,false)
 | .lst l,.int i=>(atI l i).map λd=>(d,false)
 |_,_=>none
def HE{K H}{O:AP'}{l:List D}{f:List V}{i:Int}{d:D}(r:RepL K H O l f)(h:atI l i=some d): ∃v,atI f i=some v/\Rep K H O d v:=by
 unfold atI at h ⊢;rw[r.length];obtain⟨j,h1,g⟩:=gh h;rw[h1];exact r.get g
def Pn:IxR X (rD X.K gIx):=by
 intro f slice g s J H x y v u Q I C E h B;obtain⟨O,d,e,z,np,h1,A,j,G⟩:=h
 cases d with
 |tup l=>
  cases e with
  |int i=>
   obtain⟨w,n,rfl⟩:=ie j;obtain⟨p,t,rfl,q,r⟩:=lb h1;obtain⟨o,hv,m⟩:=HE r n;exact R6 f slice g s J H _ _ v u Q I C E ⟨p,t,i,o,rfl,gY A,q,hv,G _ H (λ_ _ e=>e) m⟩ B
  |_=>cases j
 |lst l=>
  cases e with
  |int i=>
   obtain⟨w,n,rfl⟩:=ie j;obtain⟨p,t,rfl,q,r⟩:=jD h1;obtain⟨o,hv,m⟩:=HE r n;exact N7 f slice g s J H _ _ v u Q I C E ⟨p,t,i,o,rfl,gY A,q,hv,G _ H (λ_ _ e=>e) m⟩ B
  |_=>cases j
 |_=>cases j
def Q5(h:OpR X (binaryOp op) (rD X.K g))(d:PO X a c)(f:PO X b fb):PX X (.BinOp a op b k) (gy g c fb):=px2 (T8 h d f)
def Q4{d:CmpOp}{g:D->D->Option (D×Bool)}(j:OpR X (compareOp d) (rD X.K g))(f:PO X a c)(h:PO X b fb)(i:behindInMarks d b=false):PX X (.Compare a [d] [b] k) (gy g c fb):=px2 (ND j f h i)
def QV(d:PO X a c):PX X (.UnaryOp .USub a k) (jg nC c):=px1 (T7 MO d)
def T4(d:PO X a c)(f:PO X b fb)(g:uE b):PX X (.Subscript a b k) (gy gIx c fb):=px2 (Pe Pn d f g)
end
noncomputable def nq:List Opd->Option (List D)
 |[]=>some []
 | .val r::os=>(nq os).map (r.1:: ·)
 | .slot _::_=>none
noncomputable def jG(fs:List F):F:=λδ=>(jk (fs.map gn) δ).bind λp=>(nq p.1).bind λds=>if ds.length<=sizeLine then some ((.tup ds,false),p.2) else none
noncomputable def jH(fs:List F):F:=λδ=>(jk (fs.map gn) δ).bind λp=>(nq p.1).bind λa=>if a.length<=sizeLine then some ((.lst a,true),p.2) else none
section
variable {K:gK}{T n:AP'}{g:L2.St}{m e:Dn}{H f:Hp}{os:List Opd}{c:List V}
def Ops.rep(E:ER K H T g m)(B:Ops K T g m H os c e f n){j:Nat}{r:D×Bool}{v:V}(h1:os[j]?=some (.val r))(h:c[j]?=some v):Rep K f (λa=>OwnA g e a\/T a) r.1 v:=by
 obtain⟨d,b⟩:=r
 cases b with
 |false=>exact B.val j d v h1 h
 |true=>
  obtain⟨p,rfl,k,i,ok⟩:=B.tmp j d v h1 h;refine ok.rep (λz=>?_) λb _ z=>z;rcases z with z|z
  ·exact B.er.nT p z k
  ·exact(E.dom p z).ne i
theorem oR{O:AP'}: ∀{os:List Opd} {c:List V} {d:List D},nq os=some d->os.length=c.length->(∀(j:Nat) (r:D×Bool) (v:V),os[j]?=some (.val r)->c[j]?=some v->Rep K f O r.1 v)->RepL K f O d c
 |[],c,d,h,o,_=>by
  cases h;have:c=[]:=by simpa using o.symm
  subst this;exact RepL.nil
 | .slot i::os,c,d,h,_,_=>by cases h
 | .val r::os,c,d,h,o,k=>by
  obtain⟨l,h1,rfl⟩:=ie h
  cases c with
  |nil=>simp at o
  |cons v c=>exact RepL.cons (k 0 r v rfl rfl) (oR h1 (by simpa using o) λj p q a b=>k (j+1) p q (by simpa using a) (by simpa using b))
end
section
variable {X:Cx}{e a b:gw}{m:iO}{n fb:FO}{fs:List F}{c:Pos}
def Qz{x1}(h:PA X m (tA X.K (fs.map gn))):PX X (.Tuple m x1 c) (jG fs):=PX.imp (K0 h) λy H Q l=>by
 obtain⟨o,T,w,q,E,e,k⟩:=l;obtain⟨⟨os,d⟩,h1,e⟩:=gh e;obtain⟨u,g,e⟩:=gh e;obtain⟨i,e⟩:=hV e;obtain⟨rfl,rfl⟩:=sZ e;refine⟨o,T,os,d,E,h1,λx s t B=>?_⟩;have r:=oR g B.len λj r v a b=>B.rep E a b;exact⟨by rw[r.length];exact i,λp f=>(B.done k).tup f (B.np (nOw f)) r⟩
def QY(h:PA X m (tA X.K (fs.map gn))):PX X (.List m c) (jH fs):=PX.imp (Rz h) λy H Q l=>by
 obtain⟨o,T,w,q,E,e,k⟩:=l;obtain⟨⟨os,d⟩,h1,e⟩:=gh e;obtain⟨u,f,e⟩:=gh e;obtain⟨g,e⟩:=hV e;obtain⟨rfl,rfl⟩:=sZ e;refine⟨o,T,os,d,E,h1,λx s t B=>?_⟩;have r:=oR f B.len λj r v a b=>B.rep E a b;exact⟨by rw[r.length];exact g,λp i=>(B.done k).lst i r⟩
def G8{g:List D}{f:List V}{d:D}(h:g.length=f.length)(hd:g=[d]): ∃v,f=[v]:=by
 subst hd
 cases f with
 |nil=>simp at h
 |cons v r=>
  cases r with
  |nil=>exact⟨v,rfl⟩
  |cons _ _=>simp at h
noncomputable def g1(g:D->Option (D×Bool)):List D->Option (D×Bool)
 |[d]=>g d
 |_=>none
noncomputable def g2(g:D->D->Option (D×Bool)):List D->Option (D×Bool)
 |[d,e]=>g d e
 |_=>none
def nG{f:gz}{g:D->Option (D×Bool)}(h: ∀(i:hG) (s:gu) (j:L2.St) (H:Hp) (x:V) (u:gz) (Q:VK) (O:AP') (d:D) (z:D×Bool),Inv X i j H s->RelV x u->(∀p,¬Ow (H p)-> ¬O p)->jq X.K H O d x->g d=some z->Gen X.K H O z Q->
  wpAny (model X.prog X.w) X.A (call f [u]) (EP X i j Q) X.xe s):ju X f (rDn X.K (g1 g)):=by
 intro i s j H B y Q I r q;obtain⟨O,l,z,np,o,hv,k,G⟩:=q
 match l,k with
 |[d],k=>
  obtain⟨v,rfl⟩:=G8 o rfl;obtain⟨u,rfl,t⟩:=pP r;exact h i s j H v u Q O d z I t np (hv 0 d v rfl rfl) k G
def Mr{f:gz}{g:D->D->Option (D×Bool)}(h: ∀(i:hG) (s:gu) (k:L2.St) (H:Hp) (x y:V) (j:ik) (Q:VK) (O:AP') (d e:D) (z:D×Bool),Inv X i k H s->Vals [x,y] j->(∀p,¬Ow (H p)-> ¬O p)->jq X.K H O d x->jq X.K H O e y->g d e=some z->Gen X.K H O z Q->
  wpAny (model X.prog X.w) X.A (call f j) (EP X i k Q) X.xe s):ju X f (rDn X.K (g2 g)):=by
 intro i s k H u j Q I r t;obtain⟨O,o,z,np,q,hv,l,G⟩:=t
 match o,l,u,q with
 |[d,e],l,[x,y],_=>exact h i s k H x y j Q O d e z I r np (hv 0 d x rfl rfl) (hv 1 e y rfl rfl) l G
noncomputable def pT:D->Option (D×Bool)
 | .tup l=>some (.int l.length,false)
 | .lst l=>some (.int l.length,false)
 |_=>none
def ku:ju X (.builtin "len") (rDn X.K (g1 pT)):=nG λf s i H x u Q O d z I h np hd g G=>by
 cases d with
 |tup l=>
  cases g;obtain⟨p,xs,rfl,q,r⟩:=lb hd;refine uw f s i H [_] [u] Q I (.cons h .nil) ⟨p,xs,rfl,.inr q,?_⟩;rw[r.length];exact G.int
 |lst l=>
  cases g;obtain⟨p,xs,rfl,q,r⟩:=jD hd;refine uw f s i H [_] [u] Q I (.cons h .nil) ⟨p,xs,rfl,.inl q,?_⟩;rw[r.length];exact G.int
 |_=>cases g
noncomputable def pD:D->Option (D×Bool)
 | .int i=>some (.int (if i<0 then -i else i),false)
 |_=>none
def lz:ju X (.builtin "abs") (rDn X.K (g1 pD)):=nG λf s j H x u Q O d z I h np hd g G=>by
 cases d with
 |int i=>cases g;exact Mt f s j H [x] [u] Q I (.cons h .nil) ⟨i,by rw[gY hd],G.int⟩
 |_=>cases g
noncomputable def zK:D->Option (D×Bool)
 | .int i=>some (.int i,false)
 | .bl b=>some (.int (if b then 1 else 0),false)
 |_=>none
def rh:ju X (.type "int") (rDn X.K (g1 zK)):=nG λf s j H x u Q O d z I h np hd g G=>by
 cases d with
 |int i=>cases g;exact AH f s j H [x] [u] Q I (.cons h .nil) (.inl ⟨i,by rw[gY hd],G.int⟩)
 |bl i=>
  cases g;refine AH f s j H [x] [u] Q I (.cons h .nil) (.inr ⟨i,by rw[By hd],?_⟩);have:=G.int;cases i<;>exact this
 |_=>cases g
noncomputable def lr:D->Option (D×Bool)
 | .tup l=>some (.tup l,false)
 | .lst l=>some (.tup l,false)
 |_=>none
def jo:ju X (.type "tuple") (rDn X.K (g1 lr)):=nG λf s o H x u Q O d z I k np hd g G=>by
 cases d with
 |tup l=>
  cases g;have j:Rep X.K H O (.tup l) x:=hd.elim id λ⟨_,_,z⟩=>z.elim;obtain⟨p,h,rfl,q,r⟩:=j.tup;exact rX f s o H [_] [u] Q I (.cons k .nil) ⟨p,h,rfl,.inr ⟨q.sq,G _ H (λ_ _ e=>e) j⟩⟩
 |lst l=>
  cases g;obtain⟨p,h,rfl,q,r⟩:=jD hd;exact rX f s o H [_] [u] Q I (.cons k .nil) ⟨p,h,rfl,.inl ⟨q,λt i=>G.tup i (np t (nOw i)) r⟩⟩
 |_=>cases g
noncomputable def wd:D->Option (D×Bool)
 | .tup l=>some (.lst l,true)
 | .lst l=>some (.lst l,true)
 |_=>none
def sM:ju X (.type "list") (rDn X.K (g1 wd)):=nG λf s k H x u Q O d z I j np hd g G=>by
 cases d with
 |tup l=>
  cases g;obtain⟨p,i,rfl,q,r⟩:=lb hd;exact uv f s k H [_] [u] Q I (.cons j .nil) ⟨p,i,rfl,.inr q,λt h=>G.lst h r⟩
 |lst l=>
  cases g;obtain⟨p,i,rfl,q,r⟩:=jD hd;exact uv f s k H [_] [u] Q I (.cons j .nil) ⟨p,i,rfl,.inl q,λt h=>G.lst h r⟩
 |_=>cases g
end
abbrev FT:=Dn->Option (Bool×Dn)
def tT(K:gK)(f:FT):TT:=λe H Q=> ∃d T b a,ER K H T e d/\f d=some (b,a)/\ ∀c,Keep e d H a c->ER K c T e a->Q b c
def PTX(X:Cx)(e:gw)(f:FT):Prop:=PT X e (tT X.K f)
def PWX(X:Cx)(e:gw)(f:FT):Prop:=PW X e (tT X.K f)
noncomputable def asB:(D×Bool)×Dn->Option (Bool×Dn)
 |((.bl b,_),a)=>some (b,a)
 |_=>none
noncomputable def fT(f:F):FT:=λδ=>(f δ).bind asB
def zh(h:asB p=some q): ∃o,p=((.bl q.1,o),q.2):=by
 obtain⟨⟨d,o⟩,a⟩:=p
 cases d with
 |bl b=>cases h;exact⟨o,rfl⟩
 |_=>cases h
def OQ{K:gK}{f:F}{a:L2.St}{H:Hp}{Q:Bool->Hp->Prop}(h:tT K (fT f) a H Q):tF K f a H λx i=> ∃c,x= .bl c/\Q c i:=by
 obtain⟨l,T,b,m,E,e,k⟩:=h;obtain⟨p,h1,j⟩:=gh e;obtain⟨o,rfl⟩:=zh j;refine⟨l,T,_,_,E,h1,λv g P=>?_⟩;obtain⟨d,r⟩:=P.rep E;exact⟨b,r.bl,k g P.1 d⟩
section
variable {X:Cx}{e a b c:gw}{A:iO}{n m:FO}{f g:F}{l C:FT}{i:Pos}
def PT.imp'(h:PT X e t)(k: ∀j H Q,p j H Q->t j H Q):PT X e p:=λd s j H Q I o=>h d s j H Q I (k j H Q o)
def PW.imp'(h:PW X e t)(k: ∀j H Q,p j H Q->t j H Q):PW X e p:=λwh d s j H Q I o=>h wh d s j H Q I (k j H Q o)
def Nj(h:PX X e f)(j: ∀d,isTrue e X.env d=(do let v <-d;standAt e.pos;holding [v] (truthy v))):PTX X e (fT f):=PT.imp' (Rc h j) λo H Q k=>OQ k
def NQ{r:R2}{g:D->D->Option (D×Bool)}(N:SU X.K r g){t:L2.St}{H:Hp}{Q:VK}(O:tF X.K (gy g n m) t H Q):tOp r (tO X.K n) (tO X.K m) t H Q:=by
 obtain⟨Y,T,R,F,E,e,k⟩:=O;obtain⟨⟨o,d⟩,h1,e⟩:=gh e;obtain⟨⟨U,q⟩,G,e⟩:=gh e;obtain⟨x,I,e⟩:=gh e;obtain⟨y,J,e⟩:=gh e;obtain⟨z,L,e⟩:=gh e;obtain⟨rfl,rfl⟩:=gM e;refine⟨Y,T,o,d,E,h1,λv P h=>⟨d,zo T o v,U,q,h.er E,G,λu w s=>?_⟩⟩;have B:=Ops.cons E h (Ops.cons (h.er E) s (Ops.nil (s.er (h.er E))));exact N x y z v u w _ Q (λp M=>B.np M) (B.view (j:=0) rfl rfl I) (B.view (j:=1) rfl rfl J) L (B.done k)
def TZ{K:gK}{g:D->D->Option (D×Bool)}:SU K (rD K g) g:=λx y z v u H O Q np h j d G=>⟨O,x,y,z,np,h,j,d,G⟩
def Nl{d:CmpOp}{g:D->D->Option (D×Bool)}(o:OpR X (compareOp d) (rD X.K g))(h:PO X a n)(j:PO X b m)(k:behindInMarks d b=false):PTX X (.Compare a [d] [b] i) (fT (gy g n m)):=
 PT.imp' (Nm o h j k) λq H Q p=>NQ TZ (OQ p)
noncomputable def UB(f g:FT):FT:=λd=>(f d).bind λp=>if p.1=true then g p.2 else some (false,p.2)
noncomputable def yQ(f g:FT):FT:=λd=>(f d).bind λp=>if p.1=true then some (true,p.2) else g p.2
noncomputable def lT(f:FT):FT:=λd=>(f d).bind λp=>some (!p.1,p.2)
def Nh(d:PTX X a l):PWX X (.BoolOp .Or [a] i) l:=Q9 d
def Q8(u:PTX X a l)(v:PWX X (.BoolOp .Or (b::A) i) C):PWX X (.BoolOp .Or (a::b::A) i) (yQ l C):=PW.imp' (T6 u v) λy H Q w=>by
 obtain⟨x,T,c,h,E,e,k⟩:=w;obtain⟨⟨p,d⟩,h1,e⟩:=gh e;refine⟨x,T,p,d,E,h1,λr o j=>?_⟩
 cases p with
 |true=>
  rw[gF rfl] at e;rw[gF rfl];obtain⟨rfl,rfl⟩:=gM e;exact k r o j
 |false=>
  rw[hJ jT] at e;rw[hJ jT];exact⟨d,T,c,h,j,e,λs t q=>k s (o.trans t) q⟩
def Nk(j:PTX X a l):PTX X (.UnaryOp .Not a i) (lT l):=PT.imp' (Rg j) λr H Q o=>by
 obtain⟨p,T,c,q,E,e,k⟩:=o;obtain⟨⟨h,d⟩,h1,e⟩:=gh e;obtain⟨rfl,rfl⟩:=gM e;exact⟨p,T,h,d,E,h1,k⟩
noncomputable def zL(f g:F):F:=λd=>(f d).bind λp=>(asB p).bind λq=>if q.1=true then g q.2 else some ((.bl false,false),q.2)
noncomputable def fOr(f g:F):F:=λd=>(f d).bind λp=>(asB p).bind λq=>if q.1=true then some ((.bl true,false),q.2) else g q.2
noncomputable def DO(f:F):F:=λδ=>(f δ).bind λp=>(asB p).bind λq=>some ((.bl (!q.1),false),q.2)
theorem Post.pre{K:gK}{T:AP'}{h:L2.St}{δ δ1 δ2:Dn}{H j q:Hp}{r:D×Bool}{v:V}(k:Keep h δ H δ1 j)(P:Post K T h δ1 j r δ2 v q):Post K T h δ H r δ2 v q:=by
 refine⟨k.trans P.1,?_⟩;obtain⟨d,o⟩:=r
 cases o with
 |false=>exact P.2
 |true=>
  obtain⟨p,h1,s,t⟩:=P.2;refine⟨p,h1,?_,t⟩
  cases u:H p with
  |none=>rfl
  |some w=>exact absurd s (k.dm p (by rw[u];simp))
def Q6(y:PX X a f)(z:PX X (.BoolOp .And (b::A) i) g):PX X (.BoolOp .And (a::b::A) i) (zL f g):=PX.imp (RB y z) λJ H Q B=>by
 obtain⟨I,T,r,h,E,e,k⟩:=B;obtain⟨p,h1,e⟩:=gh e;obtain⟨⟨c,j⟩,x,d⟩:=gh e;obtain⟨o,rfl⟩:=zh x;refine⟨I,T,_,_,E,h1,λv s P=>?_⟩;obtain⟨q,G⟩:=P.rep E;refine⟨c,G.bl,?_⟩
 cases c with
 |true=>
  rw[gF rfl] at d;rw[gF rfl];exact⟨j,T,r,h,q,d,λw t u=>k w t (u.pre P.1)⟩
 |false=>
  rw[hJ jT] at d;rw[hJ jT];obtain⟨rfl,rfl⟩:=gM d;exact k _ s (Post.val P.1 q Rep.mkBl)
def Ng{op}(d:PX X a f):PX X (.BoolOp op [a] i) f:=Rw d
def QR(s:PX X a f):PX X (.UnaryOp .Not a i) (DO f):=PX.imp (Rx s) λz H Q t=>by
 obtain⟨w,T,r,x,E,e,k⟩:=t;obtain⟨p,h1,e⟩:=gh e;obtain⟨⟨c,y⟩,q,j⟩:=gh e;obtain⟨o,rfl⟩:=zh q;obtain⟨rfl,rfl⟩:=gM j;refine⟨w,T,_,_,E,h1,λv h P=>?_⟩;obtain⟨d,u⟩:=P.rep E;exact⟨c,u.bl,k _ h (Post.val P.1 d Rep.mkBl)⟩
noncomputable def fIf(t:FT)(f g:F):F:=λd=>(t d).bind λp=>if p.1=true then f p.2 else g p.2
def T5(u:PTX X c l)(s:PX X a f)(t:PX X b g):PX X (.IfExp c a b i) (fIf l f g):=PX.imp (K8 u s t) λz H Q v=>by
 obtain⟨x,T,r,h,E,e,k⟩:=v;obtain⟨⟨c,d⟩,h1,e⟩:=gh e;refine⟨x,T,c,d,E,h1,λy q p=>?_⟩
 cases c with
 |true=>rw[gF rfl] at e;rw[gF rfl];exact⟨d,T,r,h,p,e,λw j o=>k w j (o.pre q)⟩
 |false=>rw[hJ jT] at e;rw[hJ jT];exact⟨d,T,r,h,p,e,λw j o=>k w j (o.pre q)⟩
end
inductive Out where
 |nx(δ:Dn)|rt(r:D×Bool)(δ:Dn)|bk(δ:Dn)|ct(δ:Dn)
abbrev FS:=Dn->Option Out
structure SK(A:iK)(σ:L2.St)(δ:Dn)(H:Hp)(σ':L2.St)(δ':Dn)(H':Hp):Prop where
 kp: ∀a o,H a=some o-> ¬OwnA σ δ a->H' a=some o
 owi: ∀i a,OwnI σ' δ' i a->OwnI σ δ i a\/H a=none
 dm: ∀a,H a≠none->H' a≠none
 as: ∀i,¬A i->σ'[i]?=σ[i]?
structure FI(L:iK)(H0:Hp)(σ:L2.St)(δ:Dn)(H:Hp):Prop where
 ow: ∀i a,OwnI σ δ i a->L i\/H0 a=none
 dm: ∀a,H0 a≠none->H a≠none
def RV(K:gK)(T:AP')(f:Hp)(r:D×Bool)(c:L2.St)(b:Dn)(v:V)(e:Hp):Prop:=
 match r with
 |(d,false)=>ER K e T c b/\Rep K e (λa=>OwnA c b a\/T a) d v
 |(d,true)=> ∃p,v= .ref p/\f p=none/\ER K e (λa=>T a\/a=p) c b/\OwnOk K e (λa=>OwnA c b a\/T a\/a=p) d p
section
variable {A:iK}{c b l:L2.St}{δ δ1 δ2:Dn}{H j g m:Hp}{L:iK}{K:gK}{T:AP'}
def SK.refl:SK A c δ H c δ H:=⟨λ_ _ e _=>e,λ_ _ z=> .inl z,λ_ z=>z,λ_ _=>rfl⟩
def SK.ow(k:SK A c δ H b δ1 g)(a:gm)(h:OwnA b δ1 a):OwnA c δ a\/H a=none:=by
 obtain⟨i,d,h1,f⟩:=h;rcases k.owi i a ⟨d,h1,f⟩ with⟨e,n,o⟩|z
 ·exact .inl ⟨i,e,n,o⟩
 ·exact .inr z
theorem SK.trans(x:SK A c δ H b δ1 g)(y:SK A b δ1 g l δ2 m):SK A c δ H l δ2 m where
 kp:=λa o e n=>y.kp a o (x.kp a o e n) λz=>(x.ow a z).elim n λz=>by rw[z] at e;cases e
 owi:=λi a z=>(y.owi i a z).elim (x.owi i a) λz=> .inr (by
  cases h:H a with
  |none=>rfl
  |some o=>exact absurd z (x.dm a (by rw[h];simp)))
 dm:=λa z=>y.dm a (x.dm a z)
 as:=λi h=>(y.as i h).trans (x.as i h)
def Keep.sk(k:Keep c δ H δ1 g):SK A c δ H c δ1 g:=⟨k.kp,λi a z=> .inl (k.owi i a z),k.dm,λ_ _=>rfl⟩
def FI.step(f:FI L j c δ H)(k:SK A c δ H b δ1 g):FI L j b δ1 g where
 ow:=λi a z=>(k.owi i a z).elim (f.ow i a) λz=> .inr (by
  cases h:j a with
  |none=>rfl
  |some o=>exact absurd z (f.dm a (by rw[h];simp)))
 dm:=λa z=>k.dm a (f.dm a z)
def FI.fresh(f:FI L j c δ H)(a:H p=none):j p=none:=by
 cases h:j p with
 |none=>rfl
 |some o=>exact absurd a (f.dm p (by rw[h];simp))
end
def tS(K:gK)(A L:iK)(h:Hp)(f:FS):TS:=λD e H=> ∃d T g,ER K H T e d/\FI L h e d H/\f d=some g/\
 match g with
 | .nx b=> ∀a c,SK A e d H a b c->ER K c T a b->D.nx a c
 | .bk b=> ∀a c,SK A e d H a b c->ER K c T a b->D.bk a c
 | .ct b=> ∀a c,SK A e d H a b c->ER K c T a b->D.ct a c
 | .rt r b=> ∀v a c,SK A e d H a b c->RV K T h r a b v c->D.rt v c
def PSX(X:Cx)(A L:iK)(a:Hp)(st:Stmt)(f:FS):Prop:=PS X st (tS X.K A L a f)
def zT(X:Cx)(A L:iK)(a:Hp)(st:List Stmt)(f:FS):Prop:=PSs X st (tS X.K A L a f)
noncomputable def gX:FS:=λδ=>some (.nx δ)
noncomputable def gB(f g:FS):FS:=λδ=>(f δ).bind λo=>match o with
 | .nx δ1=>g δ1
 |o=>some o
noncomputable def oD(f:F):FS:=λa=>(f a).bind λp=>some (.nx p.2)
noncomputable def jf(f:F):FS:=λa=>(f a).bind λp=>some (.rt p.1 p.2)
noncomputable def qM(i:Nat):FS:=λa=>match a[i]? with
 |some (some (d,true))=>some (.rt (d,true) (a.set i none))
 |some (some (d,false))=>some (.rt (d,false) a)
 |_=>none
noncomputable def sIf(t:FT)(f g:FS):FS:=λa=>(t a).bind λp=>if p.1=true then f p.2 else g p.2
noncomputable def jx(i:Nat)(f:F):FS:=λδ=>(f δ).bind λp=>if i<p.2.length then some (.nx (p.2.set i (some p.1))) else none
section
variable {X:Cx}{A L:iK}{i:Hp}{st:Stmt}{l:List Stmt}{f g:FS}{m:F}{n:FT}{e c:gw}{j:Pos}
def PS.imp'(h:PS X st t)(k: ∀D b H,o D b H->t D b H):PS X st o:=λa s b H D I d=>h a s b H D I (k D b H d)
def PSs.imp'(h:PSs X l t)(k: ∀D b H,o D b H->t D b H):PSs X l o:=λa s b H D I d=>h a s b H D I (k D b H d)
def KC:zT X A L i [] gX:=PSs.imp' GS λD d H a=>by
 obtain⟨o,T,b,E,h,e,k⟩:=a;cases e;exact k d H .refl E
def HZ(h1:PSX X A L i st f)(x:zT X A L i l g):zT X A L i (st::l) (gB f g):=PSs.imp' (oE h1 x) λD I H z=>by
 obtain⟨B,T,t,E,u,e,k⟩:=z;obtain⟨o,y,e⟩:=gh e;refine⟨B,T,o,E,u,y,?_⟩
 cases o with
 |nx b=>
  intro C G s w;refine⟨b,T,t,w,u.step s,e,?_⟩
  cases t with
  |nx p=>exact λa d h q=>k a d (s.trans h) q
  |bk p=>exact λa d h q=>k a d (s.trans h) q
  |ct p=>exact λa d h q=>k a d (s.trans h) q
  |rt r p=>exact λv a d h R2=>k v a d (s.trans h) R2
 |rt r b=>cases e;exact k
 |bk b=>cases e;exact k
 |ct b=>cases e;exact k
def Ky(h:PX X e m)(d:swapsWith e none j.line X.env=pure false):PSX X A L i (.Expr e j) (oD m):=PS.imp' (GU h d) λD s H o=>by
 obtain⟨r,T,q,E,t,e,k⟩:=o;obtain⟨p,b,e⟩:=gh e;cases e;exact⟨r,T,p.1,p.2,E,b,λv a P=>k s a P.1.sk (P.rep E).1⟩
def Nq(h:PX X e m):PSX X A L i (.Return (some e) j) (jf m):=PS.imp' (KH h) λD y H t=>by
 obtain⟨w,T,u,E,r,e,k⟩:=t;obtain⟨p,a,e⟩:=gh e;cases e;refine⟨w,T,p.1,p.2,E,a,λv b P=>k v y b P.1.sk ?_⟩;obtain⟨⟨d,o⟩,x⟩:=p
 cases o with
 |false=>exact P.2
 |true=>
  obtain⟨q,h1,s,a⟩:=P.2;exact⟨q,h1,r.fresh s,a⟩
def Rh(M:PTX X c n)(I:zT X A L i a f)(J:zT X A L i b g):PSX X A L i (.If c a b j) (sIf n f g):=PS.imp' (Pb M I J) λD x H O=>by
 obtain⟨z,T,s,E,G,e,k⟩:=O;obtain⟨⟨c,o⟩,h1,e⟩:=gh e;refine⟨z,T,c,o,E,h1,λy C B=>?_⟩;have w:SK A x z H x o y:=C.sk
 have fin: ∀(h:FS),h o=some s->tS X.K A L i h D x y:=λh N=>by
  refine⟨o,T,s,B,G.step w,N,?_⟩
  cases s with
  |nx t=>exact λd p q u=>k d p (w.trans q) u
  |bk t=>exact λd p q u=>k d p (w.trans q) u
  |ct t=>exact λd p q u=>k d p (w.trans q) u
  |rt r t=>exact λv d p q R2=>k v d p (w.trans q) R2
 cases c with
 |true=>rw[gF rfl] at e;exact(show(if true=true then tS X.K A L i f D x y else _) from by rw[gF rfl];exact fin f e)
 |false=>rw[hJ jT] at e;exact(show(if false=true then _ else tS X.K A L i g D x y) from by rw[hJ jT];exact fin g e)
end
def kz{b:Type}{l:List b}{i j:Nat}{x y:b}(h:(l.set i x)[j]?=some y):(i=j/\i<l.length/\y=x)\/(i≠j/\l[j]?=some y):=by
 rw[xD] at h;split at h
 ·rename_i a;split at h
  ·rename_i c;exact .inl ⟨a,c,(js h).symm⟩
  ·cases h
 ·rename_i a;exact .inr ⟨a,h⟩
section
variable {K:gK}{T:AP'}{f:L2.St}{l c:Dn}{H g:Hp}{x:D×Bool}{v:V}{i:Nat}
def OwnI.store{j:Nat}{a:gm}(h:OwnI (f.set i (some v)) (l.set i (some x)) j a):(i≠j/\OwnI f l j a)\/(i=j/\x.2=true/\v= .ref a):=by
 obtain⟨d,h1,m⟩:=h;rcases kz h1 with⟨e,_,q⟩|⟨ne,q⟩
 ·rcases kz m with⟨_,_,k⟩|⟨b,_⟩
  ·right;cases q;exact⟨e,rfl,(js k).symm⟩
  ·exact absurd e b
 ·rcases kz m with⟨n,_,_⟩|⟨_,k⟩
  ·exact absurd n ne
  ·exact .inl ⟨ne,d,q,k⟩
def OwnA.store(h:OwnA (f.set i (some v)) (l.set i (some x)) a):OwnA f l a\/(x.2=true/\v= .ref a):=by
 obtain⟨j,d,h1,k⟩:=h;rcases OwnI.store ⟨d,h1,k⟩ with⟨_,e,b,m⟩|⟨_,b⟩
 ·exact .inl ⟨j,e,b,m⟩
 ·exact .inr b
def ER.store(h:ER K g (Tmp T x v) f c)(E:i<c.length)(u:match x with|(d,false)=>Rep K g (λa=>OwnA f c a\/T a) d v|(d,true)=> ∃p,v= .ref p/\ ¬T p/\OwnOk K g (λa=>OwnA f c a\/T a\/a=p) d p):
  ER K g T (f.set i (some v)) (c.set i (some x)):=by
 have r:i<f.length:=by rw[h.len];exact E
 have sub: ∀b,g b≠none->(OwnA (f.set i (some v)) (c.set i (some x)) b\/T b)->(OwnA f c b\/Tmp T x v b):=λb _ z=>by
  rcases z with z|z
  ·rcases z.store with z|z
   ·exact .inl z
   ·exact .inr (.inr z)
  ·exact .inr (.inl z)
 refine⟨by rw[rG,rG];exact h.len,λj d o=>?_,λj d o=>?_,λj k d e a o hk h1 n=>?_,λa z=>?_,λa z=>h.dom a (.inl z)⟩
 ·rcases kz o with⟨rfl,_,q⟩|⟨ne,q⟩
  ·have q:=js q;subst q
   exact⟨v,mv r,Rep.mono (λ_ _ e _=>e) (λb C z=>by
    rcases z with z|z
    ·rcases z.store with z|z
     ·exact .inl z
     ·exact absurd z.1 (by simp)
    ·exact .inr z) u⟩
  ·obtain⟨w,h1,n⟩:=h.val j d q;exact⟨w,by rw[mI ne];exact h1,Rep.mono (λ_ _ e _=>e) sub n⟩
 ·rcases kz o with⟨rfl,_,q⟩|⟨ne,q⟩
  ·have q:=js q;subst q;obtain⟨p,rfl,np,ok⟩:=u;refine⟨p,mv r,ok.mono (λ_ _ e _=>e) (λb C z=>?_) λ_ e=>e⟩;rcases z with z|z
   ·rcases z.store with z|z
    ·exact .inl z
    ·have:=z.2;cases this;exact .inr (.inr rfl)
   ·exact .inr (.inl z)
  ·obtain⟨a,h1,n⟩:=h.own j d q;exact⟨a,by rw[mI ne];exact h1,n.mono (λ_ _ e _=>e) sub λ_ e=>e⟩
 ·rcases OwnI.store ⟨d,o,h1⟩ with⟨I,y,g1,g2⟩|⟨B,g1,g2⟩
  ·rcases OwnI.store ⟨e,hk,n⟩ with⟨G,s,g3,m⟩|⟨A,g3,m⟩
   ·exact h.inj j k y s a g1 g3 g2 m
   ·exact absurd (Or.inr ⟨g3,m⟩) (h.nT a ⟨j,y,g1,g2⟩)
  ·rcases OwnI.store ⟨e,hk,n⟩ with⟨G,s,g3,m⟩|⟨A,g3,m⟩
   ·exact absurd (Or.inr ⟨g1,g2⟩) (h.nT a ⟨k,s,g3,m⟩)
   ·exact B.symm.trans A
 ·rcases z.store with z|z
  ·exact λt=>h.nT a z (.inl t)
  ·obtain⟨d,b⟩:=x
   cases b with
   |false=>exact absurd z.1 (by simp)
   |true=>
    obtain⟨p,rfl,np,_⟩:=u;have:=z.2;cases this;exact np
def SK.store(k:Keep f l H c g)(b:A i)(h:x.2=true-> ∀p,v= .ref p->H p=none):SK A f l H (f.set i (some v)) (c.set i (some x)) g where
 kp:=k.kp
 owi:=λj a z=>by
  rcases z.store with⟨_,z⟩|⟨_,m,n⟩
  ·exact .inl (k.owi j a z)
  ·exact .inr (h m a n)
 dm:=k.dm
 as:=λj d=>mI (λ(e:i=j)=>d (by subst e;exact b))
end
section
variable {X:Cx}{A L:iK}{m:Hp}{l:F}{e c:gw}{g f:Pos}
def qd{K:gK}{T:AP'}{b:L2.St}{n a:Dn}{H j:Hp}{r:D×Bool}{v:V}{i:Nat}(E:ER K H T b n)(P:Post K T b n H r a v j)(u:i<a.length)(t:A i):
  SK A b n H (b.set i (some v)) (a.set i (some r)) j/\ER K j T (b.set i (some v)) (a.set i (some r)):=by
 have w:r.2=true-> ∀p,v= .ref p->H p=none:=λh p hv=>by
  obtain⟨d,o⟩:=r
  cases o with
  |false=>cases h
  |true=>obtain⟨q,h1,k,_⟩:=P.2;rw[hv] at h1;cases h1;exact k
 refine⟨SK.store P.1 t w,ER.store (P.er E) u ?_⟩;obtain⟨d,o⟩:=r
 cases o with
 |false=>exact P.2.2
 |true=>
  obtain⟨p,rfl,k,x,s⟩:=P.2;exact⟨p,rfl,λz=>(E.dom p z).ne k,s⟩
def Np{i:Nat}{x:Str}(n:X.N.Nodup)(a:X.N[i]?=some x)(u:Loc X.env.scope x)(p:PX X e l)(s:swapsWith e (some (.Name x f)) g.line X.env=pure false)(q:X.fn x=true\/X.env.scope.names.lookup x=some .local)(o:A i):
  PSX X A L m (.Assign [.Name x f] e g) (jx i l):=PS.imp' (KG n a u p s q) λD B H t=>by
 obtain⟨y,T,w,E,z,e,k⟩:=t;obtain⟨⟨r,b⟩,j,e⟩:=gh e;obtain⟨a,rfl⟩:=hV e;refine⟨y,T,r,b,E,j,λv d P=>?_⟩;obtain⟨h1,h⟩:=qd (A:=A) E P a o;exact k _ d h1 h
def Fn{i:Nat}{x:Str}(Y:X.N[i]?=some x)(hv:Vis X.env.scope x)(hd:(x==("__debug__":Str))=false)(m8:(x==("__classdict__":Str))=false)(hl: ¬L i):PSX X A L m (.Return (some (.Name x f)) g) (qM i):=PS.imp' (KH (yt Y hv hd m8)) λD u H K=>by
 obtain⟨s,T,P,E,U,e,k⟩:=K;unfold qM at e
 cases o:s[i]? with
 |none=>rw[o] at e;cases e
 |some q=>
  cases q with
  |none=>rw[o] at e;cases e
  |some p=>
   obtain⟨d,b⟩:=p;have F:i<s.length:=(uG.mp o).1
   cases b with
   |false=>
    rw[o] at e;cases e;obtain⟨v,h1,C⟩:=E.val i d o;exact⟨v,h1,k v u H .refl ⟨E,C⟩⟩
   |true=>
    rw[o] at e;cases e;obtain⟨a,h1,C⟩:=E.own i d o
    have h: ∀j b,OwnI u (s.set i none) j b->i≠j/\OwnI u s j b:=λj b ⟨r,g1,g2⟩=>by
     rcases kz g1 with⟨_,_,q⟩|⟨ne,q⟩
     ·cases q
     ·exact⟨ne,r,q,g2⟩
    have n: ∀b,OwnA u (s.set i none) b->OwnA u s b/\b≠a:=λb ⟨j,r,g1,g2⟩=>by
     obtain⟨ne,B,g3,J⟩:=h j b ⟨r,g1,g2⟩;exact⟨⟨j,B,g3,J⟩,λz=>ne (by subst z;exact E.inj i j d B _ o g3 h1 J)⟩
    have M:OwnA u s a:=⟨i,d,o,h1⟩
    have sub: ∀b,H b≠none->(OwnA u (s.set i none) b\/(T b\/b=a))->(OwnA u s b\/T b):=λb _ z=>by
     rcases z with z|z|z
     ·exact .inl (n b z).1
     ·exact .inr z
     ·subst z;exact .inl M
    refine⟨.ref a,h1,k (.ref a) u H ⟨λ_ _ e _=>e,λj b z=> .inl (h j b z).2,λ_ z=>z,λ_ _=>rfl⟩ ⟨a,rfl,?_,?_,C.mono (λ_ _ e _=>e) sub λ_ e=>e⟩⟩
    ·rcases U.ow i a ⟨d,o,h1⟩ with z|z
     ·exact absurd z hl
     ·exact z
    ·refine⟨by rw[rG];exact E.len,λj r y=>?_,λj r y=>?_,λj k r Q b y hk g1 g2=>?_,λb z t=>?_,λb z=>?_⟩
     ·rcases kz y with⟨_,_,q⟩|⟨ne,q⟩
      ·cases q
      ·obtain⟨w,G,I⟩:=E.val j r q;exact⟨w,G,Rep.mono (λ_ _ e _=>e) sub I⟩
     ·rcases kz y with⟨_,_,q⟩|⟨ne,q⟩
      ·cases q
      ·obtain⟨w,G,I⟩:=E.own j r q;exact⟨w,G,I.mono (λ_ _ e _=>e) sub λ_ e=>e⟩
     ·obtain⟨_,B,R,S⟩:=h j b ⟨r,y,g1⟩;obtain⟨_,O,V,W⟩:=h k b ⟨Q,hk,g2⟩;exact E.inj j k B O b R V S W
     ·obtain⟨Z,z2⟩:=n b z;rcases t with t|t
      ·exact E.nT b Z t
      ·exact z2 t
     ·rcases z with z|z
      ·exact E.dom b z
      ·subst z;exact E.ownOw M
end
abbrev Tg:=D->Dn->Option Dn
def tG(K:gK)(A:iK)(g:Tg):TG:=λv f H Q=> ∃e T d b,ER K H T f e/\Rep K H (λa=>OwnA f e a\/T a) d v/\g d e=some b/\ ∀c,SK A f e H c b H->ER K H T c b->Q c H
def PGX(X:Cx)(A:iK)(e:gw)(a:Tg):Prop:=PG X e (tG X.K A a)
noncomputable def gx(i:Nat):Tg:=λd δ=>if i<δ.length then some (δ.set i (some (d,false))) else none
noncomputable def GA:List Tg->List D->Dn->Option Dn
 |[],[],a=>some a
 |t::b,d::ds,a=>(t d a).bind (GA b ds)
 |_,_,_=>none
noncomputable def ly(a:List Tg):Tg
 | .tup ds,δ=>GA a ds δ
 |_,_=>none
def tGs(K:gK)(A:iK)(g:List Tg):TGs:=λh e H Q=> ∃d T f b,ER K H T e d/\RepL K H (λa=>OwnA e d a\/T a) f h/\GA g f d=some b/\ ∀c,SK A e d H c b H->ER K H T c b->Q c H
section
variable {X:Cx}{A:iK}{g:Pos}{e:gw}{f:iO}{t:Tg}{c:List Tg}
def PG.imp'{t d:TG}(h:PG X e t)(k: ∀v b H Q,d v b H Q->t v b H Q):PG X e d:=λa s b H v u Q I r i=>h a s b H v u Q I r (k v b H Q i)
def PGs.imp'{t d:TGs}(h:PGs X f t)(k: ∀v b H Q,d v b H Q->t v b H Q):PGs X f d:=λa s b H v u Q I r i=>h a s b H v u Q I r (k v b H Q i)
def KU{i:Nat}{x:Str}(h:X.N.Nodup)(a:X.N[i]?=some x)(n:Loc X.env.scope x)(l:X.fn x=true\/X.env.scope.names.lookup x=some .local)(j:A i):PGX X A (.Name x g) (gx i):=PG.imp' (GY h a n l) λv q H Q m=>by
 obtain⟨p,T,d,o,E,r,e,k⟩:=m;obtain⟨a,rfl⟩:=hV e;obtain⟨h1,b⟩:=qd (A:=A) (r:=(d,false)) (v:=v) E (Post.val .refl E r) a j;exact k _ h1 b
def KW:PGs X [] (tGs X.K A []):=PGs.imp' NB λv h H Q b=>by
 obtain⟨i,T,a,d,E,r,e,k⟩:=b
 cases a with
 |nil=>
  cases e;rw[RepL] at r;exact⟨r,k h .refl E⟩
 |cons _ _=>cases e
def Ai(h1:PGX X A e t)(p:PGs X f (tGs X.K A c))(u:(assignEach (e::f) X.env).map (·.2)=assign e X.env::(assignEach f X.env).map (·.2)):PGs X (e::f) (tGs X.K A (t::c)):=PGs.imp' (KY h1 p u) λv J H Q w=>by
 obtain⟨G,T,h,i,E,r,e,k⟩:=w
 cases h with
 |nil=>cases e
 |cons d h=>
  rw[RepL] at r;obtain⟨B,C,rfl,x,y⟩:=r;obtain⟨a,q,e⟩:=gh e;refine⟨B,C,rfl,G,T,d,a,E,x,q,λI l m=>⟨a,T,h,i,m,?_,e,λj o n=>k j (l.trans o) n⟩⟩;exact RepL.mono (λ_ _ e _=>e) (λb s z=>z.elim (λz=>(l.ow b z).elim Or.inl λz=>absurd z s) Or.inr) y
def NA{k:Nat}(o:X.calm=true)(h:PGs X f (tGs X.K A c)){n:Nat}(s:(assignEach f X.env).length=n)(p:c.length=n)(x:(assignEach f X.env).findIdx? (·.1)=none):PGX X A (.Tuple f k g) (ly c):=PG.imp' (Ru o h s x) λv z H Q u=>by
 obtain⟨i,T,d,j,E,r,e,k⟩:=u
 cases d with
 |tup b=>
  obtain⟨a,y,rfl,q,m⟩:=r.tup;refine⟨a,y,rfl,q.sq,?_,i,T,b,j,E,m,e,k⟩
  have: ∀(c:List Tg) (b:List D) (i:Dn),GA c b i=some j->b.length=c.length:=by
   intro c
   induction c with
   |nil=>intro b i h;cases b with|nil=>rfl|cons _ _=>cases h
   |cons t c w=>
    intro b i h
    cases b with
    |nil=>cases h
    |cons d b=>obtain⟨l,_,h⟩:=gh h;simp[w b l h]
  rw[m.length,this c b i e,p]
 |_=>cases e
end
abbrev SB:=Nat->Prop
def OwB(B:SB)(T:AP')(c:L2.St)(b:Dn):AP':=λa=>(∃i,¬B i/\OwnI c b i a)\/T a
def OwB.own(h:OwB B T σ δ a):OwnA σ δ a\/T a:=h.imp (λ⟨i,_,d,h1,b⟩=>⟨i,d,h1,b⟩) id
structure ItOk(K:gK)(J:It)(ds:List D)(P O:AP')(H1:Hp):Prop where
 go: ∀(i:Nat) d Hi,ds[i]?=some d->(∀a o,H1 a=some o-> ¬P a->Hi a=some o)->J.go i Hi/\ ∀x H',J.yld i Hi x H'->(∀a o,Hi a=some o->H' a=some o)/\
  ∀O':AP',(∀b,H1 b≠none->O' b->O b)->(∀b,Hi b=none-> ¬O' b)->Rep K H' O' d x
 stop: ∀(i:Nat) Hi,ds.length<=i->(∀a o,H1 a=some o-> ¬P a->Hi a=some o)->J.stop i Hi
abbrev FIt:=Dn->Option (List D×Dn)
def tI(K:gK)(B:SB)(g:FIt):TI:=λc H R=> ∃e T f b,ER K H T c e/\g e=some (f,b)/\ ∀J d,Keep c e H b d->ER K d T c b->ItOk K J f (OwB B T c b) (λa=>OwnA c b a\/T a) d->R J d
def PIX(X:Cx)(B:SB)(tg iter:gw)(a:FIt):Prop:=PI X tg iter (tI X.K B a)
noncomputable def rL:D->Option (List D)
 | .tup l=>some l
 | .lst l=>some l
 |_=>none
noncomputable def yG(f:FO):FIt:=λa=>(f a).bind λp=>(res p.2 p.1).bind λd=>(rL d).bind λl=>some (l,p.2)
noncomputable def jP(f:F):FIt:=λδ=>(f δ).bind λp=>match p.1.1 with
 | .lst l=>some (l,p.2)
 | .tup l=>some (l,p.2)
 |_=>none
noncomputable def ig(lo:Int)(n:Nat):List D:=(List.range n).map λ(k:Nat)=> .int (lo+k)
noncomputable def sA(f:FO):FIt:=λδ=>(jk [f] δ).bind λp=>match si p.2 p.1 with
 |some [.int j]=>if -(2^62)<=j/\j<2^62 then some (ig 0 j.toNat,p.2) else none
 |_=>none
def SlB(B:SB)(f:FO):Prop:= ∀b i a,f b=some (.slot i,a)->B i
def BI:SlB B (gn f):=λb i a h=>by
 obtain⟨p,_,h⟩:=gh h;cases h
def BH(h:B i):SlB B (gk i):=λb j a e=>by
 unfold gk at e;split at e<;>cases e
 exact h
noncomputable def isL:D->Bool
 | .lst _=>true
 |_=>false
def SqA(b:Bool)(K:gK)(H:Hp)(P:AP')(a:gm)(c:List V):Prop:=if b=true then SqLO K H P a c else SqTO K H P a c
def SqA.mono{K H c}{P P':AP'}(q:SqA b K H P a xs)(k: ∀b o,H b=some o-> ¬P b->c b=some o)(d: ∀b,P' b->P b):SqA b K c P' a xs:=by
 cases b with
 |true=>exact SqLO.mono q k λb _=>d b
 |false=>exact SqTO.mono (K:=K) q k λb _=>d b
theorem SqA.l{K H}(q:SqA true K H P a xs):SqL K H a xs:=SqLO.sq q
theorem SqA.t{K H}(q:SqA false K H P a xs):SqT K H a xs:=SqTO.sq (K:=K) q
def Ad{K H}(h:rL d=some l)(r:Rep K H O d v): ∃a b,v= .ref a/\SqA (isL d) K H O a b/\RepL K H O l b:=by
 cases d with
 |tup m=>cases h;obtain⟨a,b,rfl,q,c⟩:=r.tup;exact⟨a,b,rfl,q,c⟩
 |lst m=>cases h;obtain⟨a,b,rfl,q,c⟩:=r.lst;exact⟨a,b,rfl,q,c⟩
 |_=>cases h
def Ops.seq{K:gK}{T C:AP'}{h:L2.St}{A c:Dn}{H n:Hp}{os:List Opd}{y:List V}(E:ER K H T h A)(W:Ops K T h A H os y c n C){j:Nat}(h1:os[j]?=some o)(x:y[j]?=some v)(s:res c o=some d)(t:rL d=some l)(I: ∀i,o= .slot i->B i):
  ∃a g,v= .ref a/\SqA (isL d) K n (OwB B T h c) a g/\RepL K n (λa=>OwnA h c a\/T a) l g:=by
 have fin:Rep K n (λa=>OwnA h c a\/T a) d v-> ∃a g,v= .ref a/\SqA (isL d) K n (OwB B T h c) a g/\RepL K n (λa=>OwnA h c a\/T a) l g:=λr=>by
  obtain⟨a,g,rfl,q,u⟩:=Ad t r;exact⟨a,g,rfl,q.mono (λ_ _ e _=>e) λa z=>z.own,u⟩
 cases o with
 |val r=>cases s;exact fin (W.rep E h1 x)
 |slot i=>
  have hk:=W.slt j i _ h1 x
  have hd: ∃f,c[i]?=some (some (d,f)):=by
   unfold res at s;dsimp only at s;split at s<;>cases s
   exact⟨_,by assumption⟩
  obtain⟨f,hd⟩:=hd
  cases f with
  |false=>
   obtain⟨w,p,G⟩:=W.er.val i _ hd;rw[hk] at p;cases p;exact fin (Rep.mono (λ_ _ e _=>e) (λb _ z=>z.imp id (W.tt b)) G)
  |true=>
   obtain⟨a,p,ok⟩:=W.er.own i _ hd;rw[hk] at p;cases p
   cases d with
   |lst m=>
    cases t;obtain⟨g,e,u⟩:=ok;exact⟨a,g,rfl,.inl ⟨.inl e,λz=>z.elim (λ⟨k,J,L,g1,g2⟩=>J (W.er.inj i k _ _ a hd g1 hk g2▸I i rfl)) λz=>W.er.nT a ⟨i,_,hd,hk⟩ (W.tt a z)⟩,RepL.mono (λ_ _ e _=>e) (λb _ z=>z.imp id (W.tt b)) u⟩
   |tup m=>exact ok.elim
   |_=>cases t
section
variable {X:Cx}{B:SB}{tg e:gw}{f:F}{c:FO}{g p:Pos}
def PI.imp'(h:PI X tg e t)(k: ∀b H R,i b H R->t b H R):PI X tg e i:=λa s b H R I d=>h a s b H R I (k b H R d)
def PI.or(h:PI X tg e t)(d:PI X tg e j):PI X tg e (λb H R=>t b H R\/j b H R):=λa s b H R I i=>i.elim (h a s b H R I) (d a s b H R I)
noncomputable def ItS(b:Bool)(K:gK)(a:gm):It:=if b=true then Itl K a else Itt K a
def LN{K:gK}{P O:AP'}{m:Hp}{a:gm}{k:List V}{l:List D}(q:SqA b K m P a k)(r:RepL K m O l k)(v: ∀a,P a->O a):ItOk K (ItS b K a) l P O m:=by
 cases b<;>(
  refine⟨λi d Hi hd j=>?_,λi Hi w j=>?_⟩
  ·have h:=SqA.mono q j λ_ z=>z
   first|replace h:=h.l|replace h:=h.t
   obtain⟨x,u,A⟩:=r.get hd;refine⟨⟨k,x,h,u⟩,λy C s=>?_⟩;obtain⟨rfl,s⟩:=s;have:=s k h;rw[u] at this;cases this;exact⟨λ_ _ e=>e,λE h1 G=>Rep.mono (λb o e n=>j b o e λz=>n (v b z)) h1 A⟩
  ·exact⟨k,by first|exact(SqA.mono q j λ_ z=>z).l|exact(SqA.mono q j λ_ z=>z).t,by rw[r.length];exact w⟩)
def yH{K:gK}{P O:AP'}{b:Hp}(lo:Int)(n:Nat):ItOk K (Itr lo n) (ig lo n) P O b:=by
 refine⟨λi d Hi hd j=>?_,λi Hi a j=>?_⟩
 ·unfold ig at hd;rw[jL] at hd;obtain⟨k,h1,h⟩:=ie hd;have a:i<n:=by have:=(uG.mp h1).1;simpa using this
  have hk:k=i:=by rw[List.getElem?_range a] at h1;exact(js h1).symm
  subst hk;refine⟨a,λy m l=>?_⟩;obtain⟨rfl,rfl⟩:=l;refine⟨λ_ _ e=>e,λo _ _=>?_⟩;rw[<-h];exact Rep.mkInt
 ·unfold ig at a;have:n<=i:=by simpa using a
  exact this
def Dh(h:PO X e c)(G:SlB B c):PIX X B tg e (yG c):=PI.imp' (PI.or (Nz (tg:=tg) h) (Rt h)) λA H R J=>by
 obtain⟨x,T,N,M,E,e,k⟩:=J;obtain⟨⟨o,w⟩,h1,e⟩:=gh e;obtain⟨d,C,e⟩:=gh e;obtain⟨l,y,e⟩:=gh e;obtain⟨rfl,rfl⟩:=gM e
 have u: ∀v n,PostO X.K T A x H o w v n-> ∃a s,v= .ref a/\SqA (isL d) X.K n (OwB B T A w) a s/\R (ItS (isL d) X.K a) n:=λv n P=>by
  have W:=Ops.cons E P (Ops.nil (P.er E));obtain⟨a,s,rfl,q,L⟩:=W.seq E (j:=0) rfl rfl C y λi I=>G _ _ _ (I▸h1);exact⟨a,s,rfl,q,k _ n W.keep (W.er.mono (λ_ _ e _=>e) (λb _ z=>W.tt b z) (λa z=>W.er.dom a (W.tt a z))) (LN q L λa z=>z.own)⟩
 cases d with
 |lst m=>exact .inl ⟨x,T,_,_,E,h1,λv n P=>let⟨a,s,e,q,r⟩:=u v n P;⟨a,e,⟨s,q.l⟩,r⟩⟩
 |tup m=>exact .inr ⟨x,T,_,_,E,h1,λv n P=>let⟨a,s,e,q,r⟩:=u v n P;⟨a,e,⟨s,q.t⟩,r⟩⟩
 |_=>cases y
def Nw(h:PX X e f):PIX X B tg e (jP f):=PI.imp' (Dh (B:=B) (PX.po h) BI) λj H R a=>by
 have:jP f=yG (gn f):=funext λb=>by
  unfold jP yG gn
  cases f b with
  |none=>rfl
  |some p=>obtain⟨⟨d,o⟩,i⟩:=p;cases d<;>rfl
 rwa [this] at a
end
noncomputable def uj(tg:Tg)(fb:FS):List D->FS
 |[],b=>some (.nx b)
 |d::ds,b=>(tg d b).bind λc=>(fb c).bind λo=>match o with
  | .nx a=>uj tg fb ds a
  | .ct a=>uj tg fb ds a
  | .bk a=>some (.nx a)
  | .rt r a=>some (.rt r a)
noncomputable def sh(b:FIt)(c:Tg)(a:FS):FS:=λd=>(b d).bind λp=>uj c a p.1 p.2
section
variable {X:Cx}{A L:iK}{l:Hp}{g iter:gw}{c:List Stmt}{j:FIt}{t:Tg}{f:FS}{h:Pos}
def Nt(hp:PassesOwn (model X.prog X.w) X.A X.env X.xe)(hc:X.calm=true)(hi:PIX X (λ_=>False) g iter j)(hg:PGX X A g t)(N:zT X A L l c f)(hs: ∀x,foldedSetIterable iter X.env x=pure x):
  PSX X A L l (.For g iter c [] h) (sh j t f):=PS.imp' (Rl hp hc hi hg N hs) λD O H hw=>by
 obtain⟨δ,T,R,E,fQ,e,k⟩:=hw;obtain⟨⟨u,q⟩,h1,e⟩:=gh e;refine⟨δ,T,u,q,E,h1,λJ Y K1 E1 ok=>?_⟩;have V:SK A O δ H O q Y:=K1.sk;refine⟨λi m s C=>m=u.length-i/\i<=u.length/\ ∃p,SK A O q Y s p C/\ER X.K C T s p/\uj t f (u.drop i) p=some R,⟨u.length,by simp,mF _,q,.refl,E1,by simpa using e⟩,?_⟩;rintro i m I H2 ⟨rfl,hle,G,S2,Q,e2⟩;have ao: ∀a o,Y a=some o-> ¬OwB (λ_=>False) T O q a->H2 a=some o:=λa o ea n=>S2.kp a o ea λ⟨i,d,z⟩=>n (.inl ⟨i,id,d,z⟩);by_cases Z:i<u.length
 ·refine .inr ?_;have hd:u[i]?=some u[i]:=iW Z;obtain⟨go,yl⟩:=ok.go i _ H2 hd ao;rw[uQ Z] at e2;obtain⟨S,h3,e3⟩:=gh e2;obtain⟨o,h4,W⟩:=gh e3;refine⟨go,λs C=> ∃p,SK A O q Y s p C/\ER X.K C T s p/\uj t f (u.drop (i+1)) p=some R,λs C ⟨p,q1,q2,q3⟩=>⟨u.length-(i+1),by omega,rfl,Z,p,q1,q2,q3⟩,λx C hy=>?_⟩;obtain⟨ext,rep⟩:=yl x C hy;have et:ER X.K C T I G:=Q.mono (λb ob eb _=>ext b ob eb) (λ_ _ z=>z) (λa z=>(Q.dom a z).up (ext a));have fY:SK A O q Y I G C:=S2.trans (Keep.ext ext).sk;have rx:=rep (λa=>OwnA I G a\/T a) (λb N z=>z.elim (λz=>(S2.ow b z).elim Or.inl λz=>absurd z N) Or.inr) (λb N z=>z.elim (λz=>Q.ownDom z N) λz=>(Q.dom b z).ne N);refine⟨G,T,u[i],S,et,rx,h3,λσ3 S3 E3=>?_⟩;have P:=fY.trans S3;refine⟨S,T,o,E3,(fQ.step V).step P,h4,?_⟩
  cases o with
  |nx y=>exact λB F M U=>⟨y,P.trans M,U,W⟩
  |ct y=>exact λB F M U=>⟨y,P.trans M,U,W⟩
  |bk y=>cases W;exact λB F M U=>k B F (V.trans (P.trans M)) U
  |rt r y=>cases W;exact λv B F M R4=>k v B F (V.trans (P.trans M)) R4
 ·refine .inl ⟨ok.stop i H2 (by omega) ao,?_⟩;rw[xy (by omega)] at e2;cases e2;exact k I H2 (V.trans S2) Q
end
noncomputable def lX(b:FT)(a:FS):Nat->FS
 |0,_=>none
 |n+1,c=>(b c).bind λp=>if p.1=true then(a p.2).bind λo=>(match o with
   | .nx δ2=>lX b a n δ2
   | .ct δ2=>lX b a n δ2
   | .bk δ2=>some (.nx δ2)
   | .rt r δ2=>some (.rt r δ2)) else some (.nx p.2)
noncomputable def FQ(f g:FO):FIt:=λδ=>(jk [f,g] δ).bind λp=>match si p.2 p.1 with
 |some [.int i,.int j]=>if -(2^62)<=i/\i<2^62/\ -(2^62)<=j/\j<2^62 then some (ig i (j-i).toNat,p.2) else none
 |_=>none
section
variable {X:Cx}{A L:iK}{C:Hp}{B:SB}{t e c a b:gw}{d:List Stmt}{g:FT}{l:FS}{s u:FO}{f p:Pos}
def HW{n:Nat}(hp:PassesOwn (model X.prog X.w) X.A X.env X.xe)(hc:PTX X c g)(hb:zT X A L C d l):PSX X A L C (.While c d [] f) (lX g l n):=PS.imp' (KD hp hc hb) λD F H hw=>by
 obtain⟨Y,T,N,E,Z,e,k⟩:=hw;refine⟨λm i G=> ∃h,SK A F Y H i h G/\ER X.K G T i h/\lX g l m h=some N,⟨n,Y,.refl,E,e⟩,?_⟩;rintro m O H2 ⟨δ2,S2,E2,e2⟩
 cases m with
 |zero=>cases e2
 |succ m=>
  obtain⟨⟨S,z⟩,h3,Q⟩:=gh e2;refine⟨δ2,T,S,z,E2,h3,λR V P=>?_⟩;have I:SK A F Y H O z R:=S2.trans V.sk
  cases S with
  |false=>
   rw[hJ jT] at Q;cases Q;exact R9 (k O R I P)
  |true=>
   rw[gF rfl] at Q;obtain⟨o,h4,U⟩:=gh Q;refine R8 ⟨λi G=> ∃h,SK A F Y H i h G/\ER X.K G T i h/\lX g l m h=some N,λi G q=>⟨m,uP _,q⟩,z,T,o,P,Z.step I,h4,?_⟩
   cases o with
   |nx j=>exact λx M y J=>⟨j,I.trans y,J,U⟩
   |ct j=>exact λx M y J=>⟨j,I.trans y,J,U⟩
   |bk j=>cases U;exact λx M y J=>k x M (I.trans y) J
   |rt r j=>cases U;exact λv x M y W=>k v x M (I.trans y) W
theorem qB{K:gK}{T v:AP'}{E:L2.St}{z m:Dn}{H r:Hp}{os:List Opd}{k:List V}{n:List D}(B:Ops K T E z H os k m r v)(h:si m os=some n){j:Nat}{i:Int}(hd:n[j]?=some (.int i)):k[j]?=some (.int i):=by
 obtain⟨h1,w⟩:=my h;obtain⟨o,q,x⟩:=w j _ hd;have y:j<k.length:=by have:=(uG.mp q).1;have:=B.len;omega
 have hv:k[j]?=some k[j]:=iW y;have:=gY (B.view q hv x);rw[hv,this]
def Ft(y:Gl X "range")(I:X.mg "range"=none)(x:PA X [a] (tA X.K [s]))(J:starEach [a] X.env=[(false,eval a X.env)]):PIX X B t (.Call (.Name "range" p) [a] [] f) (sA s):=PI.imp' (Ig y I x J) λY H R M=>by
 obtain⟨N,T,U,O,E,e,k⟩:=M;obtain⟨⟨os,i⟩,h1,e⟩:=gh e;refine⟨N,T,os,i,E,h1,λn o Q B=>?_⟩;dsimp only at e;split at e
 ·rename_i j m;obtain⟨⟨q,w⟩,e⟩:=hV e;obtain⟨rfl,rfl⟩:=sZ e;have hv:=qB B m (j:=0) rfl;obtain⟨G,_⟩:=my m
  have:n=[.int j]:=by
   have h:=B.len
   cases n with
   |nil=>simp at hv
   |cons v r=>
    cases r with
    |nil=>simp at hv;rw[hv]
    |cons _ _=>simp at G h;omega
  exact⟨j,this,q,w,k _ o B.keep (B.er.mono (λ_ _ e _=>e) (λb _ z=>B.tt b z) (λa z=>B.er.dom a (B.tt a z))) (yH 0 j.toNat)⟩
 ·cases e
def Fs(I:Gl X "range")(M:X.mg "range"=none)(G:PA X [a,b] (tA X.K [s,u]))(N:starEach [a,b] X.env=[(false,eval a X.env),(false,eval b X.env)])(Q:starEach [b] X.env=[(false,eval b X.env)]):PIX X B t (.Call (.Name "range" p) [a,b] [] f) (FQ s u):=PI.imp' (Ie I M G N Q) λP H R O=>by
 obtain⟨U,T,F,Y,E,e,k⟩:=O;obtain⟨⟨os,o⟩,h1,e⟩:=gh e;refine⟨U,T,os,o,E,h1,λq v D B=>?_⟩;dsimp only at e;split at e
 ·rename_i i j n;obtain⟨w,e⟩:=hV e;obtain⟨rfl,rfl⟩:=sZ e;have hv:=qB B n (j:=0) rfl;have m:=qB B n (j:=1) rfl;obtain⟨J,_⟩:=my n
  have:q=[.int i,.int j]:=by
   have h:=B.len
   match q,hv,m with
   |[x,y],hv,m=>simp at hv m;rw[hv,m]
   |x::y::z::r,_,_=>simp at J h;omega
  exact⟨i,j,this,w,k _ v B.keep (B.er.mono (λ_ _ e _=>e) (λb _ z=>B.tt b z) (λa z=>B.er.dom a (B.tt a z))) (yH i (j-i).toNat)⟩
 ·cases e
end
abbrev EvF:=List (D×Bool)->Option ((D×Bool)×Dn)
def spF(K:gK)(e:EvF):Sp:=λd H Q _=> ∃T a r b,ER K H T (d.map some) (a.map some)/\e a=some (r,b)/\ ∀v c,Post K T (d.map some) (a.map some) H r b v c->Q v c
noncomputable def gZ(a:List (D×Bool))(δ:Dn):Dn:=a.zipIdx.map λp=>if p.1.2=true then(δ[p.2]?).join else some p.1
noncomputable def evF(n np:Nat)(asg:iI)(f:FS):EvF:=λa=>
 if a.length=np/\np<=n/\(a.zipIdx.all λp=>!(p.1.2&&asg.contains p.2))=true then
  match f (a.map some++List.replicate (n-np) none) with
  |some (.rt r δ)=>some (r,gZ a δ)
  |some (.nx δ)=>some ((.non,false),gZ a δ)
  |_=>none
 else none
theorem Lf(a:List (D×Bool))(b:Dn)(i:Nat):(gZ a b)[i]?=a[i]?.map λx=>if x.2=true then(b[i]?).join else some x:=by
 unfold gZ;rw[jL,Eo]
 cases a[i]? with
 |none=>rfl
 |some x=>simp
def oK(h:x.join=some p):x=some (some p):=by
 cases x with
 |none=>cases h
 |some y=>exact lP some h
section
variable {K:gK}{T:AP'}{A:iK}{k:List V}{f:List (D×Bool)}{H q:Hp}{m:Nat}{l:L2.St}{g:Dn}{r:D×Bool}{v:V}
theorem CB{b:Type}{a:List b}{m i:Nat}{y:b}:(a.map some++List.replicate m none)[i]?=some (some y)↔a[i]?=some y:=by
 by_cases h:i<a.length
 ·rw[vP (by simpa using h),jL];cases a[i]?<;>simp
 ·rw[rH (by simpa using h)];constructor
  ·intro e;rw[tx] at e;split at e<;>cases e
  ·intro e;exact absurd (uG.mp e).1 h
theorem qV{b:Type}{a:List b}{i:Nat}{y:b}:(a.map some)[i]?=some (some y)↔a[i]?=some y:=by
 rw[jL];cases a[i]?<;>simp
def IU{i:Nat}{a:gm}:OwnI (k.map some++List.replicate m none) (f.map some++List.replicate m none) i a↔OwnI (k.map some) (f.map some) i a:=by
 unfold OwnI;simp only[CB,qV]
theorem Dk:OwnA σ b a↔ ∃i,OwnI σ b i a:=Iff.rfl
def Le:OwnA (k.map some++List.replicate m none) (f.map some++List.replicate m none) a↔OwnA (k.map some) (f.map some) a:=by
 rw[Dk,Dk];exact exists_congr λi=>IU
def ER.pad(E:ER K H T (k.map some) (f.map some)):ER K H T (k.map some++List.replicate m none) (f.map some++List.replicate m none):=by
 have len:k.length=f.length:=by simpa using E.len
 refine⟨by simp[len],λi d h=>?_,λi d h=>?_,λi j d e a h1 o p s=>?_,λa z=>E.nT a (Le.mp z),E.dom⟩
 ·obtain⟨w,c,n⟩:=E.val i d (qV.mpr (CB.mp h));exact⟨w,CB.mpr (qV.mp c),Rep.mono (λ_ _ e _=>e) (λb _ z=>z.imp Le.mp id) n⟩
 ·obtain⟨w,c,n⟩:=E.own i d (qV.mpr (CB.mp h));exact⟨w,CB.mpr (qV.mp c),n.mono (λ_ _ e _=>e) (λb _ z=>z.imp Le.mp id) λ_ e=>e⟩
 ·exact E.inj i j d e a (qV.mpr (CB.mp h1)) (qV.mpr (CB.mp o)) (qV.mpr (CB.mp p)) (qV.mpr (CB.mp s))
def G4{N:AP'}(E:ER K H T (k.map some) (f.map some))(S:SK A (k.map some++List.replicate m none) (f.map some++List.replicate m none) H l g q)(hA: ∀(i:Nat) d,f[i]?=some (d,true)-> ¬A i)
  (L:ER K q N l g)(hT: ∀b,H b≠none->N b->T b):ER K q N (k.map some) (gZ f g)/\(∀b,OwnA (k.map some) (gZ f g) b->OwnA l g b)/\Keep (k.map some) (f.map some) H (gZ f g) q:=by
 have len:k.length=f.length:=by simpa using E.len
 have s: ∀(i:Nat) d w,f[i]?=some (d,true)->k[i]?=some w->l[i]?=some (some w):=λi d w h1 p=>by
  rw[S.as i (hA i d h1)];exact CB.mpr p
 have t: ∀(i:Nat) d b,(gZ f g)[i]?=some (some (d,b))->(∃e,f[i]?=some (e,true)/\g[i]?=some (some (d,b)))\/(b=false/\f[i]?=some (d,false)):=λi d b h=>by
  rw[Lf] at h;obtain⟨⟨e,c⟩,h1,p⟩:=ie h
  cases c with
  |true=>
   left;exact⟨e,h1,oK (by simpa using p)⟩
  |false=>
   right;have:some (e,false)=some (d,b):=by simpa using p
   cases this;exact⟨rfl,h1⟩
 have B: ∀i a,OwnI (k.map some) (gZ f g) i a->OwnI l g i a/\OwnI (k.map some) (f.map some) i a:=λi a ⟨d,h1,p⟩=>by
  rcases t i d true h1 with⟨e,u,x⟩|⟨z,_⟩
  ·exact⟨⟨d,x,s i e _ u (qV.mp p)⟩,⟨e,qV.mpr u,p⟩⟩
  ·cases z
 have M: ∀b,OwnA (k.map some) (gZ f g) b->OwnA l g b:=λb ⟨i,d,h1,p⟩=>by
  obtain⟨⟨e,G,I⟩,_⟩:=B i b ⟨d,h1,p⟩;exact⟨i,e,G,I⟩
 have C: ∀b,OwnA (k.map some) (gZ f g) b->OwnA (k.map some) (f.map some) b:=λb ⟨i,d,h1,p⟩=>by
  obtain⟨_,⟨e,G,I⟩⟩:=B i b ⟨d,h1,p⟩;exact⟨i,e,G,I⟩
 have U: ∀a o,H a=some o-> ¬OwnA (k.map some) (f.map some) a->q a=some o:=λa o e n=>S.kp a o e λz=>n (Le.mp z);refine⟨⟨?_,λi d h=>?_,λi d h=>?_,λi j d e a h1 p u x=>?_,λa z=>L.nT a (M a z),L.dom⟩,M,⟨U,λi a z=>(B i a z).2,S.dm⟩⟩
 ·simp[gZ,len]
 ·have O:i<k.length:=by
   have:=(uG.mp h).1;simp[gZ] at this;omega
  have hv:k[i]?=some k[i]:=iW O;rcases t i d false h with⟨e,u,x⟩|⟨_,u⟩
  ·obtain⟨w,y,J⟩:=L.val i d x;rw[s i e _ u hv] at y;cases y;exact⟨_,qV.mpr hv,Rep.mono (λ_ _ e _=>e) (λb _ z=>z.imp (M b) id) J⟩
  ·obtain⟨w,y,J⟩:=E.val i d (qV.mpr u);exact⟨w,y,Rep.mono (λb o e n=>U b o e λz=>n (.inl z)) (λb F z=>z.imp (C b) (hT b F)) J⟩
 ·have O:i<k.length:=by
   have:=(uG.mp h).1;simp[gZ] at this;omega
  have hv:k[i]?=some k[i]:=iW O;rcases t i d true h with⟨e,u,x⟩|⟨z,_⟩
  ·obtain⟨w,y,J⟩:=L.own i d x;rw[s i e _ u hv] at y;have Q:k[i]=V.ref w:=by simpa using y
   exact⟨w,by rw[<-Q];exact qV.mpr hv,J.mono (λ_ _ e _=>e) (λb _ z=>z.imp (M b) id) λ_ e=>e⟩
  ·cases z
 ·obtain⟨_,⟨Y,G,I⟩⟩:=B i a ⟨d,h1,u⟩;obtain⟨_,⟨D,P,R⟩⟩:=B j a ⟨e,p,x⟩;exact E.inj i j Y D a G P I R
def rl(E:ER K H T (k.map some) (f.map some))(S:SK A (k.map some++List.replicate m none) (f.map some++List.replicate m none) H l g q)(j: ∀(i:Nat) d,f[i]?=some (d,true)-> ¬A i)
  (R:RV K T H r l g v q):Post K T (k.map some) (f.map some) H r (gZ f g) v q:=by
 obtain⟨d,b⟩:=r
 cases b with
 |false=>
  obtain⟨a,s⟩:=R;obtain⟨c,ow,h⟩:=G4 E S j a (λ_ _ z=>z);exact⟨h,c,Rep.mono (λ_ _ e _=>e) (λb _ z=>z.imp (ow b) id) s⟩
 |true=>
  obtain⟨p,rfl,n,a,ok⟩:=R;obtain⟨c,ow,h⟩:=G4 E S j a (λb o z=>z.elim id λz=>by subst z;exact absurd n o);exact⟨h,p,rfl,n,c,ok.mono (λ_ _ e _=>e) (λb _ z=>z.imp (ow b) id) λ_ e=>e⟩
end
section
variable {P:gS}{w:gO}{K:gK}{g:jX}{base:gL}{N:iw}{m:Nat}{b:iI}{fs:FS}{c:List V}{H:Hp}{Q:VK}{E:XK}
def GC(h:spF K (evF N.length m b fs) c H Q E):c.length=m:=by
 obtain⟨T,a,r,d,E0,e,_⟩:=h;unfold evF at e;split at e
 ·rename_i f;have:=E0.len;simp at this;rw[this];exact f.1
 ·cases e
def Ka(h:spF K (evF N.length m b fs) c H Q E): ∃L:Nat->Prop,(∀i,L i->i<m)/\tS K (λi=>i∈b) L H fs {nx:=λ_ k=>Q .non k,rt:=Q} (L2.mY N c) H:=by
 obtain⟨T,f,r,u,E0,e,t⟩:=h;unfold evF at e;split at e
 ·rename_i C;obtain⟨h1,O,B⟩:=C;have l:c.length=f.length:=by simpa using E0.len
  refine⟨λi=> ∃d,f[i]?=some (d,true),λi ⟨d,hd⟩=>by have:=(uG.mp hd).1;omega,?_⟩;have J:L2.mY N c=c.map some++List.replicate (N.length-m) none:=by unfold L2.mY;rw[l,h1]
  have s: ∀(i:Nat) d,f[i]?=some (d,true)-> ¬(i∈b):=λi d hd G=>by
   have I:(f.zipIdx)[i]?=some ((d,true),i):=by rw[Eo,hd];simp
   have:=md.mp B _ (tw I);simp at this;exact this G
  rw[J]
  have A:FI (λi=> ∃d,f[i]?=some (d,true)) H (c.map some++List.replicate (N.length-m) none) (f.map some++List.replicate (N.length-m) none) H:=⟨λi a z=>by
   obtain⟨d,M,_⟩:=IU.mp z;exact .inl ⟨d,qV.mp M⟩,λ_ z=>z⟩
  cases p:fs (f.map some++List.replicate (N.length-m) none) with
  |none=>rw[p] at e;cases e
  |some n=>
   rw[p] at e;refine⟨_,T,n,E0.pad,A,p,?_⟩
   cases n with
   |rt U j=>
    obtain⟨rfl,rfl⟩:=gM e;exact λv q k o y=>t v k (rl E0 o s y)
   |nx j=>
    obtain⟨rfl,rfl⟩:=gM e;exact λq k o x=>t .non k (rl (r:=(.non,false)) E0 o s ⟨x,Rep.mkNon⟩)
   |bk j=>cases e
   |ct j=>cases e
 ·cases e
def Sj{x qual:Str}{st:Stmt}{f:gm}{j:kY}{e:iw}{k:Nat}(F:Fun K x qual st f j)(S:FnScope N e (gr st))
  (o: ∀(d:gz) (A:gR) (a:List Env) (s:gu) (H:Hp) (E:XK) (L:iK),(∀i,L i->i<e.length)->Room k (A.deeper (envOfC qual (gr st) s.heap.objs.size f d))->
   zT (nY CX0 P w K g base N qual (gr st) f d A a s H E).nox (λi=>i∈b) L H (kg st) fs):FnOk P w K g base CX0 (k+1) f j e (spF K (evF N.length e.length b fs)):=
 F.ok S (λc H Q E h=>GC h) λd A a s H c Q E n h=>let⟨L,h1,l⟩:=Ka h;⟨_,o d A a s H E L h1 n,l⟩
end
noncomputable def uB(a:Dn):Opd->Option (D×Bool)
 | .val r=>some (r.1,false)
 | .slot i=>(a[i]?).join
noncomputable def iN(δ:Dn):List Opd->Option (List (D×Bool))
 |[]=>some []
 |o::os=>(uB δ o).bind λa=>(iN δ os).bind λl=>some (a::l)
noncomputable def gP:List Opd->List (D×Bool)->List Nat
 | .slot i::os,(_,true)::as=>i::gP os as
 |_::os,_::as=>gP os as
 |_,_=>[]
noncomputable def wb:List Opd->List (D×Bool)->Dn->Dn->Dn
 | .slot i::os,(_,true)::as,o::outs,δ=>wb os as outs (δ.set i o)
 |_::os,_::as,_::outs,δ=>wb os as outs δ
 |_,_,_,δ=>δ
noncomputable def gA(ev:EvF)(fs:List FO):F:=λδ=>(jk fs δ).bind λp=>(iN p.2 p.1).bind λargs=>if(gP p.1 args).Nodup then(ev args).bind λq=>some (q.1,wb p.1 args q.2 p.2) else none
theorem ma{δ:Dn}: ∀{os:List Opd} {b:List (D×Bool)},iN δ os=some b->b.length=os.length/\ ∀(j:Nat) a,b[j]?=some a-> ∃o,os[j]?=some o/\uB δ o=some a
 |[],b,h=>by cases h;exact⟨rfl,λj d h=>by simp at h⟩
 |o::os,b,h=>by
  unfold iN at h;obtain⟨d,h1,h⟩:=gh h;obtain⟨l,f,h⟩:=gh h;cases h;obtain⟨g,i⟩:=ma f;refine⟨by simp[g],λj e c=>?_⟩
  cases j with
  |zero=>simp at c;subst c;exact⟨o,rfl,h1⟩
  |succ j=>
   obtain⟨k,m,n⟩:=i j e (by simpa using c);exact⟨k,by simpa using m,n⟩
theorem qT: ∀{os:List Opd} {as:List (D×Bool)} {j i:Nat} {d:D},os[j]?=some (.slot i)->as[j]?=some (d,true)->i∈gP os as
 |[],_,_,_,_,h,_=>by simp at h
 |_::_,[],_,_,_,_,h=>by simp at h
 |o::os,(e,b)::as,0,i,d,h1,a=>by
  simp at h1 a;obtain⟨rfl,rfl⟩:=a;subst h1;simp[gP]
 |o::os,(e,b)::as,j+1,i,d,h1,a=>by
  have c:=qT (os:=os) (as:=as) (j:=j) (i:=i) (d:=d) (by simpa using h1) (by simpa using a)
  cases o with
  |val r=>simpa[gP] using c
  |slot k=>
   cases b with
   |true=>simp[gP,c]
   |false=>simpa[gP] using c
theorem Ao: ∀{os:List Opd} {a:List (D×Bool)} {i:Nat},i∈gP os a-> ∃(j:Nat) (d:D),os[j]?=some (.slot i)/\a[j]?=some (d,true)
 |[],_,_,h=>by simp[gP] at h
 |o::_,[],_,h=>by cases o<;>simp[gP] at h
 |o::os,(e,b)::a,i,h=>by
  have c:i∈gP os a-> ∃(j:Nat) (d:D),(o::os)[j]?=some (.slot i)/\((e,b)::a)[j]?=some (d,true):=λh=>by
   obtain⟨j,d,h1,f⟩:=Ao h;exact⟨j+1,d,by simpa using h1,by simpa using f⟩
  cases o with
  |val r=>exact c (by simpa[gP] using h)
  |slot k=>
   cases b with
   |true=>
    simp[gP] at h;rcases h with rfl|h
    ·exact⟨0,e,rfl,rfl⟩
    ·exact c h
   |false=>exact c (by simpa[gP] using h)
theorem Ap: ∀{os:List Opd} {as:List (D×Bool)} {j k i:Nat} {d e:D},(gP os as).Nodup->os[j]?=some (.slot i)->as[j]?=some (d,true)->os[k]?=some (.slot i)->as[k]?=some (e,true)->j=k
 |[],_,_,_,_,_,_,_,h,_,_,_=>by simp at h
 |_::_,[],_,_,_,_,_,_,_,h,_,_=>by simp at h
 |o::os,(n,b)::as,j,k,i,d,e,a,h1,c,f,g=>by
  cases j with
  |zero=>
   cases k with
   |zero=>rfl
   |succ k=>
    simp at h1 c;obtain⟨rfl,rfl⟩:=c;subst h1;have:=qT (os:=os) (as:=as) (j:=k) (by simpa using f) (by simpa using g);simp[gP] at a;exact absurd this a.1
  |succ j=>
   cases k with
   |zero=>
    simp at f g;obtain⟨rfl,rfl⟩:=g;subst f;have:=qT (os:=os) (as:=as) (j:=j) (by simpa using h1) (by simpa using c);simp[gP] at a;exact absurd this a.1
   |succ k=>
    have l:(gP os as).Nodup:=by
     cases o with
     |val r=>simpa[gP] using a
     |slot m=>
      cases b with
      |true=>simp[gP] at a;exact a.2
      |false=>simpa[gP] using a
    have:=Ap (os:=os) (as:=as) (j:=j) (k:=k) l (by simpa using h1) (by simpa using c) (by simpa using f) (by simpa using g);omega
theorem xZ: ∀{os:List Opd} {c:List (D×Bool)} {a δ:Dn} {i:Nat},i∉gP os c->(wb os c a δ)[i]?=δ[i]?
 |[],_,_,_,_,_=>by simp[wb]
 |o::_,[],_,_,_,_=>by cases o<;>simp[wb]
 |o::os,(e,b)::c,[],_,_,_=>by cases o<;>cases b<;>simp[wb]
 |o::os,(e,b)::c,x::a,δ,i,h=>by
  cases o with
  |val r=>simp only[wb];exact xZ (by simpa[gP] using h)
  |slot k=>
   cases b with
   |true=>
    simp[gP] at h;rw[wb,xZ h.2,mI (mJ h.1)]
   |false=>simp only[wb];exact xZ (by simpa[gP] using h)
theorem ya: ∀{os:List Opd} {c:List (D×Bool)} {a δ:Dn},(wb os c a δ).length=δ.length
 |[],_,_,_=>by simp[wb]
 |o::_,[],_,_=>by cases o<;>simp[wb]
 |o::os,(e,b)::c,[],_=>by cases o<;>cases b<;>simp[wb]
 |o::os,(e,b)::c,x::a,δ=>by
  cases o with
  |val r=>simp only[wb];exact ya
  |slot k=>
   cases b with
   |true=>simp only[wb];rw[ya,rG]
   |false=>simp only[wb];exact ya
theorem Gv: ∀{os:List Opd} {c:List (D×Bool)} {a δ:Dn} {i j:Nat} {d:D} {x:Sl},(gP os c).Nodup->os[j]?=some (.slot i)->c[j]?=some (d,true)->a[j]?=some x->i<δ.length->(wb os c a δ)[i]?=some x
 |[],_,_,_,_,_,_,_,_,h,_,_,_=>by simp at h
 |o::_,[],_,_,_,_,_,_,_,_,h,_,_=>by simp at h
 |o::os,(e,b)::c,[],_,_,_,_,_,_,_,_,h,_=>by simp at h
 |o::os,(e,b)::c,y::a,δ,i,0,d,x,f,h1,g,l,n=>by
  simp at h1 g l;obtain⟨rfl,rfl⟩:=g;subst h1;subst l;simp[gP] at f;rw[wb,xZ f.1,mv n]
 |o::os,(e,b)::c,y::a,δ,i,j+1,d,x,f,h1,g,l,n=>by
  have p:(gP os c).Nodup:=by
   cases o with
   |val r=>simpa[gP] using f
   |slot m=>
    cases b with
    |true=>simp[gP] at f;exact f.2
    |false=>simpa[gP] using f
  cases o with
  |val r=>simp only[wb];exact Gv p (by simpa using h1) (by simpa using g) (by simpa using l) n
  |slot k=>
   cases b with
   |true=>simp only[wb];exact Gv p (by simpa using h1) (by simpa using g) (by simpa using l) (by rw[rG];exact n)
   |false=>simp only[wb];exact Gv p (by simpa using h1) (by simpa using g) (by simpa using l) n
section
variable {K:gK}{T u:AP'}{l:L2.St}{δ f:Dn}{H m s:Hp}{os:List Opd}{vs:List V}{c:List (D×Bool)}{g:Dn}{r:D×Bool}{v:V}
noncomputable def Tc(T:AP')(l:L2.St)(f:Dn)(vs:List V)(c:List (D×Bool)):AP':=λa=>T a\/(OwnA l f a/\ ¬OwnA (vs.map some) (c.map some) a)
def uf(B:Ops K T l δ H os vs f m u)(p:iN f os=some c){j:Nat}{d:D}(h:c[j]?=some (d,true)): ∃(i:Nat) (a:gm),os[j]?=some (.slot i)/\f[i]?=some (some (d,true))/\vs[j]?=some (.ref a)/\l[i]?=some (some (.ref a)):=by
 obtain⟨w,q⟩:=ma p;obtain⟨o,h1,b⟩:=q j _ h
 cases o with
 |val r=>cases b
 |slot i=>
  have e:f[i]?=some (some (d,true)):=oK b;have t:j<vs.length:=by have:=(uG.mp h1).1;have:=B.len;omega
  have hv:vs[j]?=some vs[j]:=iW t;have k:=B.slt j i _ h1 hv;obtain⟨a,n,_⟩:=B.er.own i d e;rw[k] at n;have:vs[j]=V.ref a:=by simpa using n
  exact⟨i,a,h1,e,by rw[hv,this],by rw[k,this]⟩
def Dw(B:Ops K T l δ H os vs f m u)(n:iN f os=some c){j:Nat}{a:gm}(h:OwnI (vs.map some) (c.map some) j a): ∃(i:Nat) (d:D),os[j]?=some (.slot i)/\c[j]?=some (d,true)/\OwnI l f i a:=by
 obtain⟨d,h1,k⟩:=h;have e:=qV.mp h1;obtain⟨i,b,o,p,q,t⟩:=uf B n e;have:=qV.mp k;rw[q] at this;cases this;exact⟨i,d,o,e,d,p,t⟩
def Hd(B:Ops K T l δ H os vs f m u)(k:iN f os=some c)(h:OwnA (vs.map some) (c.map some) a):OwnA l f a:=by
 obtain⟨j,d,h1,b⟩:=h;obtain⟨i,_,_,_,e,n,o⟩:=Dw B k ⟨d,h1,b⟩;exact⟨i,e,n,o⟩
def wY(E:ER K H T l δ)(B:Ops K T l δ H os vs f m u)(n:iN f os=some c)(nd:(gP os c).Nodup):ER K m (Tc T l f vs c) (vs.map some) (c.map some):=by
 obtain⟨D,U⟩:=ma n
 have sub: ∀b,(OwnA (vs.map some) (c.map some) b\/Tc T l f vs c b)->OwnA l f b\/T b:=λb z=>by
  rcases z with z|z|z
  ·exact .inl (Hd B n z)
  ·exact .inr z
  ·exact .inl z.1
 refine⟨by simp[D,B.len],λj d h=>?_,λj d h=>?_,λj k d e a h1 p x y=>?_,λa z t=>?_,λa z=>?_⟩
 ·have h:=qV.mp h;obtain⟨o,h1,p⟩:=U j _ h;have Y:j<vs.length:=by have:=(uG.mp h1).1;have:=B.len;omega
  have hv:vs[j]?=some vs[j]:=iW Y;refine⟨_,qV.mpr hv,?_⟩
  cases o with
  |val q=>
   have:q.1=d:=by cases p;rfl
   subst this;exact Rep.mono (λ_ _ e _=>e) (λb _ z=>sub b z) (B.rep E h1 hv)
  |slot i=>
   have x:f[i]?=some (some (d,false)):=oK p;have y:=B.slt j i _ h1 hv;obtain⟨w,L,P⟩:=B.er.val i d x;rw[y] at L;have:vs[j]=w:=by simpa using L
   rw[this];exact Rep.mono (λ_ _ e _=>e) (λb _ z=>(sub b z).imp id (B.tt b)) P
 ·obtain⟨i,a,J,A,C,G⟩:=uf B n (qV.mp h);obtain⟨b,I,Q⟩:=B.er.own i d A;rw[G] at I;cases I;exact⟨a,qV.mpr C,Q.mono (λ_ _ e _=>e) (λb _ z=>(sub b z).imp id (B.tt b)) λ_ e=>e⟩
 ·obtain⟨i,R,J,A,M,C,G⟩:=Dw B n ⟨d,h1,x⟩;obtain⟨F,S,g1,g2,N,g3,O⟩:=Dw B n ⟨e,p,y⟩;have:=B.er.inj i F M N a C g3 G O;subst this;exact Ap nd J A g1 g2
 ·rcases t with t|t
  ·exact B.er.nT a (Hd B n z) (B.tt a t)
  ·exact t.2 z
 ·rcases z with z|z
  ·exact B.er.dom a (B.tt a z)
  ·exact B.er.ownOw z.1
def HB{T' Y:AP'}(E:ER K H T l δ)(B:Ops K T l δ H os vs f m u)(O:iN f os=some c)(nd:(gP os c).Nodup)(kC:Keep (vs.map some) (c.map some) m g s)
  (U:ER K s Y (vs.map some) g)(t1: ∀b,Tc T l f vs c b->Y b)(t2: ∀b,T' b->Y b)(t3: ∀b,m b≠none->T' b->T b):
  ER K s T' l (wb os c g f)/\(∀b,OwnA l (wb os c g f) b->OwnA (vs.map some) g b\/Tc T l f vs c b)/\Keep l f m (wb os c g f) s:=by
 obtain⟨hl,hg⟩:=ma O;have ol:g.length=c.length:=by have:=U.len;have:=B.len;simp at*;omega
 have R: ∀(i:Nat) (x:Sl),(wb os c g f)[i]?=some x->(i∉gP os c/\f[i]?=some x)\/ ∃(j:Nat) (d:D),os[j]?=some (.slot i)/\c[j]?=some (d,true)/\g[j]?=some x:=λi x h=>by
  by_cases A:i∈gP os c
  ·right;obtain⟨j,d,h1,p⟩:=Ao A;have hj:j<g.length:=by have:=(uG.mp p).1;omega
   have X:g[j]?=some g[j]:=iW hj;have hi:i<f.length:=by have:=(uG.mp h).1;rwa [ya] at this
   have:=Gv (δ:=f) nd h1 p X hi;rw[h] at this;cases this;exact⟨j,d,h1,p,X⟩
  ·left;rw[xZ A] at h;exact⟨A,h⟩
 have G: ∀{i:Nat} {a:gm},i∉gP os c->OwnI l f i a-> ¬OwnA (vs.map some) (c.map some) a:=λ{i a} A ⟨e,q,C⟩ ⟨j,d,h1,p⟩=>by
  obtain⟨P,d2,g1,g2,S,g3,g4⟩:=Dw B O ⟨d,h1,p⟩;have:=B.er.inj i P e S a q g3 C g4;subst this;exact A (qT g1 g2)
 have Q: ∀i a,OwnI l (wb os c g f) i a->OwnI l f i a/\(OwnA (vs.map some) g a\/Tc T l f vs c a):=λi a ⟨d,h1,p⟩=>by
  rcases R i _ h1 with⟨A,y⟩|⟨j,e,g1,g2,g3⟩
  ·exact⟨⟨d,y,p⟩,.inr (.inr ⟨⟨i,d,y,p⟩,G A ⟨d,y,p⟩⟩)⟩
  ·obtain⟨P,b,q,C,M,I⟩:=uf B O g2;rw[g1] at q;cases q;rw[p] at I;cases I;exact⟨⟨e,C,p⟩,.inl ⟨j,d,g3,qV.mpr M⟩⟩
 have Z: ∀b,OwnA l (wb os c g f) b->OwnA (vs.map some) g b\/Tc T l f vs c b:=λb ⟨i,d,h1,p⟩=>(Q i b ⟨d,h1,p⟩).2
 have F: ∀b,OwnA l (wb os c g f) b->OwnA l f b:=λb ⟨i,d,h1,p⟩=>by
  obtain⟨⟨e,q,C⟩,_⟩:=Q i b ⟨d,h1,p⟩;exact⟨i,e,q,C⟩
 have W: ∀a o,m a=some o-> ¬OwnA l f a->s a=some o:=λa o e n=>kC.kp a o e λz=>n (Hd B O z)
 have J: ∀b,(OwnA l (wb os c g f) b\/T' b)->OwnA (vs.map some) g b\/Y b:=λb z=>by
  rcases z with z|z
  ·exact(Z b z).imp id (t1 b)
  ·exact .inr (t2 b z)
 refine⟨⟨by rw[ya];exact B.er.len,λi d h=>?_,λi d h=>?_,λi k d e a h1 p y h4=>?_,λa z t=>?_,λa z=>U.dom a (t2 a z)⟩,Z,⟨W,λi a z=>(Q i a z).1,kC.dm⟩⟩
 ·rcases R i _ h with⟨A,y⟩|⟨j,e,g1,g2,g3⟩
  ·obtain⟨w,L,N⟩:=B.er.val i d y;exact⟨w,L,Rep.mono (λb o e n=>W b o e λz=>n (.inl z)) (λb V z=>z.imp (F b) λz=>B.tt b (t3 b V z)) N⟩
  ·obtain⟨P,b,q,C,M,I⟩:=uf B O g2;rw[g1] at q;cases q;obtain⟨w,L,N⟩:=U.val j d g3;have:=qV.mp L;rw[M] at this;cases this;exact⟨_,I,Rep.mono (λ_ _ e _=>e) (λb _ z=>J b z) N⟩
 ·rcases R i _ h with⟨A,y⟩|⟨j,e,g1,g2,g3⟩
  ·obtain⟨a,L,N⟩:=B.er.own i d y;exact⟨a,L,N.mono (λb o e n=>W b o e λz=>n (.inl z)) (λb V z=>z.imp (F b) λz=>B.tt b (t3 b V z)) λo e=>kC.kp a o e (G A ⟨d,y,L⟩)⟩
  ·obtain⟨P,b,q,C,M,I⟩:=uf B O g2;rw[g1] at q;cases q;obtain⟨a,L,N⟩:=U.own j d g3;have:=qV.mp L;rw[M] at this;cases this;exact⟨_,I,N.mono (λ_ _ e _=>e) (λb _ z=>J b z) λ_ e=>e⟩
 ·obtain⟨⟨e1,q,C⟩,_⟩:=Q i a ⟨d,h1,y⟩;obtain⟨⟨S,M,I⟩,_⟩:=Q k a ⟨e,p,h4⟩;exact B.er.inj i k e1 S a q M C I
 ·exact B.er.nT a (F a z) (B.tt a (t3 a (B.er.ownDom (F a z)) t))
def za(E:ER K H T l δ)(B:Ops K T l δ H os vs f m u)(n:iN f os=some c)(q:(gP os c).Nodup)(P:Post K (Tc T l f vs c) (vs.map some) (c.map some) m r g v s):
  Post K T l δ H r (wb os c g f) v s:=by
 obtain⟨d,b⟩:=r
 cases b with
 |false=>
  obtain⟨k,h,x⟩:=P;obtain⟨i,ow,j⟩:=HB (T':=T) E B n q k h (λ_ z=>z) (λ_ z=> .inl z) (λ_ _ z=>z);refine⟨B.keep.trans j,i,Rep.mono (λ_ _ e _=>e) (λb _ z=>?_) x⟩;rcases z with z|z
  ·exact ow b z
  ·exact .inr (.inl z)
 |true=>
  obtain⟨k,p,rfl,o,h,ok⟩:=P;obtain⟨i,ow,j⟩:=HB (T':=λa=>T a\/a=p) E B n q k h (λ_ z=> .inl z) (λb z=>z.elim (λz=> .inl (.inl z)) .inr) (λb w z=>z.elim id λz=>by subst z;exact absurd o w);refine⟨B.keep.trans j,p,rfl,?_,i,ok.mono (λ_ _ e _=>e) (λb _ z=>?_) λ_ e=>e⟩
  ·cases t:H p with
   |none=>rfl
   |some y=>exact absurd o (B.keep.dm p (by rw[t];simp))
  ·rcases z with z|z|z
   ·exact(ow b z).imp id .inl
   ·exact .inr (.inl (.inl z))
   ·exact .inr (.inr z)
end
section
variable {X:Cx}{e:gw}{b:iO}{fs:List FO}{a p:Pos}{k:Nat}{f:gm}{g:kY}{d:iw}{c:EvF}{x:Str}
def M4(F:FnOk X.prog X.w X.K X.mg X.base CX0 k f g d (spF X.K c))(G:Room k X.A)(z:Gl X x)(C:X.mg x=some (.ref f))(hk:PySem.W.keepIn X.K (.ref f)=true)(u:Binds X.K g d [])
  (t:PA X (e::b) (tA X.K fs))(L:(x==("__debug__":Str))=false)(y:starEach (e::b) X.env=(false,eval e X.env)::starEach b X.env)(J:(backTo a (starEach b X.env)).any (·.1)=false):
  PX X (.Call (.Name x p) (e::b) [] a) (gA c fs):=PX.imp (G3 F G z C hk u (.nil) Ua t L y J) λO H Q I=>by
 obtain⟨M,T,Y,N,E,e,k⟩:=I;obtain⟨⟨os,j⟩,h1,e⟩:=gh e;obtain⟨h,l,e⟩:=gh e;dsimp only at e;split at e
 ·rename_i m;obtain⟨⟨r,i⟩,s,e⟩:=gh e;obtain⟨rfl,rfl⟩:=gM e;refine⟨M,T,os,j,E,h1,λn q U B=>?_⟩;show spF X.K c (n++[]) q Q E0;rw[Bo];exact⟨Tc T O j n h,h,r,i,wY E B l m,s,λv o P=>k v o (za E B l m P)⟩
 ·cases e
end
structure SKd(A:iK)(d:gm)(σ:L2.St)(δ:Dn)(H:Hp)(σ':L2.St)(δ':Dn)(H':Hp):Prop where
 kp: ∀a o,H a=some o-> ¬OwnA σ δ a->a≠d->H' a=some o
 owi: ∀i a,OwnI σ' δ' i a->OwnI σ δ i a\/H a=none
 dm: ∀a,H a≠none->H' a≠none
 as: ∀i,¬A i->σ'[i]?=σ[i]?
section
variable {A:iK}{d:gm}{c b f:L2.St}{δ δ1 δ2:Dn}{H g j:Hp}
def SK.skd(k:SK A c δ H b δ1 g):SKd A d c δ H b δ1 g:=⟨λa o e n _=>k.kp a o e n,k.owi,k.dm,k.as⟩
def SKd.ow(k:SKd A d c δ H b δ1 g)(a:gm)(h:OwnA b δ1 a):OwnA c δ a\/H a=none:=by
 obtain⟨i,e,h1,l⟩:=h;rcases k.owi i a ⟨e,h1,l⟩ with⟨e,m,n⟩|z
 ·exact .inl ⟨i,e,m,n⟩
 ·exact .inr z
theorem SKd.trans(x:SKd A d c δ H b δ1 g)(y:SKd A d b δ1 g f δ2 j):SKd A d c δ H f δ2 j where
 kp:=λa o e n k=>y.kp a o (x.kp a o e n k) (λz=>(x.ow a z).elim n λz=>by rw[z] at e;cases e) k
 owi:=λi a z=>(y.owi i a z).elim (x.owi i a) λz=> .inr (by
  cases h:H a with
  |none=>rfl
  |some o=>exact absurd z (x.dm a (by rw[h];simp)))
 dm:=λa z=>y.dm a (x.dm a z)
 as:=λi h=>(y.as i h).trans (x.as i h)
end
noncomputable def tP(p:(Int->Bool)×Nat)(d:D):(Int->Bool)×Nat:=match d with
 | .int k=>(λa=>p.1 a||decide (a=k),if p.1 k then p.2 else p.2+1)
 |_=>p
noncomputable def lU(l:List D):(Int->Bool)×Nat:=l.foldl tP (λ_=>false,0)
theorem Ac(l:List D)(k:Int):lU (l++[.int k])=((λa=>(lU l).1 a||decide (a=k)),if(lU l).1 k then(lU l).2 else(lU l).2+1):=by
 unfold lU;rw[List.foldl_append];rfl
theorem GG: ∀(l:List D) (p:(Int->Bool)×Nat),(l.foldl tP p).2<=p.2+l.length
 |[],p=>iY _
 |d::l,p=>by
  have:=GG l (tP p d)
  have h:(tP p d).2<=p.2+1:=by
   unfold tP;split
   ·dsimp only;split<;>omega
   ·omega
  simp only[xH,kT];omega
def AtD(S:Bool)(K:gK)(H:Hp)(O:AP')(d:gm)(a:List D):Prop:=match S with
 |false=> ∃b,H d=some (.lst b)/\RepL K H O a b
 |true=>H d=some (.set (lU a).1 (lU a).2)
structure BS(S:Bool)(K:gK)(d:gm)(T:AP')(σ:L2.St)(δ:Dn)(acc:List D)(H:Hp):Prop where
 er:ER K H T σ δ
 td:T d
 at':AtD S K H (λa=>OwnA σ δ a\/T a) d acc
abbrev FB:=List D->Dn->Option (List D×Dn)
def tBx(S:Bool)(K:gK)(A:iK)(d:gm)(f:FB):TB:=λi H N=> ∃g T c h a,BS S K d T i g c H/\f c g=some (h,a)/\ ∀b e,SKd A d i g H b a e->BS S K d T b a h e->N b e
noncomputable def iH(f:F):FB:=λa δ=>(f δ).bind λp=>if a.length<sizeLine then some (a++[p.1.1],p.2) else none
noncomputable def jI(b:Tg)(c:FT)(a:FB):List D->FB
 |[],acc,δ=>some (acc,δ)
 |x::xs,acc,δ=>(b x δ).bind λδ1=>(c δ1).bind λp=>(if p.1=true then a acc p.2 else some (acc,p.2)).bind λq=>jI b c a xs q.1 q.2
section
variable {K:gK}{A:iK}{d:gm}{T:AP'}{f q:L2.St}{l r:Dn}{j:List D}{H p:Hp}
def BS.step(b:BS S K d T f l j H)(k:SK A f l H q r p)(a:ER K p T q r):BS S K d T q r j p:=by
 refine⟨a,b.td,?_⟩;have h:=b.at'
 cases S with
 |true=>exact k.kp d _ h λz=>b.er.nT d z b.td
 |false=>
  obtain⟨m,h1,g⟩:=h;refine⟨m,k.kp d _ h1 λz=>b.er.nT d z b.td,RepL.mono (λb o e n=>k.kp b o e λz=>n (.inl z)) (λc i z=>?_) g⟩;rcases z with z|z
  ·exact(k.ow c z).elim Or.inl λz=>absurd z i
  ·exact .inr z
def NX(hg: ∀v f H Q,tG K A tg v f H Q->g v f H Q)(hi: ∀f H Q,tT K ft f H Q->ti f H Q)(hb: ∀f H N,tBx S K A d fb f H N->tb f H N)
  (b:BS S K d T f l j H)(P O:AP')(ok:ItOk K J ds P O p)(s1: ∀a o,p a=some o-> ¬P a->H a=some o)(s0: ∀a,p a≠none->OwnA f l a\/a=d->P a)(s2: ∀a,p a≠none->(OwnA f l a\/T a)->O a)(s3: ∀a,p a≠none->H a≠none)(e:jI tg ft fb ds j l=some (j8,B))
  (k: ∀E t,SKd A d f l H E B t->BS S K d T E B j8 t->N E t):JY J g ti tb f H N:=by
 refine⟨λi m s w=>m=ds.length-i/\i<=ds.length/\ ∃h L,SKd A d f l H s h w/\BS S K d T s h L w/\jI tg ft fb (ds.drop i) L h=some (j8,B),⟨ds.length,by simp,mF _,l,j,SK.refl.skd,b,by simpa using e⟩,?_⟩;rintro i m s w ⟨rfl,hle,h,L,Y,G,e2⟩
 have hO: ∀a,p a≠none->(OwnA s h a\/T a)->O a:=λa W z=>by
  rcases z with z|z
  ·exact(Y.ow a z).elim (λz=>s2 a W (.inl z)) λz=>absurd z (s3 a W)
  ·exact s2 a W (.inr z)
 have ao: ∀a o,p a=some o-> ¬P a->w a=some o:=λa o V n=>Y.kp a o (s1 a o V n) (λz=>n (s0 a (by rw[V];simp) (.inl z))) λz=>n (s0 a (by rw[V];simp) (.inr z));by_cases F:i<ds.length
 ·refine .inr ?_;have hd:ds[i]?=some ds[i]:=iW F;obtain⟨go,yl⟩:=ok.go i _ w hd ao;rw[uQ F] at e2;obtain⟨C,h3,e3⟩:=gh e2;obtain⟨⟨c,u⟩,h4,e4⟩:=gh e3;obtain⟨⟨y,M⟩,D,e5⟩:=gh e4;refine⟨go,λx t hy=>?_⟩;obtain⟨ext,rep⟩:=yl x t hy;have et:ER K t T s h:=G.er.mono (λb ob eb _=>ext b ob eb) (λ_ _ z=>z) (λa z=>(G.er.dom a z).up (ext a));have SX:SK A s h w s h t:=(Keep.ext ext).sk;have R:=G.step SX et;have fY:SKd A d f l H s h t:=Y.trans SX.skd;have rx:=rep (λa=>OwnA s h a\/T a) hO (λb hb z=>z.elim (λz=>G.er.ownDom z hb) λz=>(G.er.dom b z).ne hb);refine hg _ _ _ _ ⟨h,T,ds[i],C,et,rx,h3,λU S3 Z=>?_⟩;have B3:=R.step S3 Z;have cB:=fY.trans S3.skd;refine hi _ _ _ ⟨C,T,c,u,Z,h4,λH4 K4 E4=>?_⟩;have S4:SK A U C t U u H4:=K4.sk;have X:=B3.step S4 E4;have I:=cB.trans S4.skd
  cases c with
  |false=>
   rw[hJ jT] at D;obtain⟨rfl,rfl⟩:=gM D;exact R9 ⟨ds.length-(i+1),by omega,rfl,F,u,L,I,X,e5⟩
  |true=>
   rw[gF rfl] at D;exact R8 (hb _ _ _ ⟨u,T,L,y,M,X,D,λσ5 H5 S5 B5=>⟨ds.length-(i+1),by omega,rfl,F,M,y,I.trans S5,B5,e5⟩⟩)
 ·refine .inl ⟨ok.stop i w (by omega) ao,?_⟩;rw[xy (by omega)] at e2;obtain⟨rfl,rfl⟩:=gM e2;exact k s w Y G
end
section
variable {X:Cx}{A:iK}{d:gm}{c:gw}{f:F}
def PB.imp'{code:Sem Unit}{t e:TB}(h:PB X code t)(k: ∀b H N,e b H N->t b H N):PB X code e:=λa s b H N I g=>h a s b H N I (k b H N g)
def Lc{h:om}{O:iq}{p:Pos}{depth:Nat}(E:h[depth+1]?=none)(C:PX X c f):PB X (iR (.ListComp c h O p) depth (.ref d) X.env) (tBx false X.K A d (iH f)):=PB.imp' (NF E C) λq H N G=>by
 obtain⟨w,T,y,U,Q,B,e,k⟩:=G;obtain⟨⟨r,g⟩,h1,e⟩:=gh e;obtain⟨J,e⟩:=hV e;obtain⟨rfl,rfl⟩:=sZ e;refine⟨w,T,r,g,B.er,h1,λv j P=>?_⟩;obtain⟨s,M⟩:=P.rep B.er;have t:SK A q w H q g j:=P.1.sk;have x:=B.step t s;obtain⟨m,I,u⟩:=x.at';refine⟨m,I,by rw[u.length];exact J,k q _ ?_ ?_⟩
 ·have:SKd A d q g j q g (upd j d (.lst (m++[v]))):=⟨λa o e n L=>by rw[gQ L];exact e,λi a z=> .inl z,λa z=>by
   by_cases l:a=d
   ·subst l;rw[gU];simp
   ·rw[gQ l];exact z,λ_ _=>rfl⟩
  exact t.skd.trans this
 ·have hk: ∀b o,j b=some o-> ¬T b->upd j d (.lst (m++[v])) b=some o:=λb o e n=>by rw[gQ (by intro z;subst z;exact n B.td)];exact e
  have hd: ∀a,T a->Ow (upd j d (.lst (m++[v])) a):=λa z=>by
   by_cases l:a=d
   ·subst l;rw[gU];trivial
   ·rw[gQ l];exact s.dom a z
  refine⟨s.mono hk (λ_ _ z=>z) hd,B.td,m++[v],gU,?_⟩;exact RepL.mono (λb o e n=>hk b o e λz=>n (.inr z)) (λ_ _ z=>z) (u.append (RepL.one M))
end
noncomputable def iC(caps:iI)(k:Nat)(fi:FIt)(tg:Tg)(ti:FT)(fb:FB):F:=λδ=>(fi δ).bind λp=>(iN p.2 (caps.map .slot)).bind λargs=>
 if(gP (caps.map .slot) args).Nodup then(jI tg ti fb p.1 [] (args.map some++List.replicate k none)).bind λq=>some ((.lst q.1,true),wb (caps.map .slot) args (gZ args q.2) p.2) else none
noncomputable def wz(a:iI)(k:Nat)(b:L2.St):L2.St:=(a.map λj=>(b[j]?).join)++List.replicate k none
noncomputable def o0(S:Bool):HO:=match S with
 |false=> .lst []
 |true=> .set (λ_=>false) 0
noncomputable def qS(S:Bool)(Q:VK):VK:=match S with
 |false=>Q
 |true=>λx b=> ∃S n,∃a,x= .ref a/\b a=some (.set S n)/\Q (.int n) b
noncomputable def rS(S:Bool)(a:List D):D×Bool:=match S with
 |false=>(.lst a,true)
 |true=>(.int (lU a).2,false)
noncomputable def Sv(S:Bool)(b:iI)(k:Nat)(d:FIt)(e:Tg)(f:FT)(c:FB):F:=λg=>(d g).bind λp=>(iN p.2 (b.map .slot)).bind λa=>
 if(gP (b.map .slot) a).Nodup then(jI e f c p.1 [] (a.map some++List.replicate k none)).bind λq=>some (rS S q.1,wb (b.map .slot) a (gZ a q.2) p.2) else none
def AE{S:Bool}{K:gK}{f:iI}{k:Nat}{fi:FIt}{tg:Tg}{ti:FT}{fb:FB}{m:L2.St}{H:Hp}{Q:VK}(h:tF K (Sv S f k fi tg ti fb) m H Q):
  tI K (λi=>i∉f) fi m H λJ p=>GB (o0 S) J (tG K (λi=>f.length<=i) tg) (tT K ti) (λd=>tBx S K (λi=>f.length<=i) d fb) (wz f k) m p (qS S Q):=by
 obtain⟨δ,T,rr,δr,E,e,kq⟩:=h;obtain⟨⟨ds,s⟩,h1,e⟩:=gh e;obtain⟨g,u,e⟩:=gh e;dsimp only at e u;split at e
 case isFalse=>cases e
 rename_i F;obtain⟨⟨q,X⟩,h2,e⟩:=gh e;obtain⟨rfl,rfl⟩:=gM e;refine⟨δ,T,ds,s,E,h1,λJ p K1 B ok d hd=>?_⟩;obtain⟨hl,hg⟩:=ma u;have aP:g.length=f.length:=by simpa using hl
 let A:List V:=f.map λj=>((m[j]?).join).getD .non
 have there: ∀(i j:Nat),f[i]?=some j-> ∃v,m[j]?=some (some v):=λi j l=>by
  have hi:i<g.length:=by have:=(uG.mp l).1;omega
  obtain⟨o,t,W⟩:=hg i _ (iW hi);rw[jL,l] at t;cases t;have I:=oK W;generalize g[i]=y at I;obtain⟨x,b⟩:=y
  cases b with
  |false=>obtain⟨v,h,_⟩:=B.val j x I;exact⟨v,h⟩
  |true=>obtain⟨a,h,_⟩:=B.own j x I;exact⟨_,h⟩
 have eO: ∀(i j:Nat),f[i]?=some j-> ∃v,A[i]?=some v/\m[j]?=some (some v):=λi j l=>by
  obtain⟨v,hv⟩:=there i j l;refine⟨v,?_,hv⟩;show(f.map λj=>((m[j]?).join).getD .non)[i]?=some v;rw[jL,l];simp[hv]
 have y4:wz f k m=A.map some++List.replicate k none:=by
  unfold wz
  congr 1
  apply uO;intro i;show _=((f.map λj=>((m[j]?).join).getD .non).map some)[i]?;rw[jL,jL,jL]
  cases l:f[i]? with
  |none=>rfl
  |some j=>obtain⟨v,hv⟩:=there i j l;simp[hv]
 have C:Ops K T m s p (f.map Opd.slot) A s p T:=by
  refine⟨by simp[A],.refl,B,λ_ z=>z,λj x v l=>?_,λj x v l=>?_,λj i v l hv=>?_⟩
  ·rw[jL] at l;obtain⟨_,_,z⟩:=ie l;cases z
  ·rw[jL] at l;obtain⟨_,_,z⟩:=ie l;cases z
  ·rw[jL] at l;obtain⟨c,D,z⟩:=ie l;cases z;obtain⟨v',t,W⟩:=eO j i D;rw[hv] at t;cases t;exact W
 have L:=wY B C u F
 have hA: ∀(i:Nat) x,g[i]?=some (x,true)-> ¬(f.length<=i):=λi x w=>by
  have:=(uG.mp w).1;omega
 rw[y4];have w:=ky (o:=o0 S) hd
 have R: ∀a,p a≠none->upd p d (o0 S) a≠none:=λa z=>by
  cases O:p a with
  |none=>exact absurd O z
  |some o=>rw[w a o O];simp
 have b0:BS S K d (λa=>Tc T m s A g a\/a=d) (A.map some++List.replicate k none) (g.map some++List.replicate k none) [] (upd p d (o0 S)):=by
  refine⟨(L.pad).mono (λb o eb _=>w b o eb) (λb hb z=>z.elim id λz=>by subst z;exact absurd hd hb) (λa z=>?_),.inr rfl,?_⟩
  ·rcases z with z|z
   ·exact(L.dom a z).up (w a)
   ·subst z;rw[gU];cases S<;>trivial
  ·cases S with
   |false=>exact⟨[],gU,RepL.nil⟩
   |true=>exact gU
 refine NX (λ_ _ _ _ h=>h) (λ_ _ _ h=>h) (λ_ _ _ h=>h) b0 _ _ ok (λa o N _=>w a o N) (λa Y z=>?_) (λa Y z=>?_) R h2 λZ U M G=>?_
 ·rcases z with z|z
  ·obtain⟨j,x,g1,g2⟩:=Le.mp z;obtain⟨i,_,t,_,I⟩:=Dw C u ⟨x,g1,g2⟩;refine .inl ⟨i,λn=>n ?_,I⟩;rw[jL] at t;obtain⟨c,D,e⟩:=ie t;cases e;exact tw D
  ·subst z;exact absurd hd Y
 ·rcases z with z|z|z
  ·exact .inl (Hd C u (Le.mp z))
  ·rcases z with z|z
   ·exact .inr z
   ·exact .inl z.1
  ·subst z;exact absurd hd Y
 ·have SS:SK (λi=>f.length<=i) (A.map some++List.replicate k none) (g.map some++List.replicate k none) p Z X U:=
   ⟨λa o N n=>M.kp a o (w a o N) n (by intro z;subst z;rw[N] at hd;cases hd),λi a z=>(M.owi i a z).imp id λz=>by
    cases O:p a with
    |none=>rfl
    |some o=>exact absurd z (R a (by rw[O];simp)),λa z=>M.dm a (R a z),M.as⟩
  cases S with
  |false=>
   obtain⟨ys,hy,ry⟩:=G.at';have P:=rl (r:=(.lst q,true)) (v:= .ref d) L SS hA ⟨d,rfl,hd,G.er,ys,hy,RepL.mono (λ_ _ e _=>e) (λb _ z=>z) ry⟩;exact kq (.ref d) U ((za B C u F P).pre K1)
  |true=>
   have P:=rl (r:=(.int (lU q).2,false)) (v:= .int (lU q).2) L SS hA ⟨G.er.mono (λ_ _ e _=>e) (λb _ z=> .inl z) (λa z=>G.er.dom a (.inl z)),Rep.mkInt⟩;exact⟨_,_,d,rfl,G.at',kq (.int (lU q).2) U ((za B C u F P).pre K1)⟩
def DT{K:gK}{a:iI}{k:Nat}{c:FIt}{e:Tg}{ti:FT}{b:FB}{f:L2.St}{H:Hp}{Q:VK}(h:tF K (iC a k c e ti b) f H Q):
  JZ (tI K (λi=>i∉a) c) (tG K (λi=>a.length<=i) e) (tT K ti) (λd=>tBx false K (λi=>a.length<=i) d b) (wz a k) f H Q:=AE (S:=false) h
section
variable {X:Cx}{elt:gw}{c:pM}{iu:om}{scope:iq}{pos h9 py:Pos}{N':iw}{caps:iI}{k:Nat}{fi:FIt}{tg:Tg}{ti:FT}{fb:FB}{A L:iK}{H0:Hp}
structure CompOk(X:Cx)(N':iw)(scope:iq)(caps:iI)(k:Nat):Prop where
 cell: ∀y∈scope.names,y.2= .cell->scope.names.lookup y.1=some .cell
 kind:scope.kind= .function
 names: ∀y∈scope.names,y.2= .local->scope.names.lookup y.1=some .local
 free: ∀y∈scope.names,y.2= .free->X.env.scope.names.lookup y.1=some .cell\/X.env.scope.names.lookup y.1=some .free
 len:caps.length+k=N'.length
 caps: ∀(i j:Nat) (x:Str),caps[i]?=some j->N'[i]?=some x->X.N[j]?=some x/\scope.names.lookup x=some .free
def CompOk.sco(C:CompOk X N' scope caps k):CompScope X N' scope (wz caps k):=by
 refine⟨C.cell,C.kind,C.names,C.free,λd=>by simp[wz,C.len],λd i v x h1 f=>?_⟩;unfold wz at h1;by_cases b:i<caps.length
 ·rw[vP (by simpa using b),jL,iW b] at h1;obtain⟨g,h⟩:=C.caps i caps[i] x (iW b) f;refine⟨h,caps[i],g,?_⟩;have a:(d[caps[i]]?).join=some v:=by simpa using h1
  cases e:d[caps[i]]? with
  |none=>rw[e] at a;cases a
  |some y=>rw[e] at a;exact lP some a
 ·rw[rH (by simpa using b),tx] at h1;split at h1<;>cases h1
def Nd(C:CompOk X N' scope caps k)(m:X.calm=true)(l:c.is_async=0)(o: ∀e,iu[0]?=some e->e.is_async=0)
  (n: ∀x,foldedSetIterable c.iter X.env x=pure x)(p:PIX X (λi=>i∉caps) c.target c.iter fi)
  (q: ∀(cl:jy) (C:gm) (r:gu) (f:Hp) (j:ji) (a:hG),let b:=X.comp N' scope cl C r f j a
   PGX b (λi=>caps.length<=i) c.target tg/\PIf b c.ifs (tT X.K ti)/\ ∀d,PB b (iR (.ListComp elt (c::iu) scope pos) 0 (.ref d) b.env) (tBx false X.K (λi=>caps.length<=i) d fb)):
  PX X (.ListComp elt (c::iu) scope pos) (iC caps k fi tg ti fb):=PX.imp (K7 (g:=tG X.K (λi=>caps.length<=i) tg) (ti:=tT X.K ti) (tb:=λd=>tBx false X.K (λi=>caps.length<=i) d fb) C.sco m l o n p q) λs H Q h=>DT h
def KA{y:Str}{i:Nat}(m:swapsWith (.ListComp elt (c::iu) scope pos) (some (.Name y py)) h9.line X.env=pure true)
  (C:CompOk X N' scope caps k)(u:X.calm=true)(t:c.is_async=0)(G: ∀h,iu[0]?=some h->h.is_async=0)
  (z: ∀x,foldedSetIterable c.iter X.env x=pure x)(J:PIX X (λi=>i∉caps) c.target c.iter fi)(n:PG X (.Name y py) (DI i))(s:A i)
  (M: ∀(cl:jy) (C:gm) (N:gu) (l:Hp) (o:ji) (a:hG),let b:=X.comp N' scope cl C N l o a
   PGX b (λi=>caps.length<=i) c.target tg/\PIf b c.ifs (tT X.K ti)/\ ∀d,PB b (iR (.ListComp elt (c::iu) scope pos) 0 (.ref d) b.env) (tBx false X.K (λi=>caps.length<=i) d fb)):
  PSX X A L H0 (.Assign [.Name y py] (.ListComp elt (c::iu) scope pos) h9) (jx i (iC caps k fi tg ti fb)):=PS.imp' (KJ (g:=tG X.K (λi=>caps.length<=i) tg) (ti:=tT X.K ti) (tb:=λd=>tBx false X.K (λi=>caps.length<=i) d fb) m C.sco u t G z J n M) λD Q H B=>by
 obtain⟨O,T,I,E,fi,e,k⟩:=B;obtain⟨⟨r,f⟩,q,e⟩:=gh e;obtain⟨w,rfl⟩:=hV e;refine DT ⟨O,T,r,f,E,q,λv j P=>?_⟩;obtain⟨h1,p⟩:=qd (A:=A) E P w s;exact k _ j h1 p
end
section
variable {K:gK}{T:AP'}{d:L2.St}{c:Dn}{H:Hp}{i:Nat}{l g:List D}{a:gm}{m:List V}
def OwnI.write{j:Nat}{b:gm}(hd:c[i]?=some (some (.lst l,true)))(h:OwnI d (c.set i (some (.lst g,true))) j b):OwnI d c j b:=by
 obtain⟨e,h1,f⟩:=h;rcases kz h1 with⟨rfl,_,_⟩|⟨_,q⟩
 ·exact⟨_,hd,f⟩
 ·exact⟨e,q,f⟩
def ER.write(E:ER K H T d c)(hd:c[i]?=some (some (.lst l,true)))(t:d[i]?=some (some (.ref a)))(r:RepL K H (λb=>OwnA d c b\/T b) g m):
  ER K (upd H a (.lst m)) T d (c.set i (some (.lst g,true)))/\Keep d c H (c.set i (some (.lst g,true))) (upd H a (.lst m)):=by
 have Q:i<c.length:=(uG.mp hd).1;have v:OwnA d c a:=⟨i,_,hd,t⟩
 have C: ∀b,OwnA d (c.set i (some (.lst g,true))) b->OwnA d c b:=λb ⟨j,e,h1,s⟩=>by
  obtain⟨I,x,y⟩:=OwnI.write hd ⟨e,h1,s⟩;exact⟨j,I,x,y⟩
 have u: ∀b o,H b=some o-> ¬(OwnA d c b\/T b)->upd H a (.lst m) b=some o:=λb o e n=>by rw[gQ (by intro z;subst z;exact n (.inl v))];exact e
 have G: ∀b,H b≠none->upd H a (.lst m) b≠none:=λb z=>by
  by_cases B:b=a
  ·subst B;rw[gU];simp
  ·rw[gQ B];exact z
 have sub: ∀b,H b≠none->(OwnA d (c.set i (some (.lst g,true))) b\/T b)->OwnA d c b\/T b:=λb _ z=>z.imp (C b) id;refine⟨⟨by rw[rG];exact E.len,λj e h=>?_,λj e h=>?_,λj k e f b h hk h1 s=>?_,λb z=>E.nT b (C b z),λb z=>by have ne:b≠a:=λe=>E.nT a v (e▸z);rw[gQ ne];exact E.dom b z⟩,⟨λb o e n=>by rw[gQ (by intro z;subst z;exact n v)];exact e,λj b z=>OwnI.write hd z,G⟩⟩
 ·rcases kz h with⟨_,_,q⟩|⟨_,q⟩
  ·cases q
  ·obtain⟨w,p,A⟩:=E.val j e q;exact⟨w,p,Rep.mono u sub A⟩
 ·rcases kz h with⟨rfl,_,q⟩|⟨ne,q⟩
  ·cases q;exact⟨a,t,m,gU,RepL.mono u sub r⟩
  ·obtain⟨b,p,A⟩:=E.own j e q;refine⟨b,p,A.mono u sub λo M=>?_⟩;rw[gQ]
   ·exact M
   ·intro z;subst z;exact ne (E.inj i j _ _ _ hd q t p)
 ·obtain⟨J,x,y⟩:=OwnI.write hd ⟨e,h,h1⟩;obtain⟨L,N,O⟩:=OwnI.write hd ⟨f,hk,s⟩;exact E.inj j k J L b x N y O
end
noncomputable def lK(i:Nat)(f:F):F:=λa=>match a[i]? with
 |some (some (.lst _,true))=>(f a).bind λp=>match p.2[i]? with
  |some (some (.lst l,true))=>if l.length<sizeLine then some ((.non,false),p.2.set i (some (.lst (l++[p.1.1]),true))) else none
  |_=>none
 |_=>none
noncomputable def sH(i:Nat)(f:FO):F:=λa=>match a[i]? with
 |some (some (.lst _,true))=>(f a).bind λp=>match res p.2 p.1,p.2[i]? with
  |some (.int k),some (some (.lst l,true))=>if -(2^63)<=k/\k<2^63 then(ixN l.length k).bind λj=>(l[j]?).bind λd=>some ((d,false),p.2.set i (some (.lst (l.eraseIdx j),true))) else none
  |_,_=>none
 |_=>none
noncomputable def oX(i:Nat)(f:F)(g:FO):FS:=λa=>(f a).bind λp=>match p.2[i]? with
 |some (some _)=>(g p.2).bind λq=>match res q.2 q.1,q.2[i]? with
  |some (.int k),some (some (.lst l,true))=>(ixN l.length k).bind λj=>some (.nx (q.2.set i (some (.lst (l.set j p.1.1),true))))
  |_,_=>none
 |_=>none
section
variable {X:Cx}{e p:gw}{f:F}{s:FO}{q c g m:Pos}{i:Nat}{x:Str}{A L:iK}{t:Hp}
theorem RepL.erase{K H}{O:AP'}: ∀{l:List D} {a:List V} (j:Nat),RepL K H O l a->RepL K H O (l.eraseIdx j) (a.eraseIdx j)
 |[],a,j,h=>by rw[RepL] at h;subst h;simp[RepL]
 |d::l,a,0,h=>by
  rw[RepL] at h;obtain⟨v,r,rfl,h1,b⟩:=h;exact b
 |d::l,a,j+1,h=>by
  rw[RepL] at h;obtain⟨v,r,rfl,h1,b⟩:=h;exact RepL.cons h1 (RepL.erase j b)
def HV(hv:PO X (.Name x c) (gk i))(O:PX X e f)(i8:attributeBase (.Name x c) "append" X.env (eval (.Name x c) X.env)=eval (.Name x c) X.env)
  (m6:((backTo m (starEach [e] X.env)).all (λx=>!x.1)&&(backToKw m (keywordEach [] X.env)).all (λx=>x.1.isSome)&&decide ([e].length+([]:List Keyword).length+(if([]:List Keyword).isEmpty then 0 else 1)<30))=true)
  (i7:(g.endLine==m.line)=true)(z:starEach [e] X.env=(false,eval e X.env)::starEach [] X.env)(N:(backTo m (starEach [] X.env)).any (·.1)=false):
  PX X (.Call (.Attribute (.Name x c) "append" g) [e] [] m) (lK i f):=
 PX.imp (Lb Bg PySem.F.slot_list_append PySem.F.type_list_append Im hv (ke O nv z) i8 m6 i7 z N) λσ H Q U=>by
 obtain⟨h,T,rr,S,E,e,k⟩:=U;unfold lK at e;split at e
 ·rename_i l0 u;obtain⟨⟨r,j⟩,h1,e⟩:=gh e;dsimp only at e;split at e
  ·rename_i l w;obtain⟨Y,e⟩:=hV e;obtain⟨rfl,rfl⟩:=sZ e;refine⟨h,T,.slot i,h,E,by unfold gk;rw[u],λv V P=>?_⟩;obtain⟨I,d,b⟩:=P;obtain⟨a,g1,M,g2,g3⟩:=d.own i _ u;rw[b] at g1;cases g1;refine⟨.inl ⟨rfl,M,SqL.of g2⟩,h,T,r,j,d,h1,λy W o=>?_⟩;obtain⟨n,K⟩:=o.rep d;obtain⟨Z,B,R,D,C⟩:=n.own i _ w;rw[b] at B;cases B;refine⟨_,R,y,rfl,rfl,D,by rw[C.length];exact Y,?_⟩;obtain⟨G,J⟩:=n.write w b (C.append (RepL.one K));exact k _ _ (Post.val ((I.trans o.1).trans J) G Rep.mkNon)
  ·cases e
 ·cases e
def Ku(hv:PO X (.Name x c) (gk i))(he:PO X e s)(i8:attributeBase (.Name x c) "pop" X.env (eval (.Name x c) X.env)=eval (.Name x c) X.env)
  (m6:((backTo m (starEach [e] X.env)).all (λx=>!x.1)&&(backToKw m (keywordEach [] X.env)).all (λx=>x.1.isSome)&&decide ([e].length+([]:List Keyword).length+(if([]:List Keyword).isEmpty then 0 else 1)<30))=true)
  (i7:(g.endLine==m.line)=true)(Y:starEach [e] X.env=(false,eval e X.env)::starEach [] X.env)(f9:(backTo m (starEach [] X.env)).any (·.1)=false):
  PX X (.Call (.Attribute (.Name x c) "pop" g) [e] [] m) (sH i s):=
 PX.imp (Lb Bg Js Jr Lq hv (ke he nv Y) i8 m6 i7 Y f9) λσ H Q hw=>by
 obtain⟨I,T,rr,δ',E,e,k⟩:=hw;unfold sH at e;split at e
 ·rename_i l0 N;obtain⟨⟨o,r⟩,h1,e⟩:=gh e;dsimp only at e;split at e
  ·rename_i D l hk O;split at e
   case isFalse=>cases e
   rename_i U;obtain⟨j,hj,e⟩:=gh e;obtain⟨d,hd,e⟩:=gh e;obtain⟨rfl,rfl⟩:=gM e;refine⟨I,T,.slot i,I,E,by unfold gk;rw[N],λv H1 P=>?_⟩;obtain⟨W,u,h⟩:=P;obtain⟨a,g1,cO,g2,g3⟩:=u.own i _ N;rw[h] at g1;cases g1;refine⟨.inl ⟨rfl,cO,SqL.of g2⟩,I,T,o,r,u,h1,λy V M=>?_⟩;have B:=Ops.cons u M (Ops.nil (M.er u));have vy:=gY (B.view (j:=0) rfl rfl hk);have J:ER X.K V T σ r:=B.er.mono (λ_ _ e _=>e) (λb _ z=>B.tt b z) (λa z=>B.er.dom a (B.tt a z));obtain⟨a',F,R,q2,G⟩:=J.own i _ O;rw[h] at F;cases F;obtain⟨w,w1,w2⟩:=G.get hd;have hl:=G.length;have Z:ixN R.length D=some j:=by rw[hl];exact hj
   obtain⟨s1,s2,s3,s4⟩:=Cc Z;obtain⟨S,C⟩:=J.write O h (RepL.erase j G);refine⟨_,R,D,j,w,rfl,by rw[vy],q2,U.1,U.2,s1,w1,?_⟩;exact k _ _ (Post.val ((W.trans B.keep).trans C) S (Rep.mono (λb o e n=>C.kp b o e λz=>n (.inl z)) (λb _ z=>z.imp (C.ow b) id) w2))
  ·cases e
 ·cases e
def HY{h:Pos}(hv:PO X (.Name x c) (gk i))(he:PX X e f)(hi:PO X p s)
  (ha: ∀v,assign (.Subscript (.Name x c) p h) X.env v=(do
   let C <-holding [v] (eval (.Name x c) X.env)
   let I <-holding [v,C] (eval p X.env)
   standAt h
   holding [v,C,I] (setItem C I v)
   release [v,C,I] []))
  (hs:swapsWithSole [.Subscript (.Name x c) p h] e q.line X.env=pure false)(G:swappedStores [.Subscript (.Name x c) p h] e X.env=pure none)
  (h1:(assignEach [.Subscript (.Name x c) p h] X.env).map (·.2)=[assign (.Subscript (.Name x c) p h) X.env]):
  PSX X A L t (.Assign [.Subscript (.Name x c) p h] e q) (oX i f s):=PS.imp' (Fo he (KZ hv hi Kf ha) hs G h1) λD J H G=>by
 obtain⟨U,T,out,E,fi,e,k⟩:=G;obtain⟨⟨r,d⟩,h1,e⟩:=gh e;dsimp only at e;split at e
 case h_2=>cases e
 rename_i y0 V;obtain⟨⟨o,y⟩,W,e⟩:=gh e;dsimp only at e;split at e
 ·rename_i kk l hk N;obtain⟨j,Z,e⟩:=gh e;cases e;refine⟨U,T,r,d,E,h1,λv F n=>⟨d,Tmp T r v,.slot i,d,n.er E,by unfold gk;rw[V],λv2 H2 u=>⟨d,Tmp T r v,o,y,u.er (n.er E),W,λv3 P P3=>?_⟩⟩⟩;have S:PostO X.K T J U H (.val r) d v F:=n;have B:=Ops.cons E S (Ops.cons (n.er E) u (Ops.cons (u.er (n.er E)) P3 (Ops.nil (P3.er (u.er (n.er E))))));have M:ER X.K P T J y:=B.er.mono (λ_ _ e _=>e) (λb _ z=>B.tt b z) (λa z=>B.er.dom a (B.tt a z));have w:J[i]?=some (some v2):=u.2.2;obtain⟨a,O,xs,q2,Q⟩:=M.own i _ N;rw[w] at O;cases O;have vk:=gY (B.view (j:=2) rfl rfl hk);have rv:=B.rep E (j:=0) (r:=r) rfl rfl;refine⟨a,xs,kk,j,rfl,vk,q2,by rw[Q.length];exact Z,?_⟩;obtain⟨Y,R⟩:=M.write N w (RepL.set rv j Q);exact k _ _ (B.keep.trans R).sk Y
 ·cases e
end
noncomputable def MW(i j:Nat)(fs:List F):FS:=λδ=>(jk (fs.map gn) δ).bind λp=>match nq p.1 with
 |some [a,b]=>if i<p.2.length/\j<p.2.length then some (.nx ((p.2.set i (some (a,false))).set j (some (b,false)))) else none
 |_=>none
noncomputable def HR(a:Tg)(f:F):FS:=λb=>(f b).bind λp=>(a p.1.1 p.2).bind λδ1=>some (.nx δ1)
section
variable {X:Cx}{A L:iK}{q:Hp}{a b l e:gw}{fs:List F}{f:F}{t:Tg}{d n m pt o:Pos}{x y:Str}{i j:Nat}{kt k2}
def Nr(J:X.calm=true)(hN:X.N.Nodup)(hi:X.N[i]?=some x)(hj:X.N[j]?=some y)(m5:i≠j)(hx:X.env.scope.names.lookup x=some .local)(hy:X.env.scope.names.lookup y=some .local)
  (h:PA X [a,b] (tA X.K (fs.map gn)))(u:swappedStores [.Tuple [.Name x n,.Name y m] kt pt] (.Tuple [a,b] O o) X.env=pure (some [x,y]))
  (hs:swapsWithSole [.Tuple [.Name x n,.Name y m] kt pt] (.Tuple [a,b] O o) d.line X.env=pure false)(hA:A i)(hB:A j):
  PSX X A L q (.Assign [.Tuple [.Name x n,.Name y m] kt pt] (.Tuple [a,b] O o) d) (MW i j fs):=PS.imp' (Rk J hN hi hj m5 hx hy h u hs) λD U H u=>by
 obtain⟨V,T,F,E,Z,e,k⟩:=u;obtain⟨⟨os,g⟩,h1,e⟩:=gh e;dsimp only at e;split at e
 ·rename_i G I hv;obtain⟨M,rfl⟩:=hV e;refine⟨V,T,os,g,E,h1,λvs p W B=>?_⟩;have r:=oR hv B.len λj r v a b=>B.rep E a b;have Y:ER X.K p T U g:=B.er.mono (λ_ _ e _=>e) (λb _ z=>B.tt b z) (λa z=>B.er.dom a (B.tt a z));rw[RepL] at r;obtain⟨w,r1,rfl,g1,r⟩:=r;rw[RepL] at r;obtain⟨C,r2,rfl,g2,r⟩:=r;rw[RepL] at r;subst r;refine⟨w,C,rfl,?_⟩;obtain⟨P,Q⟩:=qd (A:=A) (r:=(G,false)) (v:=w) E (Post.val B.keep Y g1) M.1 hA
  have s:Rep X.K p (λc=>OwnA (U.set i (some w)) (g.set i (some (G,false))) c\/T c) I C:=Rep.mono (λ_ _ e _=>e) (λc J z=>z.imp (λz=>by
   rcases z.store with z|z
   ·exact z
   ·exact absurd z.1 (by simp)) id) g2
  obtain⟨R,S⟩:=qd (A:=A) (i:=j) (r:=(I,false)) (v:=C) Q (Post.val .refl Q s) (by rw[rG];exact M.2) hB;exact k _ p (P.trans R) S
 ·cases e
def Nn(C:PX X e f)(G:PGX X A l t)(I:swapsWithSole [l] e d.line X.env=pure false)(g:swappedStores [l] e X.env=pure none)(h1:(assignEach [l] X.env).map (·.2)=[assign l X.env]):
  PSX X A L q (.Assign [l] e d) (HR t f):=PS.imp' (Fo C G I g h1) λD Q H g=>by
 obtain⟨N,T,J,E,O,e,k⟩:=g;obtain⟨⟨r,c⟩,h1,e⟩:=gh e;obtain⟨h,B,e⟩:=gh e;cases e;refine⟨N,T,r,c,E,h1,λv w P=>?_⟩;obtain⟨u,M⟩:=P.rep E;exact⟨c,T,r.1,h,u,M,B,λp z s=>k p w (P.1.sk.trans z) s⟩
def GQ{id:String}{p:Pos}{c:iO}{h:List FO}{g:List D->Option (D×Bool)}{z:Str}(r:ju X (.builtin id) (rDn X.K g))(u:Gl X z)(v:X.mg z=none)(hv:bootBuiltins z=some (.builtin id))(k:PA X (e::c) (tA X.K h))(w:z≠"__name__")(C:(z==("__debug__":Str))=false)
  (s:starEach (e::c) X.env=(false,eval e X.env)::starEach c X.env)(B:(backTo d (starEach c X.env)).any (·.1)=false):PX X (.Call (.Name z p) (e::c) [] d) (gJ g h):=pxn (qf r u v hv k w C s B)
def GO{id:String}{p:Pos}{c:iO}{h:List FO}{g:List D->Option (D×Bool)}{z:Str}(r:ju X (.type id) (rDn X.K g))(u:Gl X z)(v:X.mg z=none)(hv:bootBuiltins z=some (.type id))(k:PA X (e::c) (tA X.K h))(w:z≠"__name__")(C:(z==("__debug__":Str))=false)
  (s:starEach (e::c) X.env=(false,eval e X.env)::starEach c X.env)(B:(backTo d (starEach c X.env)).any (·.1)=false):PX X (.Call (.Name z p) (e::c) [] d) (gJ g h):=pxn (oF r u v hv k w C s B)
end
def SJ:bootBuiltins "len"=some (.builtin "len"):=by decide+kernel
def SM:bootBuiltins "abs"=some (.builtin "abs"):=by decide+kernel
noncomputable def Cr(N:iw)(c scope:iq)(b:iw)(a:iI)(k:Nat):Bool:=
 (scope.names.all λy=>y.2 != .cell||scope.names.lookup y.1==some .cell)&&decide (scope.kind= .function)&&(scope.names.all λy=>y.2 != .local||scope.names.lookup y.1==some .local)&&
 (scope.names.all λy=>y.2 != .free||(c.names.lookup y.1==some .cell||c.names.lookup y.1==some .free))&&decide (a.length+k=b.length)&&
 ((a.zip b).all λp=>N[p.1]?==some p.2&&scope.names.lookup p.2==some .free)
def Mm(m:X.N=N)(p:X.env.scope=sc)(h:Cr N sc scope N' a k=true):CompOk X N' scope a k:=by
 subst m;subst p;unfold Cr at h;simp only[kZ,md,uN] at h;obtain⟨⟨⟨⟨⟨h1,c⟩,d⟩,f⟩,g⟩,l⟩:=h;refine⟨λy b e=>?_,c,λy b e=>?_,λy b e=>?_,g,λi j x n q=>?_⟩
 ·have:=h1 y b;rw[e] at this;simpa using this
 ·have:=d y b;rw[e] at this;simpa using this
 ·have:=f y b;rw[e] at this;simpa using this
 ·have o:(j,x)∈a.zip N':=by
   have:(a.zip N')[i]?=some (j,x):=by rw[Gp];exact⟨n,q⟩
   exact tw this
  have:=l _ o;simpa using this
noncomputable def iX:FT:=λδ=>some (true,δ)
def KP{X:Cx}:PIf X [] (tT X.K iX):=λa s d H Q I h=>by
 obtain⟨f,T,b,c,E,e,k⟩:=h;cases e;exact Ny a s d H Q I (k H .refl E)
inductive Ty where
 |int|bool|str|tuple|list|dict
noncomputable def Ty.n:Ty->String
 | .int=>"int"| .bool=>"bool"| .str=>"str"| .tuple=>"tuple"| .list=>"list"| .dict=>"dict"
noncomputable def isT:D->Ty->Bool
 | .bl _,.bool=>true
 | .bl _,.int=>true
 | .int _,.int=>true
 | .str _,.str=>true
 | .tup _,.tuple=>true
 | .lst _,.list=>true
 | .oth .dct _ _,.dict=>true
 |_,_=>false
noncomputable def tyD:D->String
 | .non=>"NoneType"| .bl _=>"bool"| .int _=>"int"| .str _=>"str"| .tup _=>"tuple"| .lst _=>"list"| .oth .dct _ _=>"dict"| .oth .set _ _=>"set"| .oth _ _ _=>"NoneType"
section
variable {X:Cx}{b:hG}{c:L2.St}{H:Hp}{s:gu}
theorem B9(K:gK)(d:D)(t:Ty):PySem.W.kitOne K (.type (tyD d)) (.type t.n)=some (isT d t):=by
 cases d with
 |oth k _ _=>cases k<;>cases t<;>with_unfolding_all rfl
 |_=>cases t<;>with_unfolding_all rfl
def yu(I:Inv X b c H s)(h:OthB X.K (H a) k l i us)(hk:k= .dct\/k= .set:=by first|exact .inl rfl|exact .inr rfl):s.TypeIs (.ref a) (tyD (.oth k l i)):=by
 cases k with
 |dct=>
  rcases h with⟨d,e,_⟩|⟨d,e,_⟩
  ·obtain⟨_,_,i,_,o,g,j,h1,f,_⟩:=(show ObjOk X.prog X.w H s.heap a (.dK d) from I.hok a _ e)
   exact⟨o,h1,f.1⟩
  ·obtain⟨_,_,p,_,o,g,j,h1,f,_⟩:=(show ObjOk X.prog X.w H s.heap a (.dT d) from I.hok a _ e)
   exact⟨o,h1,f.1⟩
 |set=>
  obtain⟨_,m,e,_⟩:=h;obtain⟨g,n,t,h1,_⟩:=(show ObjOk X.prog X.w H s.heap a (.stt m) from I.hok a _ e)
  exact⟨_,h1,rfl⟩
 |exc C=>rcases hk with z|z<;>cases z
 |_=>exact h.elim
def nk{K H}(h:jq K H O (.oth k g f) v): ∃a d,v= .ref a/\OthB K (H a) k g f d/\RepL K H O f d:=by
 rcases h with h|⟨a,rfl,h⟩
 ·obtain⟨a,d,e,q,r⟩:=h.oth;exact⟨a,d,e,q.2,r⟩
 ·obtain⟨d,e,r⟩:=h;exact⟨a,d,rfl,e,r⟩
end
theorem kO(K:gK)(d:D): ∀a:List Ty,PySem.W.kitAny K (.type (tyD d)) (a.map λt=>Value.type t.n)=some (a.any (isT d))
 |[]=>rfl
 |t::a=>by
  rw[jw,PySem.W.kitAny,B9,uS]
  cases isT d t with
  |true=>rfl
  |false=>simpa using kO K d a
theorem Pu{K:gK}{C:Nat}(h: ∀n∈["int","bool","str","tuple","list","dict"],PySem.W.kitOne K (.ref C) (.type n)=some false)(t:Ty){ks vs:List D}:PySem.W.kitOne K (.ref C) (.type t.n)=some (isT (.oth (.exc C) ks vs) t):=by
 cases t<;>exact h _ (by simp[Ty.n])
theorem Hq{K:gK}{C:Nat}(h: ∀n∈["int","bool","str","tuple","list","dict"],PySem.W.kitOne K (.ref C) (.type n)=some false){ks vs:List D}: ∀a:List Ty,PySem.W.kitAny K (.ref C) (a.map λt=>Value.type t.n)=some (a.any (isT (.oth (.exc C) ks vs)))
 |[]=>rfl
 |t::a=>by
  rw[jw,PySem.W.kitAny,Pu h t (ks:=ks) (vs:=vs),uS]
  cases isT (.oth (.exc C) ks vs) t with
  |true=>rfl
  |false=>simpa using Hq h a
section
variable {X:Cx}{c:hG}{f:L2.St}{H:Hp}{s:gu}
def V2(I:Inv X c f H s)(hd:jq X.K H O d x)(g:RelV x u)(h: ∀m,Q (.bool (isT d t)) {s with toks:=m}):
  wpAny (model X.prog X.w) A (call (.builtin "isinstance") [u,.type t.n]) Q E s:=by
 cases d with
 |non=>have:=CN hd;subst this;cases g;exact sY PySem.W.kitx_none I.kIn True.intro (B9 X.K .non t) (λz=>nomatch z) h
 |bl b=>have:=By hd;subst this;cases g;exact sY PySem.W.kitx_bool I.kIn True.intro (B9 X.K (.bl b) t) (λz=>nomatch z) h
 |int b=>have:=gY hd;subst this;obtain⟨m,rfl⟩:=g;exact sY PySem.W.kitx_int I.kIn True.intro (B9 X.K (.int b) t) (λz=>nomatch z) h
 |str b=>have:=tK hd;subst this;obtain⟨m,rfl⟩:=g;exact sY PySem.W.kitx_str I.kIn True.intro (B9 X.K (.str b) t) (λz=>nomatch z) h
 |tup l=>
  obtain⟨a,y,rfl,q,_⟩:=lb hd;cases g;obtain⟨j,_,⟨o,h1,i,_⟩,_⟩:=I.tuple q;exact sY PySem.W.kitx_tuple I.kIn ⟨o,h1,i⟩ (B9 X.K (.tup l) t) (λz=>nomatch z) h
 |lst l=>
  obtain⟨a,y,rfl,q,_⟩:=jD hd;cases g;obtain⟨j,_,⟨o,n,h1,i,_⟩,_⟩:=I.list q;exact sY PySem.W.kitx_list I.kIn ⟨o,h1,i⟩ (B9 X.K (.lst l) t) (λz=>nomatch z) h
 |oth k p r=>
  obtain⟨a,B,rfl,q,_⟩:=nk hd;cases g
  cases k with
  |dct=>exact sY PySem.W.kitx_dict I.kIn (yu I q) (B9 X.K (.oth .dct p r) t) (λz=>nomatch z) h
  |set=>exact sY PySem.W.kitx_set I.kIn (yu I q) (B9 X.K (.oth .set p r) t) (λz=>nomatch z) h
  |exc C=>
   obtain⟨_,o,e,h1,i,v⟩:=q;exact sY (i a) I.kIn (show ObjOk X.prog X.w H s.heap a (.frz o (.own 0)) from I.hok a _ e).1 (Pu v t) (λz=>nomatch z) h
  |_=>exact q.elim
def V1{A:gR}{E:hZ}{Q:hZ}(I:Inv X c f H s){O:AP'}{d:D}{x:V}{u:gz}{ts:List Ty}{p:gm}{dd:Option Addr}{n:Nat}{G:pW}(hd:jq X.K H O d x)(i:RelV x u)
  (g:s.heap.get? p=some ⟨.type "tuple",dd,.seq (ts.map λt=>Value.type t.n).toArray n,G⟩)(h: ∀r,Q (.bool (ts.any (isT d))) {s with toks:=r}):wpAny (model X.prog X.w) A (call (.builtin "isinstance") [u,.ref p]) Q E s:=by
 cases d with
 |non=>have:=CN hd;subst this;cases i;exact sV PySem.W.kitx_none I.kIn True.intro g (kO X.K .non ts) (λz=>nomatch z) h
 |bl b=>have:=By hd;subst this;cases i;exact sV PySem.W.kitx_bool I.kIn True.intro g (kO X.K (.bl b) ts) (λz=>nomatch z) h
 |int b=>have:=gY hd;subst this;obtain⟨r,rfl⟩:=i;exact sV PySem.W.kitx_int I.kIn True.intro g (kO X.K (.int b) ts) (λz=>nomatch z) h
 |str b=>have:=tK hd;subst this;obtain⟨r,rfl⟩:=i;exact sV PySem.W.kitx_str I.kIn True.intro g (kO X.K (.str b) ts) (λz=>nomatch z) h
 |tup l=>
  obtain⟨a,J,rfl,q,_⟩:=lb hd;cases i;obtain⟨m,_,⟨o,h1,j,_⟩,_⟩:=I.tuple q;exact sV PySem.W.kitx_tuple I.kIn ⟨o,h1,j⟩ g (kO X.K (.tup l) ts) (λz=>nomatch z) h
 |lst l=>
  obtain⟨a,J,rfl,q,_⟩:=jD hd;cases i;obtain⟨m,_,⟨o,n,h1,j,_⟩,_⟩:=I.list q;exact sV PySem.W.kitx_list I.kIn ⟨o,h1,j⟩ g (kO X.K (.lst l) ts) (λz=>nomatch z) h
 |oth k v y=>
  obtain⟨a,L,rfl,q,_⟩:=nk hd;cases i
  cases k with
  |dct=>exact sV PySem.W.kitx_dict I.kIn (yu I q) g (kO X.K (.oth .dct v y) ts) (λz=>nomatch z) h
  |set=>exact sV PySem.W.kitx_set I.kIn (yu I q) g (kO X.K (.oth .set v y) ts) (λz=>nomatch z) h
  |exc C=>
   obtain⟨_,o,e,h1,j,B⟩:=q;exact sV (j a) I.kIn (show ObjOk X.prog X.w H s.heap a (.frz o (.own 0)) from I.hok a _ e).1 g (Hq B ts) (λz=>nomatch z) h
  |_=>exact q.elim
end
noncomputable def pU(ts:List Ty)(d:D):Option (D×Bool):=some (.bl (ts.any (isT d)),false)
section
variable {X:Cx}{e:gw}{g:FO}{f p c:Pos}{z:Str}
def Q0{t:Ty}(C:PO X e g)(J:Gl X "isinstance")(L:X.mg "isinstance"=none)(m:Gl X z)(w:X.mg z=none)(U:bootBuiltins z=some (.type t.n))(M:z≠"__name__")(j5:(z==("__debug__":Str))=false)(hv:bootBuiltins "isinstance"=some (.builtin "isinstance"))
  (s1:starEach [e,.Name z c] X.env=(false,eval e X.env)::starEach [.Name z c] X.env)(s2:starEach [.Name z c] X.env=(false,eval (.Name z c) X.env)::starEach [] X.env)(Y:(backTo f (starEach [.Name z c] X.env)).any (·.1)=false):
  PX X (.Call (.Name "isinstance" p) [e,.Name z c] [] f) (jg (pU [t]) g):=by
 have G:ju X (.builtin "isinstance") (λl H Q=> ∃(O:AP') (d:D) (x:V),l=[x,.ty t.n]/\jq X.K H O d x/\Q (.bl (isT d t)) H):=by
  intro i s W H l us Q I r h;obtain⟨O,d,x,rfl,hd,q⟩:=h;obtain⟨u,w',rfl,P,F⟩:=tL r;cases F;exact V2 I hd P λtk=>⟨.bl _,H,I.tok _,rfl,q⟩
 refine PX.imp (qf G J L hv (ke C (ke (wO (v:= .ty t.n) m w U rfl M j5) nv s2) s1) (by decide) (by decide) s1 Y) λW H Q N=>?_;obtain⟨R,T,rr,S,E,e,k⟩:=N;obtain⟨⟨o,a⟩,h1,e⟩:=gh e;obtain⟨x,y,e⟩:=gh e;obtain⟨zz,A,e⟩:=gh e;cases A;obtain⟨rfl,rfl⟩:=gM e;refine⟨R,T,o,a,E,h1,λv Z b=>?_⟩;have B:=Ops.cons E b (Ops.nil (b.er E));refine⟨_,x,v,rfl,B.view (j:=0) rfl rfl y,?_⟩;have:=(B.done k).bl;simpa using this
def M9{t m:Ty}{z i:Str}{l y:Pos}{w}(ha:PO X e g)(hg:Gl X "isinstance")(hm:X.mg "isinstance"=none)(aA:Gl X z)(dh:X.mg z=none)(hz:bootBuiltins z=some (.type t.n))(hn:z≠"__name__")(j5:(z==("__debug__":Str))=false)
  (cf:Gl X i)(A:X.mg i=none)(dO:bootBuiltins i=some (.type m.n))(bZ:i≠"__name__")(cu:(i==("__debug__":Str))=false)(hv:bootBuiltins "isinstance"=some (.builtin "isinstance"))
  (s1:starEach [e,.Tuple [.Name z c,.Name i l] w y] X.env=(false,eval e X.env)::starEach [.Tuple [.Name z c,.Name i l] w y] X.env)(s2:starEach [.Tuple [.Name z c,.Name i l] w y] X.env=(false,eval (.Tuple [.Name z c,.Name i l] w y) X.env)::starEach [] X.env)
  (s3:starEach [.Name z c,.Name i l] X.env=(false,eval (.Name z c) X.env)::starEach [.Name i l] X.env)(s4:starEach [.Name i l] X.env=(false,eval (.Name i l) X.env)::starEach [] X.env)
  (i6:(backTo f (starEach [.Tuple [.Name z c,.Name i l] w y] X.env)).any (·.1)=false):
  PX X (.Call (.Name "isinstance" p) [e,.Tuple [.Name z c,.Name i l] w y] [] f) (jg (pU [t,m]) g):=by
 have S:ju X (.builtin "isinstance") (λF H Q=> ∃(O:AP') (d:D) (x:V) (q:gm),F=[x,.ref q]/\H q=some (.tup [.ty t.n,.ty m.n])/\jq X.K H O d x/\Q (.bl ([t,m].any (isT d))) H):=by
  intro Y s P H F us Q I r h;obtain⟨O,d,x,q,rfl,N,hd,k⟩:=h;obtain⟨u,w',rfl,ru,n9⟩:=tL r;cases n9;obtain⟨_,Z,v1,o,h1,J,n,L⟩:=I.hok q _ N;obtain⟨u1,u2,rfl,r1,r2⟩:=tL v1;cases r1;cases r2;obtain⟨R,dd,dt,sl⟩:=o;simp only at J L;subst J;subst L;exact V1 (ts:=[t,m]) I hd ru h1 λtk=>⟨.bl _,H,I.tok _,rfl,k⟩
 refine PX.imp (qf S hg hm hv (ke ha (ke (K0 (ke (wO (v:= .ty t.n) aA dh hz rfl hn j5) (ke (wO (v:= .ty m.n) cf A dO rfl bZ cu) nv s4) s3)) nv s2) s1) (by decide) (by decide) s1 i6) λP H Q W=>?_;obtain⟨δ,T,rr,δ',E,e,k⟩:=W;obtain⟨⟨o,G⟩,h1,e⟩:=gh e;obtain⟨x,J,e⟩:=gh e;obtain⟨zz,L,e⟩:=gh e;cases L;obtain⟨rfl,rfl⟩:=gM e;refine⟨δ,T,o,G,E,h1,λv H1 U=>⟨by show 2<=sizeLine;decide,λq N=>?_⟩⟩;have B:=Ops.cons E U (Ops.nil (U.er E));have M:=ky (o:= .tup [.ty t.n,.ty m.n]) N;have C:=B.view (j:=0) rfl rfl J;refine⟨λa=>OwnA P G a\/T a,x,v,q,rfl,gU,?_,?_⟩
 ·rcases C with C|⟨a,rfl,C⟩
  ·exact .inl (Rep.mono (λb o e _=>M b o e) (λ_ _ z=>z) C)
  ·exact .inr ⟨a,rfl,C.mono (λb o e _=>M b o e) (λ_ _ z=>z) λo e=>M a o e⟩
 ·exact(B.done k) _ _ M Rep.mkBl
end
noncomputable def nR:List D->Option (List Bool)
 |[]=>some []
 | .bl b::l=>(nR l).map (b:: ·)
 |_::_=>none
noncomputable def DL:D->Option (D×Bool)
 | .lst l=>(nR l).map λbs=>(.bl (bs.all id),false)
 |_=>none
theorem wo{K H}{O:AP'}: ∀{l:List D} {bs:List Bool} {e:List V} {d:ik},nR l=some bs->RepL K H O l e->Vals e d->LSm.BoolsAre d bs
 |[],bs,e,d,h,r,v=>by
  cases h;rw[RepL] at r;subst r;cases v;exact .nil
 | .bl b::l,bs,e,d,h,r,v=>by
  obtain⟨f,h1,rfl⟩:=ie h;rw[RepL] at r;obtain⟨x,j,rfl,g,i⟩:=r;have:=g.bl;subst this
  cases v with
  |cons a c=>cases a;exact .cons b (wo h1 i c)
 | .non::l,_,_,_,h,_,_=>by cases h
 | .int _::l,_,_,_,h,_,_=>by cases h
 | .str _::l,_,_,_,h,_,_=>by cases h
 | .tup _::l,_,_,_,h,_,_=>by cases h
 | .lst _::l,_,_,_,h,_,_=>by cases h
 | .oth _ _ _::l,_,_,_,h,_,_=>by cases h
section
variable {X:Cx}
def Cb{h a:gL}{o:Obj}(hk: ∀b x,b∉[h.objs.size]->(h.push o).get? b=some x->a.get? b=some x)(b:gm)(x:Obj)(e:h.get? b=some x):a.get? b=some x:=
 hk b x (λz=>by have:=Gm.mp z;subst this;exact absurd (iJ e) (pZ _)) (iA _ e)
def vH(o:X.calm=true):ju X (.builtin "all") (rDn X.K (g1 DL)):=nG λk s N H x u Q O d z I y np hd j G=>by
 cases d with
 |lst l=>
  obtain⟨bs,n,rfl⟩:=ie j;obtain⟨p,M,rfl,q,r⟩:=jD hd;cases y;obtain⟨c,v,g,_⟩:=I.list q;have a:=wo n r v;have t:X.A.in1.handled=none:=I.ok.hd o;have h:p<s.heap.objs.size:=by obtain⟨_,e,_⟩:=g.isList;exact iJ e
  refine call_all_walk (Br g.isList ⟨s.heap.objs.size,[s.heap.objs.size,p],[s.heap.objs.size],c.toArray.size,_,_,λi=>(bs[i]?).getD true,rfl,Walks.list t _ p (iP h) c.toArray,
   ⟨⟨_,jr _ rfl,rfl,rfl⟩,g.isList.push _⟩,λi w J C B m f=>?_,λE L hk=>?_⟩)
  ·obtain⟨b,e,rfl⟩:=a.get i w (by simpa using m);dsimp only at f;rw[e] at f;exact uY f
  ·rw[je,a.length,LSm.range_all];exact⟨.bl _,H,I.kept (Cb hk),rfl,G.bl⟩
 |_=>cases j
noncomputable def LY:=gI λi j=>some (.int (if j>i then j else i))
noncomputable def LX:=gI λi j=>some (.int (if j<i then j else i))
def F8(c:X.calm=true):ju X (.builtin "max") (rDn X.K (g2 LY)):=Mr λa s k H x y h Q O d e z I r np h1 b g G=>by
 obtain⟨i,j,w,rfl,rfl,f,rfl⟩:=wX g;cases f;exact II c a s k H [x,y] h Q I r ⟨i,j,by rw[gY h1,gY b],G.int⟩
def F7(c:X.calm=true):ju X (.builtin "min") (rDn X.K (g2 LX)):=Mr λa s k H x y h Q O d e z I r np h1 b g G=>by
 obtain⟨i,j,w,rfl,rfl,f,rfl⟩:=wX g;cases f;exact IH c a s k H [x,y] h Q I r ⟨i,j,by rw[gY h1,gY b],G.int⟩
def ym{lo:Int}{n:Nat}{a:lA}(h:ItemsOf (λi v=> ∃t,v= .int (lo+(i:Int)*1) t) a n):Vals ((List.range n).map λ(k:Nat)=>V.int (lo+k)) a.toList:=by
 have b: ∀(l:ik) (m:Nat),(∀(j:Nat) v,l[j]?=some v-> ∃t,v= .int (lo+((m+j:Nat):Int)) t)->Vals ((List.range' m l.length).map λ(k:Nat)=>V.int (lo+k)) l:=by
  intro l
  induction l with
  |nil=>intro m _;exact .nil
  |cons v l f=>
   intro m hv;obtain⟨t,e⟩:=hv 0 v rfl;refine .cons ⟨t,by simpa using e⟩ (f (m+1) λj w d=>?_);obtain⟨g,c⟩:=hv (j+1) w (by simpa using d);exact⟨g,by rw[c];congr 2;first|done|omega⟩
 have:=b a.toList 0 λj v hv=>by
  obtain⟨t,e⟩:=h.2 j v (by simpa using hv);exact⟨t,by rw[e];congr 1⟩
 rw[ni,h.1,<-List.range_eq_range'] at this;exact this
def Fl{K H}(lo:Int)(n:Nat):RepL K H O (ig lo n) ((List.range n).map λ(k:Nat)=>V.int (lo+k)):=by
 unfold ig
 induction(List.range n) with
 |nil=>exact RepL.nil
 |cons k l a=>exact RepL.cons Rep.mkInt a
end
def RgOk(lo a:Int):Prop:= -(2^62)<=lo/\lo<2^62/\ -(2^62)<=a/\a<2^62/\(a-lo).toNat<=2^24
instance(lo hi:Int):Decidable (RgOk lo hi):=by unfold RgOk;infer_instance
noncomputable def rgV(lo a:Int):List V:=(List.range (a-lo).toNat).map λ(k:Nat)=>V.int (lo+k)
def RgOk.small{lo a:Int}(h:RgOk lo a):Builtin.Range.small lo a 1=true:=small_one h.1 h.2.1 h.2.2.1 h.2.2.2.1
def GI(lo a:Int):Builtin.Range.rangeSize lo a 1=((a-lo).toNat:Nat):=by rw[rangeSize_one];split<;>omega
section
variable {c:gS}{w:gO}{A:gR}{E:hZ}{s:gu}
def F5{Q:List Value->Shared->Prop}{r:gm}{lo n:Int}{t u v:Tok}(G:A.handled=none)(x:IsRange s.heap r lo n 1 t u v)(ok:RgOk lo n)
  (B: ∀(g:gL) k (d:lA),(∀b o,s.heap.get? b=some o->g.get? b=some o)->ItemsOf (λi v=> ∃t,v= .int (lo+(i:Int)*1) t) d (n-lo).toNat->Q d.toList {s with heap:=g,toks:=k}):
  wpAny (model c w) A (collect (.ref r)) Q E s:=by
 unfold collect;refine gq (wpAny_runValue (sU F.entry_proto_collect ?_));rw[xb F.plain_proto_collect _];refine gq (m:=newList []) (lE ?_);refine gE ⟨uM F.plain_list_iadd _,sU F.entry_list_iadd ?_⟩;rw[xb F.plain_list_iadd _];have z:=jr s.heap (o:=({cls:= .type "list",data:= .seq ([]:List Value).toArray}:Obj)) rfl
 let R:Result->Shared->Prop:=λr j=> ∃(g:gL) (k:Nat) (d:lA) (l:Nat),r= .ok (.ret (.ref s.heap.objs.size))/\j={s with heap:=g,toks:=k}/\(∀b o,s.heap.get? b=some o->g.get? b=some o)/\
  g.get? s.heap.objs.size=some {cls:= .type "list",dict:=none,data:= .seq d l,slots:= #[]}/\ItemsOf (λi v=> ∃t,v= .int (lo+(i:Int)*1) t) d (n-lo).toNat
 have fin: ∀{r j},R r j-> ∃v,r= .ok (.ret v)/\wpAny (model c w) A (match v with
   |Value.ref a=>do
    match(<-load a).data with
     |Data.seq xs _=>pure xs.toList
     |_=>unsupported "internal:collect"
   |_=>unsupported "internal:collect") Q E j:=λ{r j} C=>by
  obtain⟨g,k,d,l,rfl,rfl,hk,p,y⟩:=C;exact⟨_,rfl,gq (m:=load s.heap.objs.size) (wpAny_load p (gE (B g k d hk y)))⟩
 refine lQ (wpAny_extend_range (A:=A) (R:=R) (s:={s with heap:=s.heap.push {cls:= .type "list",data:= .seq ([]:List Value).toArray}}) G (iA _ x) ok.small (GI lo n) ok.2.2.2.2 _ _ 0 z λg k H l hk p y=>
  ⟨g,k,H,l,rfl,rfl,λb o e=>hk b o (iP (iJ e)) (iA _ e),p,y⟩) (λf j h=>?_) (λe j h=>?_)
 ·cases f with
  |done f=>
   obtain⟨v,hv,q⟩:=fin h;cases hv;exact q
  |again l=>exact⟨h.1,tE h.2 λr I x=>by obtain⟨v,rfl,q⟩:=fin x;exact q⟩
 ·obtain⟨v,hv,_⟩:=fin h;cases hv
def Bz{Q₁:hZ}{r:gm}{lo g:Int}{t u v:Tok}(p:A.handled=none)(l:IsRange s.heap r lo g 1 t u v)(ok:RgOk lo g)
  (h: ∀(d:gL) k (a:lA),(∀b o,s.heap.get? b=some o->d.get? b=some o)->ItemsOf (λi v=> ∃t,v= .int (lo+(i:Int)*1) t) a (g-lo).toNat->Q₁ (.ref d.objs.size) {s with heap:=d.push {cls:= .type "tuple",data:= .seq a},toks:=k}):
  codeAny (model c w) A (.call (.builtin "tuple.__new__") ⟨[.type "tuple",.ref r],[]⟩) (wants Q₁ E) s:=by
 refine Bh ?_;refine gq (m:=checkBuiltinCall "tuple.__new__" _) (Bf (F.newCall_tuple_1 _) (gE ⟨uM F.plain_tuple_new _,sU F.entry_tuple_new ?_⟩));rw[xb F.plain_tuple_new _];have z:=sub_tuple_self;have j:=init_tuple_lookup;have q:=madeHere_tuple;have y:s.TypeIs (.ref r) "range":=⟨_,l,rfl⟩
 have f:A.in1.handled=none:=p
 wp_walk using tm y,F5 f l ok
 intro d k a hk n;have x:a.size<=sizeLine:=by rw[n.1,iB];have:=ok.2.2.2.2;omega
 refine gq (m:=Builtin.Tuple.tupleExact a.toList.toArray) ?_;unfold Builtin.Tuple.tupleExact;refine lE ?_ (by show a.toList.toArray.size<=sizeLine;simpa using x);refine gE ?_;have e:a.toList.toArray=a:=by simp
 rw[e];exact h d k a hk n
def zM{Q:hZ}{r:gm}{lo g:Int}{t u v:Tok}(k:A.handled=none)(m:IsRange s.heap r lo g 1 t u v)(ok:RgOk lo g)
  (h: ∀(f:gL) j (e:lA),(∀b o,s.heap.get? b=some o->f.get? b=some o)->ItemsOf (λi v=> ∃t,v= .int (lo+(i:Int)*1) t) e (g-lo).toNat->Q (.ref f.objs.size) {s with heap:=f.push {cls:= .type "tuple",data:= .seq e},toks:=j}):
  wpAny (model c w) A (call (.type "tuple") [.ref r]) Q E s:=by
 refine callType_codes (Q₁:=λobj a=>a.TypeIs obj "tuple"/\Q obj a) MC (F.typeCall_tuple_1 _) Jq
  (Bz k m ok λf j e l n=>⟨⟨_,jr _ rfl,rfl⟩,h f j e l n⟩) λobj a d=>?_
 exact⟨d.1,F.args_object_init_2 obj _,object_init_meets MC.init.lookup MC.made (by decide) c w A.in1 _ a ⟨d.1,rfl,d.2⟩⟩
end
section
variable {X:Cx}
def AG:ju X (.type "range") (λc H Q=> ∃i j,c=[.int i,.int j]/\ ∀r,H r=none->Q (.ref r) (upd H r (.rng i j))):=by
 intro a s k H c g Q I r h;obtain⟨i,j,rfl,h⟩:=h;obtain⟨u,f,rfl,⟨t,rfl⟩,⟨d,rfl⟩⟩:=tL r;exact call_range_2 ⟨.ref _,_,I.laid (o:= .rng i j) (λb o e=>iA _ e) (iY _) ⟨_,_,_,jr _ rfl⟩,rfl,h _ I.fresh⟩
def zO(j:X.calm=true):ju X (.type "list") (λg H Q=> ∃r lo b,g=[.ref r]/\H r=some (.rng lo b)/\RgOk lo b/\ ∀l,H l=none->Q (.ref l) (upd H l (.lst (rgV lo b)))):=by
 intro f s y H g x Q I i h;obtain⟨r,lo,b,rfl,k,ok,h⟩:=h;obtain⟨u,rfl,n⟩:=pP i;cases n;obtain⟨t,u,v,er⟩:=I.hok r _ k;refine call_list_range (A:=X.A) (I.ok.hd j) er ok.small (GI lo b) ok.2.2.2.2 λp q d c m e a=>?_;have o:=ym a;refine⟨.ref _,_,I.laid m (iY _) (show ObjOk X.prog X.w _ _ _ (.lst (rgV lo b)) from⟨?_,d.toList,c,o,by simpa using e⟩),rfl,h _ I.fresh⟩;have:=ok.2.2.2.2;simp only[rgV,jm,List.length_range,iB];omega
def yZ(m:X.calm=true):ju X (.type "tuple") (λj H Q=> ∃r lo d,j=[.ref r]/\H r=some (.rng lo d)/\RgOk lo d/\ ∀l,H l=none->Q (.ref l) (upd H l (.tup (rgV lo d)))):=by
 intro f s z H j B Q I k h;obtain⟨r,lo,d,rfl,n,ok,h⟩:=h;obtain⟨u,rfl,q⟩:=pP k;cases q;obtain⟨t,u,v,er⟩:=I.hok r _ n;refine zM (A:=X.A) (I.ok.hd m) er ok λi y c p a=>?_;have x:=ym a;have g:Inv X f z H {s with heap:=i,toks:=y}:=I.kept p;refine⟨.ref _,_,g.laid (λb o e=>iA _ e) (iY _) (show ObjOk X.prog X.w _ _ _ (.tup (rgV lo d)) from⟨?_,c.toList,x,by have:=uX i c;simpa using this⟩),rfl,h _ g.fresh⟩;have:=ok.2.2.2.2;simp only[rgV,jm,List.length_range,iB];omega
noncomputable def gRg(mk:List D->D)(o:Bool):List D->Option (D×Bool)
 |[.int j]=>if RgOk 0 j then some (mk (ig 0 j.toNat),o) else none
 |[.int i,.int j]=>if RgOk i j then some (mk (ig i (j-i).toNat),o) else none
 |_=>none
def GJ{K H}(lo a:Int):RepL K H O (ig lo (a-lo).toNat) (rgV lo a):=Fl lo _
variable {a b:gw}{n m:FO}{p g d f:Pos}
def CU(h:upd H r o l=none):H l=none:=by
 by_cases e:l=r
 ·subst e;rw[gU] at h;cases h
 ·rwa [gQ e] at h
def AO{K:gK}{T q:AP'}{s:L2.St}{r c:Dn}{H o:Hp}{os:List Opd}{l:List V}{e:List D}(B:Ops K T s r H os l c o q)(h:si c os=some e){is:gC}(hd:e=is.map .int):l=is.map .int:=by
 obtain⟨h1,t⟩:=my h;apply uO;intro j;by_cases k:j<is.length
 ·rw[qB B h (j:=j) (i:=is[j]) (by rw[hd];simp[k])];simp[k]
 ·have u:=B.len;subst hd;simp at h1;rw[List.getElem?_eq_none (by omega),List.getElem?_eq_none (by simp;omega)]
def QE{T:String}{z:Str}{mk:List D->D}{o:Bool}(hT:(T="list"/\mk= .lst/\o=true)\/(T="tuple"/\mk= .tup/\o=false))(O:X.calm=true)(U:Gl X z)(Y:X.mg z=none)(hv:bootBuiltins z=some (.type T))(hn:z≠"__name__")(j5:(z==("__debug__":Str))=false)
  (M:Gl X "range")(L:X.mg "range"=none)(N:PA X [a,b] (tA X.K [n,m]))
  (s1:starEach [.Call (.Name "range" g) [a,b] [] f] X.env=(false,eval (.Call (.Name "range" g) [a,b] [] f) X.env)::starEach [] X.env)(s2:starEach [a,b] X.env=(false,eval a X.env)::starEach [b] X.env)
  (i6:(backTo d (starEach [] X.env)).any (·.1)=false)(J:(backTo f (starEach [b] X.env)).any (·.1)=false):
  PX X (.Call (.Name z p) [.Call (.Name "range" g) [a,b] [] f] [] d) (gJ (gRg mk o) [n,m]):=by
 have t: ∀{w c:Dn} {os:List Opd},jk [n,m] w=some (os,c)->os.length=2:=λ{w c os} h1=>by
  unfold jk at h1;obtain⟨p,q1,h1⟩:=gh h1;obtain⟨q,v,h1⟩:=gh h1;unfold jk at v;obtain⟨p3,q3,v⟩:=gh v;obtain⟨q4,F,v⟩:=gh v;unfold jk at F;cases F;obtain⟨rfl,rfl⟩:=gM h1;cases v;rfl
 rcases hT with⟨rfl,rfl,rfl⟩|⟨rfl,rfl,rfl⟩
 ·refine PX.imp (oF (zO O) U Y hv (ke (oF AG M L Bq N (by decide) (by decide) s2 J) nv s1) hn j5 s1 i6) λZ H Q C=>?_;obtain⟨w,T,S,I,E,e,k⟩:=C;obtain⟨⟨os,c⟩,h1,e⟩:=gh e;obtain⟨R,y,e⟩:=gh e;obtain⟨W,h,e⟩:=gh e;obtain⟨rfl,rfl⟩:=gM e;refine⟨w,T,os,c,E,h1,λV x P B=>?_⟩;unfold gRg at h;split at h
  ·obtain⟨s,_⟩:=my y;have:=t h1;simp at s;omega
  ·rename_i i j;obtain⟨ok,rfl⟩:=hV h;refine⟨i,j,AO B y (is:=[i,j]) rfl,λr A=>⟨r,i,j,rfl,gU,ok,λl s=>?_⟩⟩;have G: ∀a u,x a=some u->upd (upd x r (.rng i j)) l (.lst (rgV i j)) a=some u:=λa u e=>ky s a u (ky A a u e);exact(B.done k) l _ (CU s) G ⟨rgV i j,gU,GJ i j⟩
  ·cases h
 ·refine PX.imp (oF (yZ O) U Y hv (ke (oF AG M L Bq N (by decide) (by decide) s2 J) nv s1) hn j5 s1 i6) λZ H Q C=>?_;obtain⟨w,T,S,I,E,e,k⟩:=C;obtain⟨⟨os,c⟩,h1,e⟩:=gh e;obtain⟨R,y,e⟩:=gh e;obtain⟨W,h,e⟩:=gh e;obtain⟨rfl,rfl⟩:=gM e;refine⟨w,T,os,c,E,h1,λV x P B=>?_⟩;unfold gRg at h;split at h
  ·obtain⟨s,_⟩:=my y;have:=t h1;simp at s;omega
  ·rename_i i j;obtain⟨ok,rfl⟩:=hV h;refine⟨i,j,AO B y (is:=[i,j]) rfl,λr A=>⟨r,i,j,rfl,gU,ok,λl s=>?_⟩⟩;have G: ∀a u,x a=some u->upd (upd x r (.rng i j)) l (.tup (rgV i j)) a=some u:=λa u e=>ky s a u (ky A a u e);exact(B.done k) _ _ G (Rep.mkTup ⟨gU,B.np (nOw (CU s))⟩ (GJ i j))
  ·cases h
end
def Src(h:gL)(a l:gm)(i:Nat)(b:lA):Prop:=(h.IsListIter a l i/\h.IsList l b)\/(h.IsTupleIter a l i/\h.IsTuple l b)
section
variable {prog:gS}{w:gO}{A:gR}{E:hZ}{s:gu}{it l:gm}{i:Nat}{xs:lA}
theorem Src.ne(x:Src h it l i xs):l≠it:=by
 intro e;subst e;rcases x with⟨⟨o,h1,b,a⟩,c,g1,g2,n,g3⟩|⟨⟨o,h1,b,a⟩,c,g1,g2,n,g3⟩<;>(rw[h1] at g1;cases g1;rw[a] at g3;cases g3)
def Src.lt(x:Src h it l i xs):it<h.objs.size/\l<h.objs.size:=by
 rcases x with⟨⟨o,h1,_⟩,a,g1,_⟩|⟨⟨o,h1,_⟩,a,g1,_⟩<;>exact⟨iJ h1,iJ g1⟩
def Src.keep(x:Src h it l i xs)(c: ∀o,h.get? it=some o->h'.get? it=some o)(d: ∀o,h.get? l=some o->h'.get? l=some o):Src h' it l i xs:=by
 rcases x with⟨⟨o,h1,r⟩,a,g1,b⟩|⟨⟨o,h1,r⟩,a,g1,b⟩
 ·exact .inl ⟨⟨o,c _ h1,r⟩,a,d _ g1,b⟩
 ·exact .inr ⟨⟨o,c _ h1,r⟩,a,d _ g1,b⟩
def Aa{Q:hZ}(c:s.heap.IsTupleIter it l i)(q:s.heap.IsTuple l xs)(n: ∀x,xs[i]?=some x-> ∀b,b.IsTupleIter it l (i+1)->Heap.SameBut it s.heap b->Q x {s with heap:=b})
  (g:xs[i]?=none->A.handled=none/\ ∀b e,Heap.ExtBut it s.heap b->(∃o,b.get? e=some o/\o.cls= .type "StopIteration")->E (.ref e) {s with heap:=b}):wpAny (model prog w) A (Builtin.SmallTypes.nextOf (.ref it)) Q E s:=by
 obtain⟨o,d,p,hd⟩:=id c;obtain⟨t,k,_,r,j⟩:=q;unfold Builtin.SmallTypes.nextOf;refine gq (tu (name:=Str.ofString "__next__") c.typeIs Jp (pY Jp c.typeIs F.entry_tuple_iterator_next ?_ (F.args_tuple_iterator_next_1 _)));refine gq (m:=field (.ref it) 0) (lN d hd (x:= .ref l) rfl ?_);show wpAny _ _ (if(Value.ref l==Value.none)=true then _ else _) _ _ s;rw[hJ (by show ¬(Value.ref l==Value.none)=true;exact jT)];refine gq (m:=field (.ref it) 1) (lN d hd (x:= .int i 0) rfl ?_);refine gq (m:=seqItems? (.ref l)) (uL k j ?_)
 cases f:xs[i]? with
 |some x=>
  simp only[xN,f];refine gq (Be d hd (by simp) (gE ⟨x,rfl,gE (n x f _ ⟨_,xM _ d (Jo (Bc hd _)),(Obj.cls_mapFields ..).trans p,?_⟩ (xa ..))⟩));rw[Bc hd];simp[rawInt]
 |none=>
  obtain⟨h,g⟩:=g f;simp only[xN,f];refine gq (rJ (gq (Be d hd (by simp) ?_)));refine gq (m:=newExc (.type "StopIteration") []) ?_;simp only[newExc,newTuple];refine gq (lE (gq (m:=firstArgMember _ _) (Bf (a:=Value.none) (by first|rfl|(simp only[firstArgMember];rfl)) ?_)) (by size_fits));refine lE ?_ (by size_fits);simp only[raiseNew];refine gq (wpAny_handled ?_)
  first|rw[show A.in1.handled=none from h]|rw[h]
  exact gq (gE (wpAny_throw (g _ _ (((xa ..).extBut.push _).push _) ⟨_,jr _ rfl,rfl⟩)))
def Src.item{x:gz}{Q:hZ}(st:Src s.heap it l i xs)(g:xs[i]?=some x)(h: ∀c,Src c it l (i+1) xs->Heap.SameBut it s.heap c->Q x {s with heap:=c}):
  wpAny (model prog w) A (Builtin.SmallTypes.nextOf (.ref it)) Q E s:=by
 have ne:=st.ne;rcases st with⟨a,b⟩|⟨a,b⟩
 ·exact wpAny_nextOf_list_item a b g λc f d=>h c (.inl ⟨f,b.extBut d.extBut ne⟩) d
 ·exact Aa a b (λj e c f d=>by rw[g] at e;cases e;exact h c (.inr ⟨f,b.extBut d.extBut ne⟩) d) λe=>by rw[g] at e;cases e
def Src.stop{Q:hZ}(f:A.handled=none)(st:Src s.heap it l i xs)(g:xs[i]?=none)
  (d: ∀c e,Heap.ExtBut it s.heap c->(∃o,c.get? e=some o/\o.cls= .type "StopIteration")->E (.ref e) {s with heap:=c}):wpAny (model prog w) A (Builtin.SmallTypes.nextOf (.ref it)) Q E s:=by
 rcases st with⟨a,b⟩|⟨a,b⟩
 ·exact wpAny_nextOf_list_end f a b g d
 ·exact Aa a b (λx e=>by rw[g] at e;cases e) λ_=>⟨f,d⟩
theorem Src.new(a:s.heap.IsList l xs\/s.heap.IsTuple l xs)(d: ∀c,Src c s.heap.objs.size l 0 xs->c.objs.size=s.heap.objs.size+1->(∀b o,s.heap.get? b=some o->c.get? b=some o)->Q (.ref s.heap.objs.size) {s with heap:=c}):
  wpAny (model prog w) A (pyIter (.ref l)) Q E s:=by
 rcases a with a|a
 ·exact Br a (d _ (.inl ⟨⟨_,jr _ rfl,rfl,rfl⟩,a.push _⟩) (rF ..) λb o e=>iA _ e)
 ·exact wpAny_pyIter_tuple a (d _ (.inr ⟨⟨_,jr _ rfl,rfl,rfl⟩,a.push _⟩) (rF ..) λb o e=>iA _ e)
end
section
variable {h:gS}{w:gO}{A:gR}{E:hZ}{s:gu}{e f l:gm}{i:Nat}{c:Int}{j:lA}
def IC{x z:gz}{Q:hZ}(he:IsEnum s.heap e f c z)(st:Src s.heap f l i j)(hx:j[i]?=some x)(j9:e≠f)(df:e≠l)
  (hQ: ∀L,IsEnumOut L e f (c+1) x s.heap.objs.size->Src L f l (i+1) j->L.get? s.heap.objs.size=some {cls:= .type "tuple",data:= .seq #[.int c s.toks,x]}->L.objs.size=s.heap.objs.size+1->
   (∀b o,b≠e->b≠f->s.heap.get? b=some o->L.get? b=some o)->Q (.ref s.heap.objs.size) {s with heap:=L,toks:=s.toks+1}):
  wpAny (model h w) A (Builtin.«enumerate.__next__» ⟨[.ref e],[]⟩) (λfin s'=> ∃v,fin= .done (.ret v)/\Q v s') E s:=by
 obtain⟨H,g,d,n,os⟩:=s;refine gq (m:=field (.ref e) 2) (lN he rfl (x:= .ref f) rfl (gq (st.item hx λk J O=>?_)));replace O:Heap.SameBut f H k:=O;have V:IsEnum k e f c z:=(O.2 e j9).trans he;refine gq (m:=field (.ref e) 3) (lN (s:=⟨k,g,d,n,os⟩) V rfl (x:=rawInt c) rfl ?_);refine gq (m:=field (.ref e) 4) (lN (s:=⟨k,g,d,n,os⟩) V rfl (x:= .none) rfl ?_);refine gq (m:=mkInt c) (wpAny_mkInt (s:=⟨k,g,d,n,os⟩) ?_);refine gq (m:=setField (.ref e) 3 (rawInt (c+1))) (rC (s:=⟨k,g,d,n+1,os⟩) V (by simp) λr S N=>?_);replace N:Heap.SameBut e k r:=N;replace S:IsEnum r e f (c+1) z:=S;refine gq (m:=setField (.ref e) 4 .none) (rC (s:=⟨r,g,d,n+1,os⟩) S (by simp) λa R M=>?_);replace M:Heap.SameBut e r a:=M;replace R:IsEnum a e f (c+1) z:=R;refine gq (m:=newTuple [.int c n,x]) (Bb (s:=⟨a,g,d,n+1,os⟩) ?_);have I:a.objs.size=H.objs.size:=by rw[M.1,N.1,O.1]
 have Y:IsEnum (a.push {cls:= .type "tuple",data:= .seq #[.int c n,x]}) e f (c+1) z:=iA _ R;have X:e<H.objs.size:=iJ he;have B:(a.push {cls:= .type "tuple",data:= .seq #[.int c n,x]}).get? H.objs.size=some {cls:= .type "tuple",data:= .seq #[.int c n,x]}:=by rw[<-I];exact jr _ rfl
 have up: ∀b o,b≠e->b≠f->H.get? b=some o->(a.push {cls:= .type "tuple",data:= .seq #[.int c n,x]}).get? b=some o:=λb o G F q=>iA _ (M.extBut b o G (N.extBut b o G (O.extBut b o F q)));have C:Src (a.push {cls:= .type "tuple",data:= .seq #[.int c n,x]}) f l (i+1) j:=J.keep (λo q=>iA _ (M.extBut _ o j9.symm (N.extBut _ o j9.symm q))) (λo q=>iA _ (M.extBut _ o df.symm (N.extBut _ o df.symm q)));have Z:(a.push {cls:= .type "tuple",data:= .seq #[.int c n,x]}).objs.size=H.objs.size+1:=by rw[rF,I]
 rw[I];generalize (a.push {cls:= .type "tuple",data:= .seq #[.int c n,x]})=p at Y B up C Z;refine gq (m:=Builtin.SmallTypes.ownedTupleIsFree (.ref e)) ?_;unfold Builtin.SmallTypes.ownedTupleIsFree;refine gq (lN (s:=⟨p,g,d,n+1,os⟩) Y rfl (x:= .none) rfl (gE ?_));simp only[ja];refine gq (rJ (gq (lN (s:=⟨p,g,d,n+1,os⟩) Y rfl (x:=z) rfl (gq (rC (s:=⟨p,g,d,n+1,os⟩) Y (by simp) λt P D=>?_)))));replace D:Heap.SameBut e p t:=D;replace P:IsEnum t e f (c+1) x:=P;refine gq (m:=Builtin.SmallTypes.ownedTupleHandOut (.ref e) (.ref H.objs.size)) ?_;unfold Builtin.SmallTypes.ownedTupleHandOut;refine gq (rC (s:=⟨t,g,d,n+1,os⟩) P (by simp) λu K U=>?_);replace U:Heap.SameBut e t u:=U;replace K:IsEnumOut u e f (c+1) x H.objs.size:=K;refine rC (s:=⟨u,g,d,n+1,os⟩) K (by simp) λy W T=>?_;replace T:Heap.SameBut e u y:=T;replace W:IsEnumOut y e f (c+1) x H.objs.size:=W;have all: ∀b o,b≠e->p.get? b=some o->y.get? b=some o:=λb o G q=>T.extBut b o G (U.extBut b o G (D.extBut b o G q));refine gq (Ba (gE ⟨_,rfl,hQ y W (C.keep (λo q=>all _ o j9.symm q) λo q=>all _ o df.symm q) (all _ _ (mH X) B) ?_ λb o G F q=>all b o G (up b o G F q)⟩));rw[T.1,U.1,D.1,Z]
def vq{x m:gz}{Q:CC}(p:IsEnum s.heap e f c m)(st:Src s.heap f l i j)(t:j[i]?=some x)(u:e≠f)(q:e≠l)
  (r: ∀g,IsEnumOut g e f (c+1) x s.heap.objs.size->Src g f l (i+1) j->g.get? s.heap.objs.size=some {cls:= .type "tuple",data:= .seq #[.int c s.toks,x]}->g.objs.size=s.heap.objs.size+1->
   (∀b o,b≠e->b≠f->s.heap.get? b=some o->g.get? b=some o)->Q (some (.ref s.heap.objs.size)) {s with heap:=g,toks:=s.toks+1}):
  wpAny (model h w) A (pyNext (.ref e)) Q E s:=by
 have n:s.TypeIs (.ref e) "enumerate":=⟨_,p,rfl⟩
 unfold pyNext
 exact gq (sQ (tu (name:=Str.ofString "__next__") n A9 (pY A9 n Jn
  (IC p st t u q λg a b c d k=>gE (r g a b c d k)) (Jm _))))
def wy{d:gz}{Q:CC}(r:A.handled=none)(k:IsEnum s.heap e f c d)(st:Src s.heap f l i j)(u:j[i]?=none)
  (p: ∀a,Heap.ExtBut f s.heap a->Q none {s with heap:=a}):wpAny (model h w) A (pyNext (.ref e)) Q E s:=by
 have g:s.TypeIs (.ref e) "enumerate":=⟨_,k,rfl⟩
 unfold pyNext;refine gq (sQ (tu (name:=Str.ofString "__next__") g A9 (pY A9 g Jn ?_ (Jm _))));refine gq (m:=field (.ref e) 2) (lN k rfl (x:= .ref f) rfl (gq (st.stop r u λa x n ⟨o,t,q⟩=>?_)));exact gq (A8 (T:="StopIteration") (b:=true) ⟨o,t,q⟩ En (gE (p _ n)))
end
section
variable {X:Cx}{d:hG}{g:L2.St}{H:Hp}{s:gu}{f:gL}
def zY{t':Nat}{ch:ji}{a:gm}{o:HO}(I:Inv X d g H s)(j: ∀b∈ch,qx X d H b)(k: ∀b u,b∉ch->s.heap.get? b=some u->f.get? b=some u)(p:s.heap.objs.size<=a)(new:ObjOk X.prog X.w (upd H a o) f a o):
  Inv X d g (upd H a o) {s with heap:=f,toks:=t'}:=by
 have G:=I.hok.fresh p;have l: ∀b u,H b=some u->b∉ch:=λb u e z=>by have:=(j b z).1;rw[this] at e;cases e
 have up: ∀b u,H b=some u->upd H a o b=some u:=λb u e=>by rw[gQ (jS e G)];exact e
 have C: ∀b u,s.heap.get? b=some u->H b=none->upd H a o b=none:=λb u e n=>by
  rw[gQ (λz=>by subst z;exact absurd (iJ e) (MF.mpr p))];exact n
 refine I.step (g':=s.gens) (d':=s.drawn) (ch:=ch) (λb i=>?_) (λb u _ _ h e _=>k b u h e) (λb u _ _ h e _=>⟨u.slots,k b u h e⟩) (λb u _ e n=>C b u e n)
  (λb u h e=>⟨u,k b u h e⟩) (λb L e=>up b _ e) (λb _ _ e=>up b _ e) (λb M e=>⟨#[],by rw[up b _ e];simp⟩) (λm E=>?_) (λb u e=>?_) I.bare
 ·obtain⟨_,f1,f2,y,A,B⟩:=j b i;exact⟨y,f1,A,B⟩
 ·obtain⟨u,x,t,J,r⟩:=E;exact⟨u,x,t,k _ u (λz=>(j _ z).2.1 rfl) J,r⟩
 ·by_cases i:b=a
  ·subst i;rw[gU] at e;cases e;exact new
  ·rw[gQ i] at e;refine(I.hok b u e).stay (λc v h q=>k c v ?_ q) (λc q=>up c _ q) (λc L q=>up c _ q) λc _ _ q=>up c _ q;rcases h with z|z
   ·rw[z];exact l b u e
   ·exact l c _ z
def zZ{t':Nat}{ch:ji}(I:Inv X d g H s)(h: ∀b∈ch,qx X d H b)(k: ∀b u,b∉ch->s.heap.get? b=some u->f.get? b=some u):Inv X d g H {s with heap:=f,toks:=t'}:=by
 have i: ∀b u,H b=some u->b∉ch:=λb u e z=>by have:=(h b z).1;rw[this] at e;cases e
 refine I.step (g':=s.gens) (d':=s.drawn) (ch:=ch) (λb w=>?_) (λb u _ _ a e _=>k b u a e) (λb u _ _ a e _=>⟨u.slots,k b u a e⟩) (λb u _ e n=>n)
  (λb u a e=>⟨u,k b u a e⟩) (λb A e=>e) (λb _ _ e=>e) (λb B e=>⟨#[],by rw[e];simp⟩) (λm x=>?_) (λb u e=>?_) I.bare
 ·obtain⟨_,f1,f2,o,p,t⟩:=h b w;exact⟨o,f1,p,t⟩
 ·obtain⟨u,l,j,y,r⟩:=x;exact⟨u,l,j,k _ u (λz=>(h _ z).2.1 rfl) y,r⟩
 ·refine(I.hok b u e).stay (λc v a q=>k c v ?_ q) (λc q=>q) λc A q=>q;rcases a with z|z
  ·rw[z];exact i b u e
  ·exact i c _ z
end
def SqX(b:Bool)(K:gK)(H:Hp)(l:gm)(a:List V):Prop:=if b=true then SqL K H l a else SqT K H l a
def ItX(b:Bool)(h:gL)(a l:gm)(i:Nat):Prop:=if b=true then h.IsListIter a l i else h.IsTupleIter a l i
def ItX.keep(x:ItX b h it l i)(k: ∀o,h.get? it=some o->h'.get? it=some o):ItX b h' it l i:=by
 cases b
 ·exact PySem.Heap.IsTupleIter.at (show h.IsTupleIter it l i from x) k
 ·exact PySem.Heap.IsListIter.at (show h.IsListIter it l i from x) k
def ItX.obj(x:ItX b h it l i): ∃o,h.get? it=some o/\ ∀v,o.data≠ .cell v:=by
 cases b<;>(obtain⟨o,e,c,d⟩:=x;exact⟨o,e,λv z=>by rw[d] at z;cases z⟩)
section
variable {X:Cx}{d:hG}{e:L2.St}{H:Hp}{s:gu}
def qE(I:Inv X d e H s)(q:SqX b X.K H l xs)(t:ItX b s.heap it l i): ∃a,Vals xs a/\Src s.heap it l i a.toArray:=by
 cases b with
 |true=>obtain⟨a,v,p,_⟩:=I.list q;exact⟨a,v,.inl ⟨t,p.isList⟩⟩
 |false=>obtain⟨a,v,p,_⟩:=I.tuple q;exact⟨a,v,.inr ⟨t,p⟩⟩
theorem BF(I:Inv X d e H s)(q:SqX b X.K H l xs)(a:SqX b X.K H l c):xs=c:=by
 cases b with
 |true=>exact I.list_inj q a
 |false=>exact I.tuple_inj q a
def FP(t:ItX b h it l i)(m:Src h it l i xs)(j:Src k it l i' xs)(n: ∀o,h.get? l=some o->k.get? l=some o):ItX b k it l i':=by
 cases b with
 |true=>
  rcases j with⟨a,_⟩|⟨a,c⟩
  ·exact a
  ·rcases m with⟨_,o,h1,f,_⟩|⟨⟨o,h1,f,_⟩,_⟩
   ·obtain⟨g,g1,g2,_⟩:=c;rw[n _ h1] at g1;cases g1;rw[f] at g2;injection g2 with g2;exact absurd g2 (by decide)
   ·obtain⟨g,g1,g2,_⟩:=t;rw[h1] at g1;cases g1;rw[f] at g2;injection g2 with g2;exact absurd g2 (by decide)
 |false=>
  rcases j with⟨a,c⟩|⟨a,_⟩
  ·rcases m with⟨⟨o,h1,f,_⟩,_⟩|⟨_,o,h1,f,_⟩
   ·obtain⟨g,g1,g2,_⟩:=t;rw[h1] at g1;cases g1;rw[f] at g2;injection g2 with g2;exact absurd g2 (by decide)
   ·obtain⟨g,g1,g2,_⟩:=c;rw[n _ h1] at g1;cases g1;rw[f] at g2;injection g2 with g2;exact absurd g2 (by decide)
  ·exact a
end
noncomputable def ItE(b:Bool)(K:gK)(l:gm)(c:Int):It:=⟨λi H=> ∃a x,SqX b K H l a/\a[i]?=some x,
 λi H x d=> ∃(T:gm) (y:V),x= .ref T/\H T=none/\d=upd H T (.tup [.int (c+i),y])/\ ∀a,SqX b K H l a->a[i]?=some y,λi H=> ∃a,SqX b K H l a/\a.length<=i⟩
def HJ{P:gS}{w:gO}{K:gK}{n:iO}{k1}{pos:Pos}(b:Bool)(e j l:gm)(c:Int)(j9:e≠j):
  Turn P w K (.Tuple n k1 pos) (ItE b K l c) [e,j] e (λi h=>(∃d,IsEnum h e j (c+i) d)/\ItX b h j l i) where
 mem:=by simp
 obj:=λi h st a G=>by
  obtain⟨⟨d,g⟩,st⟩:=st;have n8:a=e\/a=j:=by simpa using G
  rcases n8 with rfl|rfl
  ·exact⟨_,g,λv z=>by
    have z':Data.fields _=Data.cell v:=z;cases z'⟩
  ·exact st.obj
 keep:=λi h h' st k=>by
  obtain⟨⟨d,g⟩,st⟩:=st;exact⟨⟨d,k e (by simp) _ g⟩,st.keep λo q=>k j (by simp) o q⟩
 item:=by
  intro X Q U O V i m s σ H E I t st T;subst Q U O;obtain⟨⟨d,g⟩,st⟩:=st;obtain⟨xs,x,J,Y⟩:=T;obtain⟨D,F,f⟩:=qE I J st;obtain⟨u,hu,ru⟩:=F.get Y
  have N:e≠l:=λz=>by
   subst z;have W:=(t e (by simp)).1;rcases f with⟨_,o,h1,C,_⟩|⟨_,o,h1,C,_⟩<;>(have S:s.heap.get? e=_:=g;rw[h1] at S;cases S;injection C with C;exact absurd C (by decide))
  refine vq g f (x:=u) (by simpa using hu) j9 N λh' ho y hT hsz kp=>⟨.ref s.heap.objs.size,rfl,?_⟩
  refine wpAny_letOwnedTupleGo_enum ho λB p M=>?_;have r:e<s.heap.objs.size:=iJ g
  have R: ∀a o,a∉[e,j]->s.heap.get? a=some o->B.get? a=some o:=λa o L q=>by
   have Z:a≠e:=λz=>L (by simp[z]);have n2:a≠j:=λz=>L (by simp[z]);exact M.extBut a o Z (kp a o Z n2 q)
  have cx:B.get? s.heap.objs.size=some {cls:= .type "tuple",data:= .seq #[.int (c+i) s.toks,u]}:=M.extBut _ _ (mH r) hT
  have I1:Inv X m σ (upd H s.heap.objs.size (.tup [.int (c+i),x])) {s with heap:=B,toks:=s.toks+1}:=
   zY I t R (iY _) (show ObjOk X.prog X.w _ _ _ (.tup [.int (c+i),x]) from⟨by show 2<=sizeLine;decide,[.int (c+i) s.toks,u],.cons ⟨_,rfl⟩ (.cons ru .nil),_,cx,rfl,0,rfl⟩)
  have A:ItX b B j l (i+1):=by
   refine FP st f (y.keep (λo q=>M.extBut _ o j9.symm q) λo q=>M.extBut _ o N.symm q) λo q=>R l o ?_ q;have:=f.ne;simp only[jM,kx,lD,pX];exact⟨N.symm,this⟩
  refine⟨.ref s.heap.objs.size,_,I1,rfl,⟨_,x,rfl,I.fresh,rfl,λys hy=>by rw[BF I hy J];exact Y⟩,⟨⟨u,?_⟩,A⟩,λa G=>?_⟩
  ·have e1:c+((i+1:Nat):Int)=c+i+1:=by omega
   show IsEnum B e j (c+((i+1:Nat):Int)) u;rw[e1];exact p
  ·have W:=(t a G).1;rw[gQ]
   ·exact W
   ·intro z;have l5:a=e\/a=j:=by simpa using G
    rcases l5 with rfl|rfl
    ·exact absurd z (iP r)
    ·exact absurd z (iP f.lt.1)
 done:=by
  intro X Q U O V i m s σ H E I t st T;subst Q U O;obtain⟨⟨d,g⟩,st⟩:=st;obtain⟨xs,J,Y⟩:=T;obtain⟨D,F,f⟩:=qE I J st;have hl:=F.length;exact wy (I.ok.hd V) g f (by simp;omega) λh' eb=>⟨rfl,zZ (t':=s.toks) I t λa o L q=>eb a o (λz=>L (by simp[z])) q⟩
 self:=λ_ _ _ _ _ st h=>by
  obtain⟨⟨d,g⟩,_⟩:=st;exact wpAny_pyIter_enum g h
def yg{K H}(q:SqA b K H P a xs):SqX b K H a xs:=by
 cases b with
 |true=>exact q.l
 |false=>exact q.t
def Iu{K:gK}{P O:AP'}{h:Hp}{a:gm}{g:List V}{l:List D}{b:Bool}{c:Int}(q:SqA b K h P a g)(r:RepL K h O l g)(A: ∀a,P a->O a):
  ItOk K (ItE b K a c) (l.zipIdx.map λp=> .tup [.int (c+p.2),p.1]) P O h:=by
 have sq: ∀Hi,(∀a o,h a=some o-> ¬P a->Hi a=some o)->SqX b K Hi a g:=λHi f=>yg (q.mono f λ_ z=>z);refine⟨λi d Hi hd f=>?_,λi Hi C f=>⟨g,sq Hi f,by rw[r.length];simpa using C⟩⟩;rw[jL] at hd;obtain⟨⟨J,j⟩,h1,u⟩:=ie hd;rw[Eo] at h1;obtain⟨L,v,w⟩:=ie h1;obtain⟨rfl,rfl⟩:=sZ w;obtain⟨x,s,G⟩:=r.get v;refine⟨⟨g,x,sq Hi f,s⟩,λy H E=>?_⟩;obtain⟨T,z,rfl,m,rfl,k⟩:=E;have k:=k g (sq Hi f);rw[s] at k;cases k;have ext:=ky (o:= .tup [.int (c+i),x]) m;refine⟨ext,λI h1 t=>?_⟩;subst u;refine Rep.mkTup ⟨gU,t T m⟩ (RepL.cons ?_ (RepL.cons (Rep.mono (λb o e n=>ext b o (f b o e λz=>n (A b z))) (λb B z=>h1 b B z) G) RepL.nil));simp only[vN];exact Rep.mkInt
open AutoSeq1 (wpAny_loadPart')
section
variable {f:gS}{w:gO}{A:gR}{E:hZ}{s:gu}
def Sd{T a:String}{self:gz}{rz:ik}{kw:List (Str×Value)}(g:typeLookup (.type T) "__init__"=pure (some (.builtin "object.__init__")))(h:Bind.madeBy (.type T)=pure (some a))(i:(some a !=some "object.__new__")=true):
  Meets (Builtin.«object.__init__» ⟨self::rz,kw⟩) (λ_ R s=>s.TypeIs self T/\R (.ok (.ret .none)) s):=by
 refine Meets.of_wp λf w A R s d=>?_;obtain⟨e,c⟩:=d;by_cases b:(!rz.isEmpty||!kw.isEmpty)=true
 ·unfold Builtin.«object.__init__»;simp only[b,ja]
  repeat (any_goals (first|assumption|wp_step))
  exact⟨_,rfl,c⟩
 ·unfold Builtin.«object.__init__»;simp only[b,jl];exact gE ⟨_,rfl,c⟩
def Gd{T b:String}{t:Builtin}{a:ik}{kw:List (Str×Value)}{S:PySem.Spec}{Q:hZ}(i:TypeCalled T b "object.__init__")(I:(some b !=some "object.__new__")=true)(G:checkTypeCall T ⟨a,kw⟩=pure ())
  (y:checkBuiltinCall b ⟨.type T::a,kw⟩=pure ())(p: ∀obj,argsOk "object.__init__" ⟨obj::a,kw⟩)(j:entryFor table b=some t)(g:Meets (t ⟨.type T::a,kw⟩) S)
  (h:S A.in1 (wants (λobj d=>d.TypeIs obj T/\Q obj d) E) s):wpAny (model f w) A (call (.type T) a kw) Q E s:=by
 obtain⟨c,L,v⟩:=i.mro;have o:=i.made;have M:=i.sub;refine xQ (Bh ?_);show wpAny _ _ (callAny (.type T) _) _ _ _;refine gE ⟨Code.quiet_builtin _ (by decide+kernel),sU F.entry_type_call ?_⟩;rw[Around.under_plain (weight_type_call_type T a kw) (units_type_call_type T a kw)];have h1:=i.notType;have J:=i.canCreate
 repeat (any_goals (first|assumption|wp_step))
 refine tE (A7 i.plain j (Bf y (g f w A.in1 _ s h))) λr d q=>?_
 cases r with
 |error e=>exact q
 |ok z=>
  cases z with
  |ret obj=>
   obtain⟨u,x⟩:=q;have H:=i.init.lookup;have C:=i.init.bind obj
   repeat (any_goals (first|assumption|wp_step))
   have B:=Sd (self:=obj) (rz:=a) (kw:=kw) i.init.lookup i.made I;refine tE (A7 i.init.plain Jq (i.init.check _ _ _ _ _ _ _ _ u (p obj) (B f w A.in1 (wants (λr k=>r= .none/\Q obj k) E) d ⟨u,rfl,x⟩))) λm k n=>?_
   cases m with
   |error e=>exact n
   |ok l=>
    cases l with
    |ret r=>
     obtain⟨rfl,x⟩:=n
     repeat (any_goals (first|assumption|wp_step))
    |_=>exact n.elim
  |_=>exact q.elim
def Cm(a b:gz):checkTypeCall "enumerate" ⟨[a],[("start",b)]⟩=pure ():=by kernel_rfl
def DQ(a b:gz):checkBuiltinCall "enumerate.__new__" ⟨[.type "enumerate",a],[("start",b)]⟩=pure ():=by kernel_rfl
def Cn(o a b:gz):argsOk "object.__init__" ⟨[o,a],[("start",b)]⟩:=by
 unfold argsOk;rw[signature?_of (id:="object.__init__") (n:=['_','_','t','i','n','i','_','_']) (o:=['t','c','e','j','b','o']) (by kernel_rfl) F.owner_object];kernel_rfl
noncomputable def rg(a:gm)(c:Int):Obj:={cls:= .type "enumerate",data:= .fields #[.none,.bool false,.ref a,rawInt c,.none,.none]}
def IB(l:gm)(i:lA)(c:Int)(t:Tok)(k:Builtin.SmallTypes.fitsIndex c=true):Meets (Builtin.«enumerate.__new__» ⟨[.type "enumerate",.ref l],[("start",.int c t)]⟩) (λ_ R s=>(s.heap.IsList l i\/s.heap.IsTuple l i)/\
  ∀e,Src e s.heap.objs.size l 0 i->e.objs.size=s.heap.objs.size+1->(∀b o,s.heap.get? b=some o->e.get? b=some o)->R (.ok (.ret (.ref e.objs.size))) {s with heap:=e.push (rg s.heap.objs.size c)}):=
 .of_wp λf w A R s h=>by
  obtain⟨m,g,d,n,os⟩:=s;obtain⟨j,h⟩:=h;have p:=sub_enumerate
  wp_walk
  refine wpAny_stack_any λst=>gE ?_;split
  ·rename_i c _ _ _ _ _;cases(c==Value.type "enumerate")<;>(wp_walk using Src.new j;intro e a b c;wp_walk;exact⟨_,rfl,h e a b c⟩)
  ·wp_walk using Src.new j
   intro e a b c
   wp_walk
   exact⟨_,rfl,h e a b c⟩
def Ga(g:s.heap.IsList l xs\/s.heap.IsTuple l xs)(e:Builtin.SmallTypes.fitsIndex c=true)
  (h: ∀d,Src d s.heap.objs.size l 0 xs->d.objs.size=s.heap.objs.size+1->(∀b o,s.heap.get? b=some o->d.get? b=some o)->Q (.ref d.objs.size) {s with heap:=d.push (rg s.heap.objs.size c)}):
  wpAny (model f w) A (call (.type "enumerate") [.ref l] [("start",.int c t)]) Q E s:=
 Gd F.called_enumerate (by decide) (Cm _ _) (DQ _ _) (λobj=>Cn obj _ _) F.entry_enumerate_new (IB l xs c t e) ⟨g,λd a b c=>⟨⟨_,jr _ rfl,rfl⟩,h d a b c⟩⟩
end
section
variable {X:Cx}{g:hG}{i:L2.St}{H:Hp}{s:gu}{m:iO}{y:Nat}{n:Pos}
def Oj{R:It->Hp->Prop}{E:hZ}{b:Bool}{l:gm}{G:List V}{j:ik}{h':gL}{c:Int}(I:Inv X g i H s)(t:SqX b X.K H l G)(k:Src h' s.heap.objs.size l 0 j.toArray)(h:h'.objs.size=s.heap.objs.size+1)
  (z: ∀b o,s.heap.get? b=some o->h'.get? b=some o)(r:R (ItE b X.K l c) H):wpAny (model X.prog X.w) X.A (pyIter (.ref h'.objs.size)) (PIE X g i (.Tuple m y n) R) E {s with heap:=h'.push (rg s.heap.objs.size c)}:=by
 have q:IsEnum (h'.push (rg s.heap.objs.size c)) h'.objs.size s.heap.objs.size c .none:=jr _ rfl;refine wpAny_pyIter_enum q ?_;have d:Inv X g i H {s with heap:=h'.push (rg s.heap.objs.size c)}:=I.kept (t':=s.toks) λb o e=>iA _ (z b o e);have x:h'.objs.size≠s.heap.objs.size:=by rw[h];exact Nat.succ_ne_self _
 refine⟨h'.objs.size,[h'.objs.size,s.heap.objs.size],_,_,H,rfl,d,HJ b h'.objs.size s.heap.objs.size l c x,⟨⟨.none,by simpa using q⟩,?_⟩,λa v=>?_,r⟩
 ·have u:=k.keep (h':=h'.push (rg s.heap.objs.size c)) (λo e=>iA _ e) (λo e=>iA _ e)
  cases b with
  |true=>
   rcases u with⟨a,_⟩|⟨_,o,h1,f,_⟩
   ·exact a
   ·obtain⟨_,_,p,_⟩:=d.list t;obtain⟨C,g1,g2,_⟩:=p.isList;rw[h1] at g1;cases g1;rw[f] at g2;injection g2 with g2;exact absurd g2 (by decide)
  |false=>
   rcases u with⟨_,o,h1,f,_⟩|⟨a,_⟩
   ·obtain⟨_,_,p,_⟩:=d.tuple t;obtain⟨C,g1,g2,_⟩:=p;rw[h1] at g1;cases g1;rw[f] at g2;injection g2 with g2;exact absurd g2 (by decide)
   ·exact a
 ·have B:a=h'.objs.size\/a=s.heap.objs.size:=by simpa using v
  rcases B with rfl|rfl
  ·exact I.fpOk (by rw[h];exact xJ _) (I.hok.fresh (by rw[h];exact xJ _))
  ·exact I.fpOk (iY _) (I.hok.fresh (iY _))
def Po(K:gK)(c:Int)(d:TA):TI:=λi H R=>d i H λe a=> ∃b l f,e=[.ref l]/\SqX b K a l f/\R (ItE b K l c) a
def Fb(I:Inv X g i H s)(q:SqX b X.K H l xs): ∃a,Vals xs a/\(s.heap.IsList l a.toArray\/s.heap.IsTuple l a.toArray):=by
 cases b with
 |true=>obtain⟨a,v,p,_⟩:=I.list q;exact⟨a,v,.inl p.isList⟩
 |false=>obtain⟨a,v,p,_⟩:=I.tuple q;exact⟨a,v,.inr p⟩
def Ou:bootBuiltins "enumerate"=some (.type "enumerate"):=by decide+kernel
def wG{M:Model}{A:gR}{E:hZ}{s:gu}{b:Env}{c:Pos}{T:String}{e:gw}{j:List Keyword}{Q:hZ}
  (h:wpAny M A (spliced (backTo c (starEach [e] b))) (λw d=>wpAny M A (evalAll ((backToKw c (keywordEach j b)).map (·.2))) (λo f=>wpAny M A (call (.type T) w (((backToKw c (keywordEach j b)).filterMap (·.1)).zip o)) Q E f) E d) E s)
  (u:backTo c (starEach [e] b)=(false,eval e b)::backTo c (starEach [] b))(q:(backTo c (starEach [e] b)).any (·.1)=false)(p:(backToKw c (keywordEach j b)).all (·.1.isSome)=true)(l:(backToKw c (keywordEach j b)).any (·.1.isNone)=false):
  wpAny M A (callWith c (.type T) [] (backTo c (starEach [e] b)) (backToKw c (keywordEach j b))) Q E s:=by
 have t:wpAny M A (evalArgs (.type T) true (backTo c (starEach [e] b)) (backToKw c (keywordEach j b))) (λa d=>wpAny M A (call (.type T) ([]++a.pos) a.kw) Q E d) E s:=by
  rw[u] at h ⊢;exact evalArgs_kwB p h
 unfold callWith;refine gq (lO (lQ t (λa d k=>gq (xh ?_)) λ_ _ x=>x));simp only[q,l,Bool.or_false];exact gq (gE (gq (lQ k (λr f v=>gq (lO (Em (gE v)))) λ_ _ x=>x)))
def KS{a:gw}{r:TA}{p d U e:Pos}{c:Int}{z:Nat}(L:Gl X "enumerate")(N:X.mg "enumerate"=none)(E:PA X [a] r)(G:Builtin.SmallTypes.fitsIndex c=true)
  (J:backTo d (starEach [a] X.env)=(false,eval a X.env)::backTo d (starEach [] X.env))(B:(backTo d (starEach [a] X.env)).any (·.1)=false):
  PI X (.Tuple m y n) (.Call (.Name "enumerate" p) [a] [⟨some "start",.Constant (.int c) z U,e⟩] d) (Po X.K c r):=by
 intro g s i H R I h;refine vQ (pk I L N Ou (wG (thn (E d g s i H _ I h) λus s1 ⟨vs,j,A,Y,b,l,xs,hv,o,q⟩=>?_) J B rfl rfl));subst hv;obtain⟨u,rfl,D⟩:=pP Y;cases D;refine kws_cons (thn (BR g s1 i j (λv w=>v= .int c/\w=j) A ⟨rfl,rfl⟩) λv s2 ⟨x,H2,k,rx,O,C⟩=>kws_nil ?_);subst O;subst C;obtain⟨t,rfl⟩:=rx;obtain⟨T,_,M⟩:=Fb k o;exact Ga M G λF f Q e=>Oj k o f Q e q
noncomputable def Cd(c:Int)(f:F):FIt:=λa=>(f a).bind λp=>match p.1.1 with
 | .tup l=>some (l.zipIdx.map λq=> .tup [.int (c+q.2),q.1],p.2)
 | .lst l=>some (l.zipIdx.map λq=> .tup [.int (c+q.2),q.1],p.2)
 |_=>none
def NJ{K:gK}{T:AP'}{i:L2.St}{d c:Dn}{H:Hp}{r:D×Bool}{f:F}{Q:List V->Hp->Prop}(E:ER K H T i d)(h:f d=some (r,c))(k: ∀v l,Keep i d H c l->ER K l T i c->Rep K l (λa=>OwnA i c a\/T a) r.1 v->Q [v] l):tA K [gn f] i H Q:=by
 refine⟨d,T,[.val r],c,E,?_,λu o w B=>?_⟩
 ·show((gn f d).bind λp=>(jk [] p.2).bind λq=>some (p.1::q.1,q.2))=_;simp only[gn,h,Option.bind,jk]
 ·have t:=B.len
  match u,t with
  |[v],_=>exact k v o B.keep (B.er.mono (λ_ _ e _=>e) (λb _ z=>B.tt b z) (λa z=>B.er.dom a (B.tt a z))) (B.rep E (j:=0) rfl rfl)
def Mi{K:gK}{B:SB}{c:Int}{f:F}{i:L2.St}{H:Hp}{R:It->Hp->Prop}(C:tI K B (Cd c f) i H R):Po K c (tA K [gn f]) i H R:=by
 obtain⟨J,T,x,t,E,e,k⟩:=C;obtain⟨⟨⟨d,o⟩,j⟩,h1,e⟩:=gh e;refine NJ E h1 λv p w u I=>?_
 have h: ∀{l},rL d=some l->some (l.zipIdx.map λq=>D.tup [.int (c+q.2),q.1],j)=some (x,t)-> ∃b a r,[v]=[V.ref a]/\SqX b K p a r/\R (ItE b K a c) p:=λA e=>by
  obtain⟨rfl,rfl⟩:=gM e;obtain⟨a,r,rfl,q,G⟩:=Ad A I;have q:=q.mono (λ_ _ e _=>e) (P':=OwB B T i j) λa z=>z.own;exact⟨_,a,r,rfl,yg q,k _ p w u (Iu q G λa z=>z.own)⟩
 cases d with
 |tup l=>exact h rfl e
 |lst l=>exact h rfl e
 |_=>cases e
def Ic{B:SB}{a:gw}{f:F}{p b r q:Pos}{c:Int}{z:Nat}(k:Gl X "enumerate")(l:X.mg "enumerate"=none)(e:PX X a f)(h:Builtin.SmallTypes.fitsIndex c=true)(s0:starEach [a] X.env=(false,eval a X.env)::starEach [] X.env)
  (j:backTo b (starEach [a] X.env)=(false,eval a X.env)::backTo b (starEach [] X.env))(d:(backTo b (starEach [a] X.env)).any (·.1)=false):
  PIX X B (.Tuple m y n) (.Call (.Name "enumerate" p) [a] [⟨some "start",.Constant (.int c) z r,q⟩] b) (Cd c f):=PI.imp' (KS k l (qg (PX.po e) wQ s0) h j d) λi H R o=>Mi o
end
section
variable {j:gS}{w:gO}{A:gR}{E:hZ}{s:gu}{z TI TO f d n l:gm}{k:Nat}{i g:lA}{x y a b:gz}
def PK{Q:hZ}(D:ZipApart z TI TO f d n l)(hz:IsZip s.heap z TI TO .none)(t7:IsPair s.heap TI (.ref f) (.ref d))(w6:IsPair s.heap TO a b)(h1:Src s.heap f n k i)(h2:Src s.heap d l k g)
  (hQ: ∀x y,i[k]?=some x->g[k]?=some y-> ∀M,IsZip M z TI TO (rawInt s.heap.objs.size)->IsPair M TO x y->Src M f n (k+1) i->Src M d l (k+1) g->IsPair M s.heap.objs.size x y->(∀c o,c≠z->c≠TO->c≠f->c≠d->s.heap.get? c=some o->M.get? c=some o)->Q (.ref s.heap.objs.size) {s with heap:=M})
  (hE:i[k]?=none\/g[k]?=none->A.handled=none/\ ∀M e,(∀c o,c≠z->c≠TO->c≠f->c≠d->s.heap.get? c=some o->M.get? c=some o)->(∃o,M.get? e=some o/\o.cls= .type "StopIteration")->E (.ref e) {s with heap:=M}):
  wpAny (model j w) A (Builtin.«zip.__next__» ⟨[.ref z],[]⟩) (λfin s'=> ∃v,fin= .done (.ret v)/\Q v s') E s:=by
 have I: ∀{h:gL} {e:gm} {oe:Obj} {f0:gz},IsZip h z TI TO f0->h.get? e=some oe->oe.cls= .type "StopIteration"->e≠z:=λhzz bW bB q=>by
  subst q;have R:_=_:=hzz;rw[bW] at R;cases R;injection bB with bB;exact absurd bB (by decide)
 refine gq (m:=field (.ref z) 2) (lN hz rfl (x:= .bool false) rfl (gq (m:=field (.ref z) 3) (lN hz rfl (x:= .ref TI) rfl (gq (uL t7 rfl (gq (m:=Builtin.SmallTypes.ownedTupleIsFree (.ref z)) ?_))))));unfold Builtin.SmallTypes.ownedTupleIsFree;refine gq (lN hz rfl (x:= .none) rfl (gE ?_));simp only[ja];refine gq (rJ (gq (lN hz rfl (x:= .ref TO) rfl (gq (rC hz (by simp) λG cY K=>?_)))));replace cY:IsZip G z TI TO .ellipsis:=cY;refine gq ?_;simp only[List.zipIdx_cons,List.zipIdx_nil,List.forIn_cons,List.forIn_nil];have c1:Src G f n k i:=h1.keep (λo e=>K.extBut _ o D.i1z e) (λo e=>K.extBut _ o D.l1z e)
 cases hx:i[k]? with
 |none=>
  obtain⟨hh,hE⟩:=hE (.inl hx);refine gq (gq (xw (gq (m:=Builtin.SmallTypes.nextOf (.ref f)) (c1.stop (s:={s with heap:=G}) hh hx λr e U ⟨oe,bW,bB⟩=>?_))));have O:IsZip r z TI TO .ellipsis:=U _ _ D.i1z.symm cY;exact rC (s:={s with heap:=r}) O (by simp) λt _ L=>hE t e (λc o J _ d3 _ q=>L.extBut _ _ J (U _ _ d3 (K.extBut _ _ J q))) ⟨oe,L.extBut _ _ (I O bW bB) bW,bB⟩
 |some x=>
  refine gq (gq (xw (gq (m:=Builtin.SmallTypes.nextOf (.ref f)) (c1.item (s:={s with heap:=G}) hx λr V U=>gE ?_))));have B:IsPair r TO a b:=U.extBut _ _ D.TOi1 (K.extBut _ _ D.TOz w6);refine gq (uL (s:={s with heap:=r}) B rfl (gq (Jl (s:={s with heap:=r}) B λt cw L=>gq (Ba (gE ?_)))));replace cw:IsPair t TO x b:=cw;have c2:Src t d l k g:=h2.keep (λo e=>L.extBut _ o D.TOi2.symm (U.extBut _ o D.i12.symm (K.extBut _ o D.i2z e))) (λo e=>L.extBut _ o D.l2TO (U.extBut _ o D.l2i1 (K.extBut _ o D.l2z e)))
  cases hy:g[k]? with
  |none=>
   obtain⟨hh,hE⟩:=hE (.inr hy);refine gq (gq (xw (gq (m:=Builtin.SmallTypes.nextOf (.ref d)) (c2.stop (s:={s with heap:=t}) hh hy λu e aX ⟨oe,bW,bB⟩=>?_))));have cX:IsZip u z TI TO .ellipsis:=aX _ _ D.i2z.symm (L.extBut _ _ D.TOz.symm (U.extBut _ _ D.i1z.symm cY));exact rC (s:={s with heap:=u}) cX (by simp) λp _ F=>hE p e (λc o J d2 d3 d4 q=>F.extBut _ _ J (aX _ _ d4 (L.extBut _ _ d2 (U.extBut _ _ d3 (K.extBut _ _ J q))))) ⟨oe,F.extBut _ _ (I cX bW bB) bW,bB⟩
  |some y=>
   refine gq (gq (xw (gq (m:=Builtin.SmallTypes.nextOf (.ref d)) (c2.item (s:={s with heap:=t}) hy λu X aX=>gE ?_))));have C:IsPair u TO x b:=aX.extBut _ _ D.TOi2 cw;refine gq (uL (s:={s with heap:=u}) C rfl (gq (Jl (s:={s with heap:=u}) C λp bD F=>gq (Ba (gE (gE ?_))))));replace bD:IsPair p TO x y:=bD;refine gq (uL (s:={s with heap:=p}) bD rfl (gq (Bb (s:={s with heap:=p}) ?_)));have hsz:p.objs.size=s.heap.objs.size:=by rw[F.1,aX.1,L.1,U.1,K.1]
   have T:IsZip p z TI TO .ellipsis:=F.extBut _ _ D.TOz.symm (aX.extBut _ _ D.i2z.symm (L.extBut _ _ D.TOz.symm (U.extBut _ _ D.i1z.symm cY)));have hk₅: ∀c o,c≠z->c≠TO->c≠f->c≠d->s.heap.get? c=some o->p.get? c=some o:=λc o J d2 d3 d4 e=>F.extBut _ _ d2 (aX.extBut _ _ d4 (L.extBut _ _ d2 (U.extBut _ _ d3 (K.extBut _ _ J e))));have W:Src p f n (k+1) i:=V.keep (λo e=>F.extBut _ o D.TOi1.symm (aX.extBut _ o D.i12 (L.extBut _ o D.TOi1.symm e))) (λo e=>F.extBut _ o D.l1TO (aX.extBut _ o D.l1i2 (L.extBut _ o D.l1TO e)));have Z:Src p d l (k+1) g:=X.keep (λo e=>F.extBut _ o D.TOi2.symm e) (λo e=>F.extBut _ o D.l2TO e);have P:z<p.objs.size:=iJ T;refine gq (m:=Builtin.SmallTypes.ownedTupleHandOut (.ref z) (.ref p.objs.size)) ?_;unfold Builtin.SmallTypes.ownedTupleHandOut;have hz₆:IsZip (p.push {cls:= .type "tuple",data:= .seq #[x,y]}) z TI TO .ellipsis:=iA _ T;refine gq (rC (s:={s with heap:=p.push {cls:= .type "tuple",data:= .seq #[x,y]}}) hz₆ (by simp) λS eK bM=>?_);replace eK:IsZip S z TI TO (rawInt p.objs.size):=eK;refine rC (s:={s with heap:=S}) eK (by simp) λH dM Y=>?_;replace dM:IsZip H z TI TO (rawInt p.objs.size):=dM;have up: ∀c o,c≠z->p.get? c=some o->H.get? c=some o:=λc o J e=>Y.extBut _ _ J (bM.extBut _ _ J (iA _ e));have N:IsPair H p.objs.size x y:=Y.extBut _ _ (mH P) (bM.extBut _ _ (mH P) (jr _ rfl));rw[hsz] at dM N;refine gE ⟨_,rfl,?_⟩;show Q (.ref p.objs.size) _;rw[hsz];exact hQ x y hx hy H dM (up _ _ D.TOz bD) (W.keep (λo e=>up _ o D.i1z e) λo e=>up _ o D.l1z e) (Z.keep (λo e=>up _ o D.i2z e) λo e=>up _ o D.l2z e) N λc o J d2 d3 d4 e=>up c o J (hk₅ c o J d2 d3 d4 e)
def yn{Q:CC}(D:ZipApart z TI TO f d n l)(t:IsZip s.heap z TI TO .none)(M:IsPair s.heap TI (.ref f) (.ref d))(N:IsPair s.heap TO a b)(h1:Src s.heap f n k i)(H:Src s.heap d l k g)
  (I: ∀x y,i[k]?=some x->g[k]?=some y-> ∀h,IsZip h z TI TO (rawInt s.heap.objs.size)->IsPair h TO x y->Src h f n (k+1) i->Src h d l (k+1) g->IsPair h s.heap.objs.size x y->(∀c o,c≠z->c≠TO->c≠f->c≠d->s.heap.get? c=some o->h.get? c=some o)->Q (some (.ref s.heap.objs.size)) {s with heap:=h})
  (m:i[k]?=none\/g[k]?=none->A.handled=none/\ ∀h,(∀c o,c≠z->c≠TO->c≠f->c≠d->s.heap.get? c=some o->h.get? c=some o)->Q none {s with heap:=h}):
  wpAny (model j w) A (pyNext (.ref z)) Q E s:=by
 have p:s.TypeIs (.ref z) "zip":=⟨_,t,rfl⟩
 unfold pyNext
 exact gq (sQ (tu (name:=Str.ofString "__next__") p F.slot_zip_next (pY F.slot_zip_next p F.entry_zip_next
  (PK D t M N h1 H (λx y q r h a1 u v B C G=>gE (I x y q r h a1 u v B C G)) λq=>⟨(m q).1,λh e hk ⟨o,L,J⟩=>gq (A8 (T:="StopIteration") (b:=true) ⟨o,L,J⟩ En (gE ((m q).2 _ hk)))⟩) (F.args_zip_next_1 _))))
end
def MH(j c:gm)(l i:lA):Meets (Builtin.«zip.__new__» ⟨[.type "zip",.ref j,.ref c],[]⟩) (λ_ R s=>(s.heap.IsList j l\/s.heap.IsTuple j l)/\(s.heap.IsList c i\/s.heap.IsTuple c i)/\
  ∀h1 a,Src h1 s.heap.objs.size j 0 l->h1.objs.size=s.heap.objs.size+1->(∀b o,s.heap.get? b=some o->h1.get? b=some o)->Src a h1.objs.size c 0 i->a.objs.size=h1.objs.size+1->(∀b o,h1.get? b=some o->a.get? b=some o)->
   R (.ok (.ret (.ref ((a.push {cls:= .type "tuple",data:= .seq #[.ref s.heap.objs.size,.ref h1.objs.size]}).push {cls:= .type "tuple",data:= .seq #[.none,.none]}).objs.size)))
    {s with heap:=((a.push {cls:= .type "tuple",data:= .seq #[.ref s.heap.objs.size,.ref h1.objs.size]}).push {cls:= .type "tuple",data:= .seq #[.none,.none]}).push {cls:= .type "zip",data:= .fields #[.none,.bool false,.bool false,.ref a.objs.size,.ref (a.push {cls:= .type "tuple",data:= .seq #[.ref s.heap.objs.size,.ref h1.objs.size]}).objs.size]}}):=
 .of_wp λm w A R s h=>by
  obtain⟨y,g,d,x,os⟩:=s;obtain⟨v,p,h⟩:=h;have z:=sub_zip
  wp_walk using Src.new v
  intro h1 a1 n k
  have f:h1.IsList c i\/h1.IsTuple c i:=by
   rcases p with⟨o,e,r⟩|⟨o,e,r⟩
   ·exact .inl ⟨o,k _ _ e,r⟩
   ·exact .inr ⟨o,k _ _ e,r⟩
  wp_walk using Src.new (s:=⟨h1,g,d,x,os⟩) f
  intro a q t u
  wp_walk
  exact⟨_,rfl,h h1 a a1 n k q t u⟩
noncomputable def ItZ(c d:Bool)(K:gK)(e f:gm):It:=⟨λi H=> ∃a b x y,SqX c K H e a/\SqX d K H f b/\a[i]?=some x/\b[i]?=some y,
 λi H x g=> ∃(T:gm) (u v:V),x= .ref T/\H T=none/\g=upd H T (.tup [u,v])/\ ∀a b,SqX c K H e a->SqX d K H f b->a[i]?=some u/\b[i]?=some v,
 λi H=> ∃a b,SqX c K H e a/\SqX d K H f b/\(a.length<=i\/b.length<=i)⟩
structure ZA(z TI TO i1 i2:gm):Prop where
 a1:TI≠z
 a2:TO≠z
 a3:i1≠z
 a4:i2≠z
 a5:TI≠TO
 a6:TI≠i1
 a7:TI≠i2
 a8:TO≠i1
 a9:TO≠i2
 a10:i1≠i2
def tN{b:Bool}{K:gK}{H:Hp}{l:gm}{m:List V}{X:Cx}{c:hG}{p:L2.St}{s:gu}(I:Inv X c p H s)(k:X.K=K)(q:SqX b K H l m){h:ji}(i: ∀a∈h,qx X c H a):l∉h:=by
 subst k;intro j;have d:=(i l j).1
 have base: ∀o,X.K.lookup l=some o->False:=λo e=>by
  have g:=I.mod.kin l o e;rcases(i l j).2.2.2.1 with z|z
  ·exact I.ok.noex l o g z
  ·have:=(I.ok.bs l o g).1;exact absurd (iJ this) (MF.mpr z)
 cases b with
 |true=>
  rcases q with(q|⟨o,q⟩)|⟨o,f,n,e,_⟩
  ·rw[d] at q;cases q
  ·rw[d] at q;cases q
  ·exact base o e
 |false=>
  rcases q with(q|⟨o,q⟩)|⟨o,f,n,e,_⟩
  ·rw[d] at q;cases q
  ·rw[d] at q;cases q
  ·exact base o e
def JS{P:gS}{w:gO}{K:gK}{Y:iO}{k1}{pos:Pos}(b1 b2:Bool)(z TI TO m n N O:gm)(D:ZA z TI TO m n):
  Turn P w K (.Tuple Y k1 pos) (ItZ b1 b2 K N O) [z,TI,TO,m,n] z (λi h=>IsZip h z TI TO .none/\IsPair h TI (.ref m) (.ref n)/\(∃a b,IsPair h TO a b)/\ItX b1 h m N i/\ItX b2 h n O i) where
 mem:=by simp
 obj:=λi h st a M=>by
  obtain⟨l,p,⟨u,v,C⟩,s1,B⟩:=st;simp only[jM,kx,lD] at M;rcases M with rfl|rfl|rfl|rfl|rfl
  ·exact⟨_,l,λv e=>by have U:Data.fields _=Data.cell v:=e;cases U⟩
  ·exact⟨_,p,λv e=>by have U:Data.seq _ _=Data.cell v:=e;cases U⟩
  ·exact⟨_,C,λv e=>by have U:Data.seq _ _=Data.cell v:=e;cases U⟩
  ·exact s1.obj
  ·exact B.obj
 keep:=λi h h' st k=>by
  obtain⟨l,p,⟨u,v,C⟩,s1,B⟩:=st;exact⟨k z (by simp) _ l,k TI (by simp) _ p,⟨u,v,k TO (by simp) _ C⟩,s1.keep λo q=>k m (by simp) o q,B.keep λo q=>k n (by simp) o q⟩
 item:=by
  intro X hP hw G hc i A s σ H E I t st hg;obtain⟨l,p,⟨a0,b0,C⟩,s1,B⟩:=st;obtain⟨xs,ys,x,y,L,J,hx,hy⟩:=hg;have d:=tN I G L t;have f:=tN I G J t;simp only[jM,kx,lD,pX] at d f;subst hP hw G;obtain⟨bQ,eD,S⟩:=qE I L s1;obtain⟨f7,Z,T⟩:=qE I J B;obtain⟨u,hu,ru⟩:=eD.get hx;obtain⟨v,hv,rv⟩:=Z.get hy;have AP:ZipApart z TI TO m n N O:=⟨D.a1,D.a2,D.a3,D.a4,D.a5,D.a6,D.a7,D.a8,D.a9,D.a10,d.1,d.2.2.1,d.2.2.2.1,d.2.2.2.2,f.1,f.2.2.1,f.2.2.2.1,f.2.2.2.2⟩
  refine yn AP l p C S T (λx' y' q r h' z' t1 c1 c2 hT V=>?_) λq=>absurd q (by simp[hu,hv]);obtain rfl:u=x':=by simpa[hu] using q
  obtain rfl:v=y':=by simpa[hv] using r
  refine⟨.ref s.heap.objs.size,rfl,?_⟩;refine wpAny_letOwnedTupleGo_zip (s:={s with heap:=h'}) z' λQ z'' j=>?_;replace j:Heap.SameBut z h' Q:=j
  have W: ∀a o,a∉[z,TI,TO,m,n]->s.heap.get? a=some o->Q.get? a=some o:=λa o g q=>by
   simp only[jM,kx,lD,pX] at g;exact j.extBut a o g.1 (V a o g.1 g.2.2.1 g.2.2.2.1 g.2.2.2.2 q)
  have lt: ∀{c o},s.heap.get? c=some o->s.heap.objs.size≠c:=λe=>mH (iJ e);have cx:IsPair Q s.heap.objs.size u v:=j.extBut _ _ (lt l) hT
  have I1:Inv X A σ (upd H s.heap.objs.size (.tup [x,y])) {s with heap:=Q}:=
   zY (t':=s.toks) I t W (iY _) (show ObjOk X.prog X.w _ _ _ (.tup [x,y]) from⟨by show 2<=sizeLine;decide,[u,v],.cons ru (.cons rv .nil),_,cx,rfl,0,rfl⟩)
  have F:ItX b1 Q m N (i+1):=FP s1 S (c1.keep (λo q=>j.extBut _ o D.a3 q) λo q=>j.extBut _ o d.1 q) λo q=>W N o (by simp only[jM,kx,lD,pX];exact d) q;have R:ItX b2 Q n O (i+1):=FP B T (c2.keep (λo q=>j.extBut _ o D.a4 q) λo q=>j.extBut _ o f.1 q) λo q=>W O o (by simp only[jM,kx,lD,pX];exact f) q;refine⟨.ref s.heap.objs.size,_,I1,rfl,⟨_,x,y,rfl,I.fresh,rfl,λbF ys' q1 q2=>by rw[BF I q1 L,BF I q2 J];exact⟨hx,hy⟩⟩,⟨z'',j.extBut _ _ D.a1 (V _ _ D.a1 D.a5 D.a6 D.a7 p),⟨u,v,j.extBut _ _ D.a2 t1⟩,F,R⟩,λa M=>?_⟩;have n0:=(t a M).1;rw[gQ]
  ·exact n0
  ·intro e;simp only[jM,kx,lD] at M;rcases M with rfl|rfl|rfl|rfl|rfl
   ·exact lt l e.symm
   ·exact lt p e.symm
   ·exact lt C e.symm
   ·exact absurd e (iP S.lt.1)
   ·exact absurd e (iP T.lt.1)
 done:=by
  intro X hP hw G hc i A s σ H E I t st hg;obtain⟨l,p,⟨a0,b0,C⟩,s1,B⟩:=st;obtain⟨xs,ys,L,J,hend⟩:=hg;have d:=tN I G L t;have f:=tN I G J t;simp only[jM,kx,lD,pX] at d f;subst hP hw G;obtain⟨bQ,eD,S⟩:=qE I L s1;obtain⟨f7,Z,T⟩:=qE I J B;have e1:=eD.length;have e2:=Z.length;have AP:ZipApart z TI TO m n N O:=⟨D.a1,D.a2,D.a3,D.a4,D.a5,D.a6,D.a7,D.a8,D.a9,D.a10,d.1,d.2.2.1,d.2.2.2.1,d.2.2.2.2,f.1,f.2.2.1,f.2.2.2.1,f.2.2.2.2⟩
  refine yn AP l p C S T (λx y q r=>?_) λ_=>⟨I.ok.hd hc,λh' V=>⟨rfl,zZ (t':=s.toks) I t λa o g q=>?_⟩⟩
  ·have z1:=(SW.mp q).1;have z2:=(SW.mp r).1;simp at z1 z2;omega
  simp only[jM,kx,lD,pX] at g;exact V a o g.1 g.2.2.1 g.2.2.2.1 g.2.2.2.2 q
 self:=λ_ _ _ _ _ st h=>wpAny_pyIter_zip st.1 h
def LM{K:gK}{P O:AP'}{g:Hp}{a1 m:gm}{f h:List V}{t A:List D}{r s:Bool}(k:SqA r K g P a1 f)(H:RepL K g O t f)(l:SqA s K g P m h)(I:RepL K g O A h)(B: ∀a,P a->O a):
  ItOk K (ItZ r s K a1 m) ((t.zip A).map λp=> .tup [p.1,p.2]) P O g:=by
 have sq: ∀{b:Bool} {a:gm} {f:List V},SqA b K g P a f-> ∀Hi,(∀a o,g a=some o-> ¬P a->Hi a=some o)->SqX b K Hi a f:=λq Hi c=>yg (q.mono c λ_ z=>z);refine⟨λi d Hi hd c=>?_,λi Hi U c=>⟨f,h,sq k Hi c,sq l Hi c,by rw[H.length,I.length];simp at U;omega⟩⟩;rw[jL] at hd;obtain⟨⟨X,Z⟩,h1,M⟩:=ie hd;obtain⟨N,Q⟩:=Gp.mp h1;obtain⟨x,E,F⟩:=H.get N;obtain⟨y,G,R⟩:=I.get Q;refine⟨⟨f,h,x,y,sq k Hi c,sq l Hi c,E,G⟩,λv S L=>?_⟩;obtain⟨T,u,w,rfl,C,rfl,Y⟩:=L;obtain⟨g1,g2⟩:=Y f h (sq k Hi c) (sq l Hi c);rw[E] at g1;cases g1;rw[G] at g2;cases g2;have ext:=ky (o:= .tup [x,y]) C;refine⟨ext,λW h1 J=>?_⟩;subst M;exact Rep.mkTup ⟨gU,J T C⟩ (RepL.cons (Rep.mono (λb o e n=>ext b o (c b o e λz=>n (B b z))) (λb j z=>h1 b j z) F) (RepL.cons (Rep.mono (λb o e n=>ext b o (c b o e λz=>n (B b z))) (λb j z=>h1 b j z) R) RepL.nil))
section
variable {X:Cx}{d:iO}{n:Nat}{r:Pos}
def SH:bootBuiltins "zip"=some (.type "zip"):=by decide+kernel
def V4(K:gK)(g:TA):TI:=λk H R=>g k H λh a=> ∃e f b c i j,h=[.ref b,.ref c]/\SqX e K a b i/\SqX f K a c j/\R (ItZ e f K b c) a
def Hj(I:Inv X pins σ H s)(f:SqX b X.K H l xs)(c:Src s.heap it l i g):ItX b s.heap it l i:=by
 cases b with
 |true=>
  rcases c with⟨a,_⟩|⟨_,o,h1,e,_⟩
  ·exact a
  ·obtain⟨_,_,p,_⟩:=I.list f;obtain⟨h,g1,g2,_⟩:=p.isList;rw[h1] at g1;cases g1;rw[e] at g2;injection g2 with g2;exact absurd g2 (by decide)
 |false=>
  rcases c with⟨_,o,h1,e,_⟩|⟨a,_⟩
  ·obtain⟨_,_,p,_⟩:=I.tuple f;obtain⟨h,g1,g2,_⟩:=p;rw[h1] at g1;cases g1;rw[e] at g2;injection g2 with g2;exact absurd g2 (by decide)
  ·exact a
def Rr{a b:gw}{O:TA}{p l:Pos}(hg:Gl X "zip")(hm:X.mg "zip"=none)(A:PA X [a,b] O)(hs:starEach [a,b] X.env=(false,eval a X.env)::starEach [b] X.env)(i6:(backTo l (starEach [b] X.env)).any (·.1)=false):
  PI X (.Tuple d n r) (.Call (.Name "zip" p) [a,b] [] l) (V4 X.K O):=by
 intro j s0 Q T R G h;refine vQ (pk G hg hm SH (Bp (thn (A l j s0 Q T _ G h) λus s ⟨vs,H,I,r1,Y,b2,M,N,xs,ys,hv,L,J,q⟩=>?_) hs i6));subst hv;obtain⟨u,v,rfl,ru,rv⟩:=tL r1;cases ru;cases rv;obtain⟨P,_,D⟩:=Fb I L;obtain⟨f7,_,U⟩:=Fb I J;refine callType_new F.called_zip (by decide) (F.typeCall_zip_2 _ _) (F.newCall_zip_2 _ _) (λobj=>F.args_object_init_3 obj _ _) F.entry_zip_new (MH M N P.toArray f7.toArray) ⟨D,U,λh1 f S k n V i E=>?_⟩;generalize t:({cls:= .type "tuple",data:= .seq #[.ref s.heap.objs.size,.ref h1.objs.size]}:Obj)=g;generalize w:({cls:= .type "tuple",data:= .seq #[.none,.none]}:Obj)=o4;have m:(f.push g).objs.size=f.objs.size+1:=rF ..;have z:((f.push g).push o4).objs.size=f.objs.size+2:=by rw[rF,m]
 generalize x:({cls:= .type "zip",data:= .fields #[.none,.bool false,.bool false,.ref f.objs.size,.ref (f.push g).objs.size]}:Obj)=o5;have g5:(((f.push g).push o4).push o5).get? ((f.push g).push o4).objs.size=some o5:=jr _ (by rw[<-x];rfl);have g4:(((f.push g).push o4).push o5).get? (f.push g).objs.size=some o4:=iA _ (jr _ (by rw[<-w];rfl));have g3:(((f.push g).push o4).push o5).get? f.objs.size=some g:=iA _ (iA _ (jr _ (by rw[<-t];rfl)));have y: ∀c o,f.get? c=some o->(((f.push g).push o4).push o5).get? c=some o:=λc o e=>iA _ (iA _ (iA _ e));have C:IsZip (((f.push g).push o4).push o5) ((f.push g).push o4).objs.size f.objs.size (f.push g).objs.size .none:=by show _=_;rw[g5,<-x]
 have t7:IsPair (((f.push g).push o4).push o5) f.objs.size (.ref s.heap.objs.size) (.ref h1.objs.size):=by show _=_;rw[g3,<-t]
 have w6:IsPair (((f.push g).push o4).push o5) (f.push g).objs.size .none .none:=by show _=_;rw[g4,<-w]
 have B:Inv X j Q H {s with heap:=((f.push g).push o4).push o5}:=I.kept (t':=s.toks) λc o e=>y c o (E c o (n c o e));have W:=S.keep (h':=((f.push g).push o4).push o5) (λo e=>y _ o (E _ o e)) (λo e=>y _ o (E _ o e));have Z:=V.keep (h':=((f.push g).push o4).push o5) (λo e=>y _ o e) (λo e=>y _ o e);refine⟨⟨_,C,rfl⟩,wpAny_pyIter_zip (s:={s with heap:=((f.push g).push o4).push o5}) C ?_⟩;refine⟨((f.push g).push o4).objs.size,[((f.push g).push o4).objs.size,f.objs.size,(f.push g).objs.size,s.heap.objs.size,h1.objs.size],_,_,H,rfl,B,JS Y b2 _ _ _ _ _ M N ⟨?_,?_,?_,?_,?_,?_,?_,?_,?_,?_⟩,⟨C,t7,⟨_,_,w6⟩,Hj B L W,Hj B J Z⟩,λa A=>?_,q⟩
 ·rw[z];exact iP (Nat.lt_add_of_pos_right (by decide))
 ·rw[z,m];exact iP (uP _)
 ·rw[z,i,k];exact iP (by
   have:s.heap.objs.size<s.heap.objs.size+1+1+2:=by omega
   exact this)
 ·rw[z,i];exact iP (by
   have:h1.objs.size<h1.objs.size+1+2:=by omega
   exact this)
 ·rw[m];exact iP (uP _)
 ·rw[i,k];exact mH (by
   have:s.heap.objs.size<s.heap.objs.size+1+1:=by omega
   exact this)
 ·rw[i];exact mH (uP _)
 ·rw[m,i,k];exact mH (by
   have:s.heap.objs.size<s.heap.objs.size+1+1+1:=by omega
   exact this)
 ·rw[m,i];exact mH (by
   have:h1.objs.size<h1.objs.size+1+1:=by omega
   exact this)
 ·rw[k];exact iP (uP _)
 ·have le:s.heap.objs.size<=a:=by
   simp only[jM,kx,lD] at A;rcases A with rfl|rfl|rfl|rfl|rfl
   ·rw[z,i,k];have:s.heap.objs.size<=s.heap.objs.size+1+1+2:=by omega
    exact this
   ·rw[i,k];have:s.heap.objs.size<=s.heap.objs.size+1+1:=by omega
    exact this
   ·rw[m,i,k];have:s.heap.objs.size<=s.heap.objs.size+1+1+1:=by omega
    exact this
   ·exact iY _
   ·rw[k];exact xJ _
  exact I.fpOk le (I.hok.fresh le)
noncomputable def ql(f g:FO):FIt:=λδ=>(f δ).bind λp=>(g p.2).bind λq=>(res q.2 p.1).bind λx=>(res q.2 q.1).bind λy=>(rL x).bind λl=>(rL y).bind λm=>some ((l.zip m).map λp=> .tup [p.1,p.2],q.2)
noncomputable def DE(f g:F):FIt:=λa=>(f a).bind λp=>(g p.2).bind λq=>(rL p.1.1).bind λl=>(rL q.1.1).bind λm=>some ((l.zip m).map λp=> .tup [p.1,p.2],q.2)
def Dg{B:SB}{a b:gw}{f g:FO}{p c:Pos}(hg:Gl X "zip")(hm:X.mg "zip"=none)(U:PO X a f)(Y:PO X b g)(G:SlB B f)(I:SlB B g)(w:starEach [a,b] X.env=(false,eval a X.env)::starEach [b] X.env)(v9:starEach [b] X.env=(false,eval b X.env)::starEach [] X.env)(i6:(backTo c (starEach [b] X.env)).any (·.1)=false):
  PIX X B (.Tuple d n r) (.Call (.Name "zip" p) [a,b] [] c) (ql f g):=PI.imp' (Rr hg hm (qg U (qg Y wQ v9) w) w i6) λσ H R F=>by
 obtain⟨δ,T,ds,δ',E,e,k⟩:=F;obtain⟨⟨K,δ1⟩,h1,e⟩:=gh e;obtain⟨⟨P,t⟩,h,e⟩:=gh e;obtain⟨x,M,e⟩:=gh e;obtain⟨y,N,e⟩:=gh e;obtain⟨l,O,e⟩:=gh e;obtain⟨m,Q,e⟩:=gh e;obtain⟨rfl,rfl⟩:=gM e;dsimp only at h;refine⟨δ,T,[K,P],t,E,?_,λS J T1 W=>?_⟩
 ·simp only[jk,h1,h,Option.bind]
 ·have D:=W.len
  match S,D with
  |[v,u],_=>
   obtain⟨a1,V,rfl,A,q⟩:=W.seq E (j:=0) rfl rfl M O λi o=>G _ _ _ (o▸h1);obtain⟨L,Z,rfl,C,s⟩:=W.seq E (j:=1) rfl rfl N Q λi o=>I _ _ _ (o▸h);exact⟨_,_,a1,L,V,Z,rfl,yg A,yg C,k _ J W.keep (W.er.mono (λ_ _ e _=>e) (λb _ z=>W.tt b z) (λa z=>W.er.dom a (W.tt a z))) (LM A q C s λa z=>z.own)⟩
def Nv{B:SB}{a b:gw}{f g:F}{p c:Pos}(i:Gl X "zip")(j:X.mg "zip"=none)(e:PX X a f)(h:PX X b g)(k:starEach [a,b] X.env=(false,eval a X.env)::starEach [b] X.env)(o:starEach [b] X.env=(false,eval b X.env)::starEach [] X.env)(m:(backTo c (starEach [b] X.env)).any (·.1)=false):
  PIX X B (.Tuple d n r) (.Call (.Name "zip" p) [a,b] [] c) (DE f g):=PI.imp' (Dg (B:=B) i j (PX.po e) (PX.po h) BI BI k o m) λs H R l=>by
 have:DE f g=ql (gn f) (gn g):=funext λq=>by
  unfold DE ql gn
  cases f q with
  |none=>rfl
  |some p=>simp only[Option.bind];cases g p.2<;>rfl
 rwa [this] at l
end
end PX
namespace TS
open PySem PyProof.Rows
def Ask(M:Model)(A:gR)(G:Shared->Prop)(a:Nat->Keyed)(e:SortKind)(N:Nat)(lt:Nat->Nat->Bool):Prop:= ∀i j,i<N->j<N-> ∀s,G s-> ∀c,wpAny M A (keyLt' e (a i).1 (a j).1) (λb d=>G d/\b=lt i j) c s
structure Cs where
 M:Model
 A:Around
 E:Value->Shared->Prop
 G:Shared->Prop
 it:Nat->Keyed
 lt:Nat->Nat->Bool
 κ:SortKind
 N:Nat
 as: ∀i j,lt i j=true->lt j i=false
 tr: ∀{i j k},lt j i=false->lt k j=false->lt k i=false
 ask:Ask M A G it κ N lt
section
variable {X:Cs}{α β:Type}{f:α->StateT SortSt Sem β}{Q:β->SortSt->Prop}{st:pV}
def wp(X:Cs){α:Type}(m:StateT SortSt Sem α)(Q:α->SortSt->Prop)(st:pV):Prop:= ∀s,X.G s->wpAny X.M X.A (m.run st) (λr a=>X.G a/\Q r.1 r.2) X.E s
def gv{a:β}(h:Q a st):wp X (pure a) Q st:=λs g=>by rw[El];exact gE ⟨g,h⟩
def jb{m:StateT SortSt Sem α}(h:wp X m (λa c=>wp X (f a) Q c) st):wp X (m>>=f) Q st:=λs g=>by
 rw[StateT.run_bind];exact gq (lQ (h s g) (λr d b=>b.2 d b.1) λ_ _ e=>e)
def Gq{m:StateT SortSt Sem α}{Q b:α->SortSt->Prop}(h:wp X m Q st)(i: ∀a c,Q a c->b a c):wp X m b st:=λs g=>lQ (h s g) (λr _ d=>⟨d.1,i _ _ d.2⟩) λ_ _ e=>e
def hU{c:Prop}[Decidable c]{t e:StateT SortSt Sem β}(h1:c->wp X t Q st)(a: ¬c->wp X e Q st):wp X (if c then t else e) Q st:=by split<;>simp_all
def nj{f:SortSt->StateT SortSt Sem β}(h:wp X (f st) Q st):wp X (get>>=f) Q st:=jb λs g=>by rw[StateT.run_get];exact gE ⟨g,h⟩
def sf{g:SortSt->SortSt}{f:PUnit->StateT SortSt Sem β}(h:wp X (f ⟨⟩) Q (g st)):wp X (modify g>>=f) Q st:=jb λs g=>by rw[StateT.run_modify];exact gE ⟨g,h⟩
def Gs{m:Sem α}(h: ∀s,X.G s->wpAny X.M X.A m (λa b=>X.G b/\wp X (f a) Q st) X.E s):wp X (liftM m>>=f) Q st:=jb λs g=>by
 show wpAny X.M X.A ((StateT.lift m:StateT SortSt Sem α).run st) _ X.E s;rw[StateT.run_lift];exact gq (lQ (h s g) (λa b c=>gE c) λ_ _ e=>e)
def qz{x:String}{f:Unit->StateT SortSt Sem β}(h:wp X (f ()) Q st):wp X (liftM (rule x)>>=f) Q st:=Gs λs g=>rJ ⟨g,h⟩
theorem Gr{e:Nat}{g:Nat->α->StateT SortSt Sem (ForInStep α)}{I:Nat->α->SortSt->Prop}{J:α->SortSt->Prop}
  (m: ∀i c st,i<e->I i c st->wp X (g i c) (λr b=>match r with| .done d=>J d b| .yield d=>I (i+1) d b) st)(l: ∀c st,I e c st->J c st):
  ∀(n a:Nat) (c:α) (st:pV),a+n=e->I a c st->wp X (forIn (List.range' a n 1) c g) J st
 |0,a,c,st,rfl,h=>gv (l _ _ h)
 |n+1,a,c,st,q,h=>by
  rw[Ek,List.forIn_cons];refine jb (Gq (m a c st (by lia) h) λr b k=>?_)
  cases r with
  |done j=>exact gv k
  |yield j=>exact Gr m l n _ j b (by lia) k
def kU{g:Nat->α->StateT SortSt Sem (ForInStep α)}(I:Nat->α->SortSt->Prop)(J:α->SortSt->Prop){a b:Nat}{c:α}(h:I a c st)
  (l: ∀i c st,i<a+(b-a)->I i c st->wp X (g i c) (λr e=>match r with| .done d=>J d e| .yield d=>I (i+1) d e) st)
  (j: ∀c st,I (a+(b-a)) c st->J c st)(k: ∀c st,J c st->wp X (f c) Q st):wp X (forIn [a:b] c g>>=f) Q st:=by
 refine jb (Gq ?_ k);rw[Std.Legacy.Range.forIn_eq_forIn_range'];exact Gr l j _ _ _ _ (by simp[Std.Legacy.Range.size]) h
abbrev ar(X:Cs)(l:iI):Array Keyed:=(l.map X.it).toArray
def kG{l:iI}{i x:Nat}{f:Keyed->StateT SortSt Sem β}(e:l[i]?=some x)(h:wp X (f (X.it x)) Q st):wp X (elem' (ar X l) i>>=f) Q st:=jb (by
 rw[elem'_eq,show(ar X l)[i]?=some (X.it x) by simp[e]];exact gv h)
def CJ{i j:Nat}{f:Option Bool->StateT SortSt Sem β}(hk:kindOf st=X.κ)(k:i<X.N)(l:j<X.N)(h: ∀b,X.lt i j=b->wp X (f (some b)) Q st):wp X (lt' (X.it i) (X.it j)>>=f) Q st:=jb (by
 rw[lt'_eq];refine nj ?_;rw[hk];refine Gs λs g=>sQ (lQ (X.ask i j k l s g λ_ _=>False) (λb m c=>?_) λe m d=>d.elim);obtain⟨a,rfl⟩:=c;exact⟨a,gv (h _ rfl)⟩)
structure Rp(X:Cs)(q:Array (Nat×Nat×Nat))(L:iI)(st:pV):Prop where
 a:arrOf st=ar X L
 k:kindOf st=X.κ
 f:failedOf st=none
 q:pendingOf st=q
 p:L.Perm (List.range X.N)
theorem Rp.n{q:Array (Nat×Nat×Nat)}{L:iI}(R:Rp X q L st){i x:Nat}(e:L[i]?=some x):x<X.N:=by
 simpa using R.p.mem_iff.mp (tw e)
def CM{q:Array (Nat×Nat×Nat)}{L:iI}(R:Rp X q L st){i j x y:Nat}{f:Option Bool->StateT SortSt Sem β}(c:L[i]?=some x)(d:L[j]?=some y)(h: ∀b,X.lt x y=b->wp X (f (some b)) Q st):wp X (ltAt' i j>>=f) Q st:=jb (by
 rw[ltAt'_eq];refine nj ?_;rw[R.a];exact kG c (kG d (by rw[<-bind_pure (lt' _ _)];exact CJ R.k (R.n c) (R.n d) λb e=>gv (h b e))))
def Du{α:Type}(T A R:List α){d:Nat}(hd:d=A.length / 2):mirror (T++(A++R)).toArray T.length (T.length+A.length) d=(T++(A.reverse++R)).toArray:=by
 have hd:d=(T.length+A.length-T.length) / 2:=by lia
 subst hd;apply Array.ext_getElem?;intro k;rw[getElem?_mirror_all (by simp)];simp only[List.getElem?_toArray];by_cases h1:k<T.length
 ·rw[hJ (by lia),vP h1,vP h1]
 ·obtain⟨k,rfl⟩:=Nat.exists_eq_add_of_le (Nat.le_of_not_lt h1);rw[rH (by lia) (l₂:=A.reverse++R),Ej];by_cases a:k<A.length
  ·rw[gF (by lia),rH (by lia),vP (by lia),vP (by simpa using a),List.getElem?_reverse a]
   congr 1;lia
  ·rw[hJ (by lia),rH (by lia),Ej,rH (by lia),rH (by simpa using a),A6]
theorem wm{α:Type}(R:List α)(x:α): ∀(A T:List α) {i:Nat},i=T.length+A.length->bubble (T++(A++x::R)).toArray i A.length=(T++(x::(A++R))).toArray
 |[],T,i,h=>rfl
 |a::A,T,i,h=>by
  have:=wm R x A (T++[a]) (i:=i) (by simp at h ⊢;lia);rw[kT,bubble_succ,show T++(a::A++x::R)=T++[a]++(A++x::R) by simp,this];have e:i-A.length=T.length+1:=by simp at h;lia
  rw[e,Nat.add_sub_cancel];simp[Array.swapIfInBounds]
variable {q:Array (Nat×Nat×Nat)}{T A R:iI}{i j x:Nat}
def JJ{b:zU}{L a:iI}(S:Rp X q L st)(e:b=ar X a)(p:a.Perm L):Rp X q a (setArr st b):=⟨e,S.k,S.f,S.q,p.trans S.p⟩
def EW{f:Unit->StateT SortSt Sem β}(S:Rp X q (T++(A++R)) st)(c:i=T.length)(e:j=T.length+A.length)(h: ∀b,Rp X q (T++(A.reverse++R)) b->wp X (f ()) Q b):wp X (reverseSlice' i j>>=f) Q st:=by
 rw[reverseSlice'_eq];subst c e;refine sf (h _ (JJ S ?_ (((xv A).append_right R).append_left T)));have:=Du (T.map X.it) (A.map X.it) (R.map X.it) (d:=(T.length+A.length-T.length) / 2) (by simp);simpa[ar,S.a] using this
def P4{f:Unit->StateT SortSt Sem β}(S:Rp X q (T++(A++x::R)) st)(c:i=T.length+A.length)(d:j=T.length)(h: ∀b,Rp X q (T++(x::(A++R))) b->wp X (f ()) Q b):wp X (moveDown' i j>>=f) Q st:=by
 rw[moveDown'_eq];subst c d;refine sf (h _ (JJ S ?_ (List.perm_middle.symm.append_left T)));have:=wm (R.map X.it) (X.it x) (A.map X.it) (T.map X.it) (i:=T.length+A.length) (by simp);simpa[ar,S.a] using this
end
abbrev Cs.le(X:Cs)(i j:Nat):Prop:=X.lt j i=false
section
variable {X:Cs}{o:Type}{Q:o->SortSt->Prop}{st:pV}{q:Array (Nat×Nat×Nat)}{T A B D R L:iI}{i j x y:Nat}{r:Nat->Nat->Prop}
def ix0(h:i=T.length+A.length):(T++(A++x::R))[i]?=some x:=by subst h;simp
def ix1(h:i=T.length+A.length+1):(T++(A++x::y::R))[i]?=some y:=by subst h;rw[<-pN,rH (by simp)];simp
def CZ(u:D.Pairwise r)(h: ∀z∈D,r z y):(D++[y]).Pairwise r:=uF.mpr ⟨u,Jk _ _,λa c b d=>Gm.mp d▸h a c⟩
def Dy(e: ∀{a b c},r a b->r b c->r a c)(u:(D++[x]).Pairwise r)(h:r x y): ∀z∈D++[x],r z y:=λz d=>by
 rcases rK.mp d with d|d
 ·exact e ((uF.mp u).2.2 z d x jB) h
 ·rw[Gm.mp d];exact h
def JN{g:Nat->Option (Option Nat)×Nat->StateT SortSt Sem (ForInStep (Option (Option Nat)×Nat))}{f:Option (Option Nat)×Nat->StateT SortSt Sem o}{lo n m:Nat}
  (p: ∀i n,g i (none,n)=(ltAt' (lo+n) (lo+n-1)>>=λx=>match x with|some b=>if b=true then pure (.done (none,n)) else pure (.yield (none,n+1))|_=>pure (.done (some none,n))))
  (S:Rp X q (T++(A++x::R)) st)(v:T.length=lo)(t:n=A.length+1)(a:m=n+R.length)(u:(A++[x]).Pairwise X.le)
  (h: ∀A x R,Rp X q (T++(A++x::R)) st->m=A.length+1+R.length->(A++[x]).Pairwise X.le->(∀y l,R=y::l->X.lt y x=true)->wp X (f (none,A.length+1)) Q st):wp X (forIn [n:m] (none,n) g>>=f) Q st:=by
 refine kU (λi c s=>s=st/\c=(none,i)/\ ∃A x R,Rp X q (T++(A++x::R)) st/\i=A.length+1/\m=i+R.length/\(A++[x]).Pairwise X.le)
  (λc s=>s=st/\ ∃A x R,Rp X q (T++(A++x::R)) st/\c=(none,A.length+1)/\m=A.length+1+R.length/\(A++[x]).Pairwise X.le/\ ∀y l,R=y::l->X.lt y x=true) ⟨rfl,rfl,A,x,R,S,t,a,u⟩ ?_ ?_ ?_
 ·rintro i c s d ⟨rfl,rfl,A,x,R,S,rfl,h1,u⟩;rw[p];obtain⟨y,l,rfl⟩:=vM (l:=R) (by lia);refine CM S (ix1 (by lia)) (ix0 (by lia)) λb e=>?_
  cases b with
  |true=>exact gv ⟨rfl,A,x,_,S,rfl,h1,u,λ_ _ k=>by cases k;exact e⟩
  |false=>exact gv ⟨rfl,rfl,A++[x],y,l,by simpa using S,by simp,by simp at h1;lia,CZ u (Dy X.tr u e)⟩
 ·rintro c s ⟨rfl,rfl,A,x,R,S,d,h1,u⟩;exact⟨rfl,A,x,R,S,by rw[d],by lia,u,λy l e=>by subst e;simp at h1;lia⟩
 ·rintro c s ⟨rfl,A,x,R,S,rfl,a,u,e⟩;exact h A x R S a u e
def JK{c:Prop}[Decidable c]{k:StateT SortSt Sem o}(S:Rp X q (T++(A++R)) st)(e:i=T.length)(f:j=T.length+A.length)(d: ¬c->A.length=1)(h: ∀b,Rp X q (T++(A.reverse++R)) b->wp X k Q b):wp X (if c then reverseSlice' i j>>=λ_=>k else k) Q st:=hU (λ_=>EW S e f h) λz=>h _ (by
 obtain⟨a,rfl⟩:=List.length_eq_one_iff.mp (d z);exact S)
def dnT(d:(A++B).Pairwise λa b=>X.le b a)(u:B.Pairwise X.le):(A++B.reverse).Pairwise λa b=>X.le b a:=by
 rw[uF] at d ⊢;exact⟨d.1,ET.mpr u,λa c b e=>d.2.2 a c b (List.mem_reverse.mp e)⟩
def Cs.rf(X:Cs)(i:Nat):X.le i i:=Bool.eq_false_iff.mpr λh=>Bool.noConfusion (h.symm.trans (X.as i i h))
def OP{k m:StateT SortSt Sem o}(P:SortSt->Prop)(b:(∀a,P a->wp X k Q a)->wp X m Q st)(hk: ∀a,P a->wp X k Q a):wp X m Q st:=b hk
def JM{lo m:Nat}{Q:Option Nat->SortSt->Prop}(S:Rp X q (T++x::R) st)(p:T.length=lo)(f:m=1+R.length)(h: ∀A R g,Rp X q (T++(A++R)) g->A≠[]->A.Pairwise X.le->m=A.length+R.length->Q (some A.length) g):wp X (countRun' lo m) Q st:=by
 have fin: ∀A x R g,Rp X q (T++(A++x::R)) g->m=A.length+1+R.length->(A++[x]).Pairwise X.le->Q (some (A.length+1)) g:=λA x R g S f u=>by
  simpa using h (A++[x]) R g (by simpa using S) (by simp) u (by simpa using f)
 have ge: ∀{a b c},X.le b a->X.le c b->X.le c a:=λh1 t=>X.tr t h1;rw[countRun'_eq];dsimp only;refine JN (λ_ _=>rfl) (A:=[]) S p rfl f (by simp) λA x R S f u H=>?_;refine hU (λ_=>gv (fin A x R _ S f u)) λI=>?_;obtain⟨y,l,rfl⟩:=vM (l:=R) (by simp at I;lia);apply OP λg=>Rp X q (T++((A++[x]).reverse++y::l)) g/\ ∀z∈A++[x],X.le y z
 ·intro F;have w:=X.as _ _ (H y l rfl);refine hU (λh1=>?_) λh1=>F _ ?_
  ·obtain⟨a,A,rfl⟩:=vM (l:=A) (Nat.lt_of_succ_lt_succ h1);refine CM S (x:=a) (y:=x) (ix0 (A:=[]) (by simpa using p.symm)) (ix0 (by simp;lia)) λb e=>?_
   cases b with
   |true=>exact gv (fin _ x _ _ S f u)
   |false=>
    refine EW (A:=a::A++[x]) (by simpa using S) p.symm (by simp;lia) λg n=>F _ ⟨n,λz k=>X.tr (X.tr w e) ?_⟩;rcases jM.mp k with rfl|k
    ·exact X.rf _
    ·exact(Gn.mp u).1 z k
  ·obtain rfl:=xu (l:=A) (by simpa using h1);exact⟨S,by simpa using w⟩
 ·rintro st ⟨S,d⟩;have t:A.length+2<=m:=by simp at f;lia
  dsimp only
  refine qz (kU (λi c s=> ∃C B x R,c=(none,i,B.length)/\Rp X q (T++(C++(B++x::R))) s/\i=C.length+B.length+1/\m=i+R.length/\(C++(B++[x])).Pairwise (λa b=>X.le b a)/\(B++[x]).Pairwise X.le)
   (λc s=> ∃C B x R,c=(none,C.length+B.length+1,B.length)/\Rp X q (T++(C++(B++x::R))) s/\m=C.length+B.length+1+R.length/\(C++(B++[x])).Pairwise (λa b=>X.le b a)/\(B++[x]).Pairwise X.le) ⟨(A++[x]).reverse,[],y,l,rfl,S,by simp,by simp at f ⊢;lia,?_,by simp⟩ ?_ ?_ ?_)
  ·exact CZ (ET.mpr u) λz k=>d z (List.mem_reverse.mp k)
  ·rintro i c s v ⟨C,B,x,R,rfl,S,rfl,f,d,u⟩;obtain⟨y,l,rfl⟩:=vM (l:=R) (by lia);rw[<-pN] at S;refine CM S (ix1 (by simp;lia)) (ix0 (by simp;lia)) λb e=>?_
   cases b with
   |true=>
    refine JK (T:=T++C) (A:=B++[x]) (by simpa using S) (by simp;lia) (by simp;lia) (λz=>by simp at z ⊢;exact z) λg n=>gv ⟨C++(B++[x]).reverse,[],y,l,rfl,by simpa using n,by simp;lia,by simp at f;lia,CZ (dnT d u) λz k=>?_,by simp⟩;rw[<-pN] at d;exact Dy (r:=λa b=>X.le b a) ge d (X.as _ _ e) z (by simpa[or_comm] using k)
   |false=>
    refine CM S (ix0 (by simp;lia)) (ix1 (by simp;lia)) λb G=>?_
    cases b with
    |true=>exact gv ⟨C,B,x,_,rfl,by simpa using S,f,d,u⟩
    |false=>
     refine gv ⟨C,B++[x],y,l,by simp,by simpa using S,by simp;lia,by simp at f;lia,?_,CZ u (Dy X.tr u e)⟩;rw[<-pN] at d ⊢;rw[<-pN];exact CZ d (Dy (r:=λa b=>X.le b a) ge d G)
  ·rintro c s ⟨C,B,x,R,rfl,S,v,f,d,u⟩;exact⟨C,B,x,R,by rw[v],S,by lia,d,u⟩
  ·rintro c s ⟨C,B,x,R,rfl,S,f,d,u⟩;refine JK (T:=T++C) (A:=B++[x]) (by simpa using S) (by simp;lia) (by simp;lia) (λz=>by simp at z ⊢;exact z) λg n=>?_;refine EW (T:=T) (A:=C++(B++[x]).reverse) (by simpa using n) p.symm (by simp;lia) λg n=>?_;have u:=ET.mpr (dnT d u);rcases Jj (C++(B++[x]).reverse).reverse with e|⟨E,J,e⟩
   ·simp at e
   ·rw[e,Ji] at n u;have k:=lP List.length e;simp at k;exact JN (λ_ _=>rfl) (A:=E) (x:=J) (R:=R) (by simpa using n) p (by dsimp only;lia) (by dsimp only;lia) u λA x R S f u _=>gv (fin A x R _ S f u)
end
section
variable {X:Cs}{g:Type}{Q:g->SortSt->Prop}{st:pV}{q:Array (Nat×Nat×Nat)}{T A B D R L:iI}{i j x y:Nat}{p:Nat->Bool}
abbrev Mo(X:Cs)(p:Nat->Bool):Prop:= ∀a b,X.le a b->p b=true->p a=true
abbrev Lo(p:Nat->Bool)(A:iI)(a:Nat):Prop:= ∀i,i<a->p (A.getD i 0)=true
abbrev Hi(p:Nat->Bool)(A:iI)(a:Nat):Prop:= ∀i,a<=i->i<A.length->p (A.getD i 0)=false
def Lu:Mo X λz=>!X.lt x z:=λa b h c=>by simp only[Bool.not_eq_true'] at c ⊢;exact X.tr h c
def Uj:Mo X λz=>X.lt z x:=λa b h c=>by
 cases e:X.lt a x with
 |true=>exact e
 |false=>exact Bool.noConfusion ((X.tr e h).symm.trans c)
def upD(u:A.Pairwise X.le)(b:i<=j)(h:j<A.length):X.le (A.getD i 0) (A.getD j 0):=by
 have a:i<A.length:=by lia
 simp only[kh,iW h,iW a,Option.getD_some];rcases Nat.lt_or_eq_of_le b with e|rfl
 ·exact OL.mp u i j a h e
 ·exact X.rf _
def Dv(u:A.Pairwise X.le)(m:Mo X p)(h:i<A.length)(e:p (A.getD i 0)=true):Lo p A (i+1):=λj a=>m _ _ (upD u (by lia) h) e
def DH(u:A.Pairwise X.le)(m:Mo X p)(e:p (A.getD i 0)=false):Hi p A i:=λj a h=>by
 cases c:p (A.getD j 0) with
 |false=>rfl
 |true=>exact(m _ _ (upD u a h) c).symm.trans e
def Hc(h:Lo p A i): ∀z∈A.take i,p z=true:=λz a=>by
 obtain⟨k,hk,rfl⟩:=A5 a;have hk:=tD▸hk;have:=h k (by lia);simpa[show k<A.length by lia] using this
def Hl(h:Hi p A i): ∀z∈A.drop i,p z=false:=λz a=>by
 obtain⟨k,hk,rfl⟩:=A5 a;simp at hk;have:=h (i+k) (by lia) (by lia);simpa[show i+k<A.length by lia] using this
def ixD(a:T.length=j)(h:i<A.length):(T++(A++R))[j+i]?=some (A.getD i 0):=by
 subst a;rw[rH (by lia),Ej,vP h];simp[h]
def V3(u:A.Pairwise X.le)(h1: ∀z∈A.take i,(!X.lt y z)=true)(e: ∀z∈A.drop i,(!X.lt y z)=false):(A.take i++y::A.drop i).Pairwise X.le:=by
 rw[<-xt i A,uF] at u;refine uF.mpr ⟨u.1,Gn.mpr ⟨λz f=>X.as _ _ (by simpa using e z f),u.2.1⟩,λa d b c=>?_⟩;rcases jM.mp c with rfl|c
 ·simpa using h1 a d
 ·exact u.2.2 a d b c
def P5{lo n k:Nat}{Q:Bool->SortSt->Prop}(S:Rp X q (T++(A++R)) st)(G:T.length=lo)(E:A.length=k)(I:0<k)(o:n<=k+R.length)(hk:k<=n)(u:A.Pairwise X.le)
  (h: ∀A R w,Rp X q (T++(A++R)) w->A.length=n->A.Pairwise X.le->Q true w):wp X (binarySort' lo n k) Q st:=by
 rw[binarySort'_eq,show max k 1=k by lia];dsimp only;refine kU (λk c s=>c=(none,())/\ ∃A R,Rp X q (T++(A++R)) s/\A.length=k/\A.Pairwise X.le/\n<=k+R.length) (λc s=>c=(none,())/\ ∃A R,Rp X q (T++(A++R)) s/\A.length=n/\A.Pairwise X.le) ⟨rfl,A,R,S,E,u,o⟩ ?_ ?_ ?_
 ·rintro k c s m ⟨rfl,A,R,S,rfl,u,o⟩;obtain⟨y,l,rfl⟩:=vM (l:=R) (by lia)
  refine kU (λi c r=>r=s/\ ∃a b,c=(none,a,b)/\a<=b/\b<=A.length/\b<=a+(A.length-i)/\Lo (λz=>!X.lt y z) A a/\Hi (λz=>!X.lt y z) A b)
   (λc r=>r=s/\ ∃a b,c=(none,a,b)/\a<=A.length/\Lo (λz=>!X.lt y z) A a/\Hi (λz=>!X.lt y z) A a) ⟨rfl,0,A.length,rfl,by lia,by lia,by lia,λi h=>by lia,λi h H=>by lia⟩ ?_ ?_ ?_
  ·rintro i c _ m ⟨rfl,a,b,rfl,h1,t,v,d,f⟩;dsimp only;refine hU (λe=>gv ⟨rfl,a,b,rfl,by lia,d,(show a=b by lia)▸f⟩) λe=>?_;refine CM S (ix0 (by lia)) (ixD G (by lia)) λc e=>?_
   cases c with
   |true=>exact gv ⟨rfl,a,_,rfl,by lia,by lia,by lia,d,DH u Lu (by rw[e];rfl)⟩
   |false=>exact gv ⟨rfl,_,b,rfl,by lia,by lia,by lia,Dv u Lu (by lia) (by rw[e];rfl),f⟩
  ·rintro c _ ⟨rfl,a,b,rfl,h1,t,v,d,f⟩;exact⟨rfl,a,b,rfl,by lia,d,(show a=b by lia)▸f⟩
  ·rintro c _ ⟨rfl,a,b,rfl,h1,t,v⟩;refine P4 (T:=T++A.take a) (A:=A.drop a) (by rw[pN,<-pN (A.take a),xt];exact S) (by simp;lia) (by simp;lia) λr C=>gv ⟨rfl,A.take a++y::A.drop a,l,by simpa using C,by simp;lia,V3 u (Hc t) (Hl v),by simp at o;lia⟩
 ·rintro c s ⟨rfl,A,R,S,m,u,o⟩;exact⟨rfl,A,R,S,by lia,u⟩
 ·rintro c s ⟨rfl,A,R,S,m,u⟩;exact gv (h A R s S m u)
noncomputable def Oa:Bool->Keyed->Array Keyed->Nat->Nat->Nat->StateT SortSt Sem (Option Nat):=sortPriv%PySem.Builtin.gallop
noncomputable def Lv:Array Keyed->Array Keyed->StateT SortSt Sem (Array Keyed):=sortPriv%PySem.Builtin.mergeLo
noncomputable def Lw:Array Keyed->Array Keyed->StateT SortSt Sem (Array Keyed):=sortPriv%PySem.Builtin.mergeHi
noncomputable def MS:Nat->StateT SortSt Sem Unit:=sortPriv%PySem.Builtin.setMinGallop
def Ti{k:Nat->Nat->StateT SortSt Sem g}{m:StateT SortSt Sem g}(P:Nat->Nat->Prop)(c:(∀a b,P a b->wp X (k a b) Q st)->wp X m Q st)(hk: ∀a b,P a b->wp X (k a b) Q st):wp X m Q st:=c hk
abbrev gp(X:Cs)(left:Bool)(x z:Nat):Bool:=if left=true then X.lt z x else !X.lt x z
def Bx{left:Bool}{base:Nat}{f:Option Bool->StateT SortSt Sem g}(hk:kindOf st=X.κ)(k: ∀z∈A,z<X.N)(c:x<X.N)(l:T.length=base)(a:i<A.length)(h: ∀b,gp X left x (A.getD i 0)=b->wp X (f (some b)) Q st):
  wp X ((elem' (ar X (T++(A++R))) (base+i)>>=λz=>if left=true then lt' z (X.it x) else lt' (X.it x) z>>=λr=>pure (Option.map (λx=>!x) r))>>=f) Q st:=by
 have d:A.getD i 0<X.N:=k _ (by simp[a]);refine jb (kG (ixD l a) ?_)
 cases left with
 |true=>rw[gF rfl,<-bind_pure (lt' _ _)];exact CJ hk d c λb e=>gv (h b e)
 |false=>exact CJ hk c d λb e=>gv (h (!b) (lP not e))
def vd{left:Bool}{base n hint:Nat}{Q:Option Nat->SortSt->Prop}(hk:kindOf st=X.κ)(t: ∀z∈A,z<X.N)(w:x<X.N)(u:A.Pairwise X.le)(J:L=T++(A++R))(v:T.length=base)(G:A.length=n)(C:hint<n)
  (h: ∀r,r<=n->(∀z∈A.take r,gp X left x z=true)->(∀z∈A.drop r,gp X left x z=false)->Q (some r) st):wp X (Oa left (X.it x) (ar X L) base n hint) Q st:=by
 subst J
 have m:Mo X (gp X left x):=by
  cases left with
  |true=>exact Uj
  |false=>exact Lu
 apply Ti λa b=>a<=b/\b<=n/\Lo (gp X left x) A a/\Hi (gp X left x) A b
 ·intro F;refine Bx hk t w v (G▸C) λb e=>?_;refine hU (λz=>?_) λz=>?_
  ·subst z
   refine kU (λi c s=>st=s/\ ∃a b,c=(none,a,b)/\a<b/\i<b/\hint+a<n/\Lo (gp X left x) A (hint+a+1)) (λc s=>st=s/\ ∃a b,c=(none,a,b)/\a<b/\hint+a<n/\Lo (gp X left x) A (hint+a+1)/\(n-hint<=b\/Hi (gp X left x) A (hint+b)))
    ⟨rfl,0,1,rfl,by lia,by lia,C,Dv u m (G▸C) e⟩ ?_ ?_ ?_
   ·rintro i c _ E ⟨rfl,a,b,rfl,h1,o,l,f⟩;dsimp only;refine hU (λz=>gv ⟨rfl,a,b,rfl,h1,l,f,.inl z⟩) λz=>Bx hk t w v (by lia) λc e=>?_
    cases c with
    |true=>exact gv ⟨rfl,_,_,rfl,by lia,by lia,by lia,Dv u m (by lia) e⟩
    |false=>exact gv ⟨rfl,a,b,rfl,h1,l,f,.inr (DH u m e)⟩
   ·rintro c _ ⟨rfl,a,b,rfl,h1,o,l,f⟩;exact⟨rfl,a,b,rfl,h1,l,f,.inl (by lia)⟩
   ·rintro c _ ⟨rfl,a,b,rfl,h1,l,f,k⟩;dsimp only;generalize H:hint+a+1=c at*;generalize I:hint+min b (n-hint)=d;refine F c d ⟨by lia,by lia,f,λi M O=>?_⟩;rcases k with k|k
    ·lia
    ·exact k i (by lia) O
  ·refine kU (λi c s=>st=s/\ ∃a b,c=(none,a,b)/\a<b/\i<b/\a<=hint/\Hi (gp X left x) A (hint-a)) (λc s=>st=s/\ ∃a b,c=(none,a,b)/\a<b/\a<=hint/\Hi (gp X left x) A (hint-a)/\(hint<b\/Lo (gp X left x) A (hint-b+1)))
    ⟨rfl,0,1,rfl,by lia,by lia,by lia,DH u m (by simpa[z] using e)⟩ ?_ ?_ ?_
   ·rintro i c _ E ⟨rfl,a,b,rfl,h1,o,l,f⟩;dsimp only;refine hU (λz=>gv ⟨rfl,a,b,rfl,h1,l,f,.inl z⟩) λz=>Bx hk t w v (by lia) λc e=>?_
    cases c with
    |true=>exact gv ⟨rfl,a,b,rfl,h1,l,f,.inr (Dv u m (by lia) e)⟩
    |false=>exact gv ⟨rfl,_,_,rfl,by lia,by lia,by lia,DH u m e⟩
   ·rintro c _ ⟨rfl,a,b,rfl,h1,o,l,f⟩;exact⟨rfl,a,b,rfl,h1,l,f,.inl (by lia)⟩
   ·rintro c _ ⟨rfl,a,b,rfl,h1,l,f,k⟩;dsimp only;generalize I:hint-a=d at*;generalize H:hint+1-min b (hint+1)=c;refine F c d ⟨by lia,by lia,λi M=>?_,f⟩;rcases k with k|k
    ·lia
    ·exact k i (by lia)
 ·rintro a b ⟨h1,o,l,f⟩;refine kU (λi c s=>st=s/\ ∃a b,c=(none,a,b)/\a<=b/\b<=n/\b<=a+(n-i)/\Lo (gp X left x) A a/\Hi (gp X left x) A b) (λc s=>st=s/\ ∃a,c=(none,a,a)/\a<=n/\Lo (gp X left x) A a/\Hi (gp X left x) A a) ⟨rfl,a,b,rfl,h1,o,by lia,l,f⟩ ?_ ?_ ?_
  ·rintro i c _ E ⟨rfl,a,b,rfl,h1,o,l,f,k⟩;refine hU (λz=>?_) λz=>Bx hk t w v (by dsimp only at z ⊢;lia) λc e=>?_
   ·have:a=b:=by dsimp only at z;lia
    subst this;exact gv ⟨rfl,a,rfl,o,f,k⟩
   ·dsimp only at z
    cases c with
    |true=>exact gv ⟨rfl,_,b,rfl,by dsimp only;lia,o,by dsimp only;lia,Dv u m (by dsimp only;lia) e,k⟩
    |false=>exact gv ⟨rfl,a,_,rfl,by dsimp only;lia,by dsimp only;lia,by dsimp only;lia,f,DH u m e⟩
  ·rintro c _ ⟨rfl,a,b,rfl,h1,o,l,f,k⟩;have:a=b:=by lia
   subst this;exact⟨rfl,a,rfl,o,f,k⟩
  ·rintro c _ ⟨rfl,a,rfl,o,f,k⟩;exact gv (h a o (Hc f) (Hl k))
end
section
variable {X:Cs}{β:Type}{Q:β->SortSt->Prop}{st:pV}{pq:Array (Nat×Nat×Nat)}{q r L Z a b o k:iI}{i j x y:Nat}{le:Nat->Nat->Prop}{out:zU}
structure MG(le:Nat->Nat->Prop)(Z a b o:iI):Prop where
 s:o.Pairwise le
 c: ∀x∈o,∀y∈a++b,le x y
 p:(o++(a++b)).Perm Z
 ua:a.Pairwise le
 ub:b.Pairwise le
def MG.put(m:MG le Z (k++a) b o)(h: ∀x∈k,∀y∈b,le x y):MG le Z a b (o++k):=by
 have f:=uF.mp m.ua;refine⟨uF.mpr ⟨m.s,f.1,λx e y d=>m.c x e y (by simp[d])⟩,λx e y d=>?_,by simpa using m.p,f.2.1,m.ub⟩;rcases rK.mp e with e|e
 ·refine m.c x e y ?_;simp at d ⊢;exact .inr d
 ·rcases rK.mp d with d|d
  ·exact f.2.2 x e y d
  ·exact h x e y d
def Mg(X:Cs)(le:Nat->Nat->Prop)(Z a b:iI)(out:zU):Prop:= ∃o,out=ar X o/\MG le Z a b o
def Rs(X:Cs)(Z:iI)(out:zU):Prop:= ∃o,out=ar X o/\o.Pairwise X.le/\o.Perm Z
def Mg.sw(m:Mg X le Z a b out):Mg X le Z b a out:=by
 obtain⟨o,e,m⟩:=m;exact⟨o,e,m.s,λx d y f=>m.c x d y (by simpa[or_comm] using f),(OJ.append_left o).trans m.p,m.ub,m.ua⟩
def Mg.put(m:Mg X le Z a b out){a':iI}{c:zU}(e:a=k++a')(h: ∀x∈k,∀y∈b,le x y)(d:c=out++ar X k):Mg X le Z a' b c:=by
 obtain⟨o,rfl,m⟩:=m;exact⟨o++k,by simpa[ar] using d,(e▸m).put h⟩
theorem Mg.a1(m:Mg X le Z (q.drop i) b out)(c:i<q.length)(h: ∀y∈b,le q[i] y):Mg X le Z (q.drop (i+1)) b (out.push (X.it q[i])):=m.put (k:=[q[i]]) (uQ c) (by simpa using h) (by simp[ar])
def Mg.ak(m:Mg X le Z (q.drop i) b out)(h: ∀x∈(q.drop i).take j,∀y∈b,le x y):Mg X le Z (q.drop (i+j)) b (out++(ar X q).extract i (i+j)):=m.put (by rw[<-List.drop_drop,xt]) h (by simp[ar,A4])
def Mg.fin(m:Mg X X.le Z (q.drop i) (r.drop j) out)(h: ∀x∈q.drop i,∀y∈r.drop j,X.le x y):Rs X Z (out++(ar X q).extract i (ar X q).size++(ar X r).extract j (ar X r).size):=by
 obtain⟨o,e,m⟩:=((m.put (k:=q.drop i) (a':=[]) (by simp) h rfl).sw).put (k:=r.drop j) (a':=[]) (by simp) (by simp) rfl;exact⟨o,by rw[<-e];simp[ar,A4,A0],m.s,by simpa using m.p⟩
def Mg.end(m:Mg X X.le Z (q.drop i) (r.drop j) out)(h:q.length<=i\/r.length<=j):Rs X Z (out++(ar X q).extract i (ar X q).size++(ar X r).extract j (ar X r).size):=m.fin λx c y d=>by
 rcases h with h|h
 ·rw[xy h] at c;cases c
 ·rw[xy h] at d;cases d
theorem Mg.hd(m:Mg X le Z (q.drop i) b out)(f: ∀{a b c},le a b->le b c->le a c)(e:i<q.length)(h:le x q[i]): ∀y∈q.drop i,le x y:=λy d=>by
 obtain⟨o,_,m⟩:=m;have:=m.ua;rw[uQ e] at this d;rcases jM.mp d with rfl|d
 ·exact h
 ·exact f h ((Gn.mp this).1 y d)
def Bw{f:Unit->StateT SortSt Sem β}{n:Nat}(S:Rp X pq L st)(h: ∀c,Rp X pq L c->wp X (f ()) Q c):wp X (MS n>>=f) Q st:=sf (g:=λs=>SortSt.mk' (kindOf s) (arrOf s) (pendingOf s) n (failedOf s)) (h _ ⟨S.a,S.k,S.f,S.q,S.p⟩)
def Gu{e:Type}{k:e->Nat->StateT SortSt Sem β}{m:StateT SortSt Sem β}(P:e->Nat->SortSt->Prop)(f:(∀c n d,P c n d->wp X (k c n) Q d)->wp X m Q st)(hk: ∀c n d,P c n d->wp X (k c n) Q d):wp X m Q st:=f hk
def JL{k:Nat->StateT SortSt Sem β}{m:StateT SortSt Sem β}(P:Nat->SortSt->Prop)(d:(∀n c,P n c->wp X (k n) Q c)->wp X m Q st)(hk: ∀n c,P n c->wp X (k n) Q c):wp X m Q st:=d hk
def Th{Q:Array Keyed->SortSt->Prop}(S:Rp X pq L st)(u1:q.Pairwise X.le)(u2:r.Pairwise X.le)(U: ∀z∈q,z<X.N)(Y: ∀z∈r,z<X.N)(h1:0<q.length)(h2:0<r.length)(hd: ∀y∈q,X.le r[0] y)(top: ∀x∈r,X.le x q[q.length-1])
  (h: ∀out s,Rp X pq L s->Rs X (q++r) out->Q out s):wp X (Lv (ar X q) (ar X r)) Q st:=by
 have sq:(ar X q).size=q.length:=by simp
 have sr:(ar X r).size=r.length:=by simp
 have K:Mg X X.le (q++r) (q.drop 0) (r.drop 1) #[X.it r[0]]:=Mg.sw (Mg.a1 (q:=r) (i:=0) (out:= #[]) ⟨[],rfl,.nil,by simp,by simpa using OJ,by simpa using u2,by simpa using u1⟩ h2 hd)
 have last: ∀{out i j},Mg X X.le (q++r) (q.drop i) (r.drop j) out->i+1=q.length->Rs X (q++r) (out++(ar X r).extract j (ar X r).size++(ar X q).extract i (ar X q).size):=λ{_ i j} m e=>m.sw.fin λx H y C=>by
  have hi:i<q.length:=by lia
  rw[uQ hi,xy (by lia),Gm] at C;have:=top x (Ei H);simpa only[C,<-e,Nat.add_sub_cancel] using this
 refine qz (kG (x:=r[0]) (by simp[h2]) ?_);refine hU (λe=>gv (h _ _ S (K.end (.inr (by simp at e;lia))))) λe=>hU (λv=>gv (h _ _ S (last K (by simpa using v)))) λv=>nj ?_
 let I:=λ(c:Nat) out d f s=>Rp X pq L s/\Mg X X.le (q++r) (q.drop d) (r.drop f) out/\d+1<q.length/\f<r.length/\c<=d+f
 refine kU (λi c s=> ∃out d f B,c=(none,out,d,f,B)/\I (i+1) out d f s) (λc s=> ∃out t,c=(some out,t)/\Rp X pq L s/\Rs X (q++r) out) ⟨_,0,1,_,rfl,S,K,by simp at v;lia,by simp at e;lia,by lia⟩ ?_ ?_ ?_
 ·rintro i c s _ ⟨out,d,f,B,rfl,J⟩;refine kU (λj c s=> ∃out d f p u,c=(none,out,d,f,p,u)/\I (i+1+j) out d f s) (λc s=>(∃out t,c=(some out,t)/\Rp X pq L s/\Rs X (q++r) out)\/ ∃out d f p u,c=(none,out,d,f,p,u)/\I (i+1) out d f s) ⟨_,_,_,_,_,rfl,J⟩ ?_ ?_ ?_
  ·rintro j c s _ ⟨out,d,f,p,u,rfl,S,m,E,l,G⟩;dsimp only;refine kG (x:=r[f]) (by simp[l]) (kG (x:=q[d]) (by simp) (CJ S.k (Y _ (by simp)) (U _ (by simp)) λb e=>?_))
   cases b with
   |true=>
    have n:=(m.sw.a1 l (m.hd X.tr (by lia) (X.as _ _ e))).sw;exact kG (x:=r[f]) (by simp[l]) (hU (λe=>gv (.inl ⟨_,_,rfl,S,n.end (.inr (by simp at e;lia))⟩)) λe=>hU (λ_=>gv (.inr ⟨_,_,_,_,_,rfl,S,n,E,by simp at e;lia,by lia⟩)) λ_=>gv ⟨_,_,_,_,_,rfl,S,n,E,by simp at e;lia,by lia⟩)
   |false=>
    have n:=m.a1 (by lia) (m.sw.hd X.tr l e);exact kG (x:=q[d]) (by simp) (hU (λe=>gv (.inl ⟨_,_,rfl,S,last n (by simpa using e)⟩)) λe=>hU (λ_=>gv (.inr ⟨_,_,_,_,_,rfl,S,n,by simp at e;lia,l,by lia⟩)) λ_=>gv ⟨_,_,_,_,_,rfl,S,n,by simp at e;lia,l,by lia⟩)
  ·rintro c s ⟨out,d,f,p,u,rfl,S,m,E,l,G⟩;exfalso;lia
  ·rintro c s (⟨out,t,rfl,hs⟩|⟨out,d,f,p,u,rfl,J⟩)
   ·exact gv ⟨out,_,rfl,hs⟩
   ·refine qz (kU (λj c s=> ∃out d f B p u,c=(none,out,d,f,B,p,u)/\I (i+1+j) out d f s) (λc s=>(∃out t,c=(some out,t)/\Rp X pq L s/\Rs X (q++r) out)\/ ∃out d f B p u,c=(none,out,d,f,B,p,u)/\I (i+2) out d f s) ⟨_,_,_,_,_,_,rfl,J⟩ ?_ ?_ ?_)
    ·rintro j c s _ ⟨out,d,f,B,p,u,rfl,S,m,E,l,G⟩;dsimp only;apply JL λ_ s=>Rp X pq L s
     ·intro F;refine hU (λ_=>?_) λ_=>?_
      ·generalize B-1=g;exact F g s S
      ·exact F B s S
     intro g s S;refine Bw S λs S=>kG (x:=r[f]) (by simp[l]) (jb (vd (T:=q.take d) (A:=q.drop d) (R:=[]) S.k (λz D=>U z (Ei D)) (Y _ (by simp)) (u1.sublist (List.drop_sublist _ _)) (by simp) (by simp;lia) (by simp) (by simp;lia) λk _ P V=>?_));dsimp only;apply Gu λout d s=>Rp X pq L s/\Mg X X.le (q++r) (q.drop d) (r.drop f) out/\d+1<q.length/\i+1+j<=d+f/\ ∀y∈q.drop d,X.le r[f] y
     ·intro F;have mk:=m.ak (j:=k) λx H y C=>m.sw.hd (x:=x) X.tr l (by simpa using P x H) y C;have w: ∀y∈q.drop (d+k),X.le r[f] y:=λy C=>X.as _ _ (by simpa using V y (by simpa using C));refine hU (λe=>?_) λe=>?_
      ·refine hU (λO=>gv (.inl ⟨_,_,rfl,S,last mk (by simpa using O)⟩)) λO=>hU (λv=>gv (.inl ⟨_,_,rfl,S,mk.end (.inl (by simp at v;lia))⟩)) λv=>?_;generalize out++(ar X q).extract d (d+k)=out at mk ⊢;generalize W:d+k=ic at mk w O v ⊢;exact F out ic s ⟨S,mk,by simp at O v;lia,by lia,w⟩
      ·rw[show k=0 by lia] at w;exact F out d s ⟨S,m,E,G,w⟩
     rintro out d s ⟨S,m,E,G,w⟩;have n:=(m.sw.a1 l w).sw;refine kG (x:=r[f]) (by simp[l]) (hU (λe=>gv (.inl ⟨_,_,rfl,S,n.end (.inr (by simp at e;lia))⟩)) λe=>kG (x:=q[d]) (by simp) (jb (vd (T:=r.take (f+1)) (A:=r.drop (f+1)) (R:=[]) S.k (λz D=>Y z (Ei D)) (U _ (by simp)) (u2.sublist (List.drop_sublist _ _)) (by simp) (by simp;lia) (by simp) (by simp at e ⊢;lia) λM _ P V=>?_)));dsimp only;apply Gu λout f s=>Rp X pq L s/\Mg X X.le (q++r) (q.drop d) (r.drop f) out/\f<r.length/\i+1+j<d+f/\ ∀y∈r.drop f,X.le q[d] y
     ·intro F;have mk:=(n.sw.ak (j:=M) λx H y C=>n.hd X.tr (by lia) (X.as _ _ (P x H)) y C).sw;have w: ∀y∈r.drop (f+1+M),X.le q[d] y:=λy C=>V y (by simpa using C);refine hU (λ_=>?_) λe3=>?_
      ·refine hU (λv=>gv (.inl ⟨_,_,rfl,S,mk.end (.inr (by simp at v;lia))⟩)) λv=>?_;generalize out.push (X.it r[f])++(ar X r).extract (f+1) (f+1+M)=out at mk ⊢;generalize W:f+1+M=ic at mk w v ⊢;exact F out ic s ⟨S,mk,by simp at v;lia,by lia,w⟩
      ·rw[show M=0 by lia] at w;exact F _ _ s ⟨S,n,by simp at e;lia,by lia,w⟩
     rintro out f s ⟨S,m,l,G,w⟩;have n:=m.a1 (by lia) w;exact kG (x:=q[d]) (by simp) (hU (λe=>gv (.inl ⟨_,_,rfl,S,last n (by simpa using e)⟩)) λe=>hU (λ_=>gv (.inr ⟨_,_,_,_,_,_,rfl,S,n,by simp at e;lia,l,by lia⟩)) λ_=>gv ⟨_,_,_,_,_,_,rfl,S,n,by simp at e;lia,l,by lia⟩)
    ·rintro c s ⟨out,d,f,B,p,u,rfl,S,m,E,l,G⟩;exfalso;lia
    ·rintro c s (⟨out,t,rfl,hs⟩|⟨out,d,f,B,p,u,rfl,S,J⟩)
     ·exact gv ⟨out,_,rfl,hs⟩
     ·exact Bw S λs S=>gv ⟨_,_,_,_,rfl,S,J⟩
 ·rintro c s ⟨out,d,f,B,rfl,S,m,E,l,G⟩;exfalso;lia
 ·rintro c s ⟨out,t,rfl,S,m⟩;exact gv (h _ _ S m)
end
section
variable {X:Cs}{f:Type}{Q:f->SortSt->Prop}{st:pV}{d:Array (Nat×Nat×Nat)}{q r L Z a b o k:iI}{i j x y n:Nat}{out:zU}
theorem ss1(n:Nat):n+1-1=n:=rfl
abbrev Cs.ge(X:Cs)(i j:Nat):Prop:=X.le j i
theorem Mg.h1(m:Mg X X.ge Z (q.take (n+1)).reverse b out)(c:n<q.length)(h: ∀y∈b,X.le y q[n]):Mg X X.ge Z (q.take n).reverse b (out.push (X.it q[n])):=m.put (k:=[q[n]]) (by rw[Eh];simp[c]) (by simpa using h) (by simp[ar])
theorem Mg.hk(m:Mg X X.ge Z (q.take n).reverse b out)(c:i<=n)(h: ∀x∈(q.take n).drop i,∀y∈b,X.le y x):Mg X X.ge Z (q.take i).reverse b (out++((ar X q).extract i n).reverse):=m.put (k:=((q.take n).drop i).reverse) (by rw[<-List.reverse_append,<-xq c,<-List.take_take,xq c,xt]) (by simpa using h) (by simp[ar,List.extract_eq_drop_take'])
def Mg.finH(m:Mg X X.ge Z (q.take i).reverse (r.take j).reverse out)(h: ∀x∈q.take i,∀y∈r.take j,X.le x y):Rs X Z ((ar X q).extract 0 i++(ar X r).extract 0 j++out.reverse):=by
 obtain⟨o,e,m⟩:=(m.sw.put (k:=(r.take j).reverse) (a':=[]) (by simp) (by simpa using λx c y g=>h y g x c) rfl).sw.put (k:=(q.take i).reverse) (a':=[]) (by simp) (by simp) rfl;refine⟨o.reverse,?_,ET.mpr m.s,(xv o).trans (by simpa using m.p)⟩;have:=lP Array.reverse e;simpa[ar,A4] using this
def Mg.endH(m:Mg X X.ge Z (q.take i).reverse (r.take j).reverse out)(h:i=0\/j=0):Rs X Z ((ar X q).extract 0 i++(ar X r).extract 0 j++out.reverse):=m.finH λx c y e=>by
 rcases h with rfl|rfl
 ·cases c
 ·cases e
def Mg.hdH(m:Mg X X.ge Z (q.take (n+1)).reverse b out)(e:n<q.length)(h:X.le q[n] x): ∀y∈(q.take (n+1)).reverse,X.le y x:=λy c=>by
 obtain⟨o,_,m⟩:=m;have:=m.ua;rw[show(q.take (n+1)).reverse=q[n]::(q.take n).reverse by rw[Eh];simp[e]] at this c;rcases jM.mp c with rfl|c
 ·exact h
 ·exact X.tr ((Gn.mp this).1 y c) h
def Tj{Q:Array Keyed->SortSt->Prop}(S:Rp X d L st)(u1:q.Pairwise X.le)(u2:r.Pairwise X.le)(hq: ∀z∈q,z<X.N)(hr: ∀z∈r,z<X.N)(h1:0<q.length)(h2:0<r.length)(hd: ∀y∈q,X.le r[0] y)(top: ∀x∈r,X.le x q[q.length-1])
  (h: ∀out s,Rp X d L s->Rs X (q++r) out->Q out s):wp X (Lw (ar X q) (ar X r)) Q st:=by
 have sq:(ar X q).size=q.length:=by simp
 have sr:(ar X r).size=r.length:=by simp
 have K:Mg X X.ge (q++r) (q.take (q.length-1)).reverse (r.take r.length).reverse #[X.it q[q.length-1]]:=Mg.h1 (out:= #[]) ⟨[],rfl,.nil,by simp,by simpa[Nat.sub_add_cancel h1] using(xv q).append (xv r),by simpa[Nat.sub_add_cancel h1,ET] using u1,by simpa[ET] using u2⟩ (by lia) (by simpa using top)
 have last: ∀{out i},Mg X X.ge (q++r) (q.take i).reverse (r.take 1).reverse out->Rs X (q++r) ((ar X r).extract 0 1++(ar X q).extract 0 i++out.reverse):=λm=>m.sw.finH λx Y y U=>by
  obtain⟨b,r,rfl⟩:=vM h2;simp at Y;subst Y;exact hd y (AZ U)
 refine qz (kG (x:=q[q.length-1]) (by simp[h1]) ?_);rw[sq,sr];refine hU (λe=>gv (h _ _ S (K.endH (.inl (by simpa using e))))) λe=>hU (λE=>gv (h _ _ S ?_)) λE=>nj ?_
 ·have E:r.length=1:=by simpa using E
  rw[E] at K ⊢;exact last K
 let I:=λ(c:Nat) out l u s=>Rp X d L s/\Mg X X.ge (q++r) (q.take l).reverse (r.take u).reverse out/\0<l/\l<=q.length/\1<u/\u<=r.length/\c+l+u<=q.length+r.length
 refine kU (λi c s=> ∃l u out C,c=(none,l,u,out,C)/\I (i+1) out l u s) (λc s=> ∃out t,c=(some out,t)/\Rp X d L s/\Rs X (q++r) out) ⟨_,_,_,_,rfl,S,K,by simp at e;lia,by lia,by simp at E;lia,by lia,by lia⟩ ?_ ?_ ?_
 ·rintro i c s _ ⟨l,u,out,C,rfl,i0⟩;refine kU (λj c s=> ∃l u out w B,c=(none,l,u,out,w,B)/\I (i+1+j) out l u s) (λc s=>(∃out t,c=(some out,t)/\Rp X d L s/\Rs X (q++r) out)\/ ∃l u out w B,c=(none,l,u,out,w,B)/\I (i+1) out l u s) ⟨_,_,_,_,_,rfl,i0⟩ ?_ ?_ ?_
  ·rintro j c s _ ⟨l,u,out,w,B,rfl,S,m,J,M,G,b4,b5⟩;obtain⟨n,rfl⟩: ∃n,l=n+1:=⟨l-1,by lia⟩
   obtain⟨p,rfl⟩: ∃n,u=n+1:=⟨u-1,by lia⟩
   dsimp only[ss1];refine kG (x:=r[p]) (by simp) (kG (x:=q[n]) (by simp) (CJ S.k (hr _ (by simp)) (hq _ (by simp)) λb e=>?_))
   cases b with
   |true=>
    have v:=m.h1 (by lia) (m.sw.hdH (by lia) (X.as _ _ e));exact kG (x:=q[n]) (by simp) (hU (λe=>gv (.inl ⟨_,_,rfl,S,v.endH (.inl (by simpa using e))⟩)) λe=>hU (λ_=>gv (.inr ⟨_,_,_,_,_,rfl,S,v,by simp at e;lia,by lia,G,b4,by lia⟩)) λ_=>gv ⟨_,_,_,_,_,rfl,S,v,by simp at e;lia,by lia,G,b4,by lia⟩)
   |false=>
    have v:=(m.sw.h1 (by lia) (m.hdH (by lia) e)).sw;refine kG (x:=r[p]) (by simp) (hU (λe=>?_) λe=>hU (λ_=>gv (.inr ⟨_,_,_,_,_,rfl,S,v,J,M,by simp at e;lia,by lia,by lia⟩)) λ_=>gv ⟨_,_,_,_,_,rfl,S,v,J,M,by simp at e;lia,by lia,by lia⟩);obtain rfl:p=1:=by simpa using e
    exact gv (.inl ⟨_,_,rfl,S,last v⟩)
  ·rintro c s ⟨l,u,out,w,B,rfl,S,m,J,M,G,b4,b5⟩;exfalso;lia
  ·rintro c s (⟨out,t,rfl,hs⟩|⟨l,u,out,w,B,rfl,i0⟩)
   ·exact gv ⟨out,_,rfl,hs⟩
   ·refine qz (kU (λj c s=> ∃l u out C w B,c=(none,l,u,out,C,w,B)/\I (i+1+j) out l u s) (λc s=>(∃out t,c=(some out,t)/\Rp X d L s/\Rs X (q++r) out)\/ ∃l u out C w B,c=(none,l,u,out,C,w,B)/\I (i+2) out l u s) ⟨_,_,_,_,_,_,rfl,i0⟩ ?_ ?_ ?_)
    ·rintro j c s _ ⟨l,u,out,C,w,B,rfl,S,m,J,M,G,b4,b5⟩;obtain⟨p,rfl⟩: ∃n,u=n+1:=⟨u-1,by lia⟩
     dsimp only[ss1];apply JL λ_ s=>Rp X d L s
     ·intro F;refine hU (λ_=>?_) λ_=>?_
      ·generalize C-1=g;exact F g s S
      ·exact F C s S
     intro g s S;refine Bw S λs S=>kG (x:=r[p]) (by simp) (jb (vd (T:=[]) (A:=q.take l) (R:=q.drop l) S.k (λz V=>hq z (AZ V)) (hr _ (by simp)) (u1.sublist (xP _ _)) (by simp) rfl (by simp;lia) (by lia) λk hk W t2=>?_));dsimp only;apply Gu λout l s=>Rp X d L s/\Mg X X.ge (q++r) (q.take l).reverse (r.take (p+1)).reverse out/\0<l/\l<=q.length/\i+1+j+l+p<q.length+r.length/\ ∀y∈q.take l,X.le y r[p]
     ·intro F;have mk:=m.hk hk λx Y y U=>m.sw.hdH (x:=x) (by lia) (X.as _ _ (by simpa using t2 x Y)) y U;have O: ∀y∈q.take k,X.le y r[p]:=λy U=>by simpa using W y (by rwa [List.take_take,xq hk])
      refine hU (λe=>?_) λe=>?_
      ·refine hU (λH=>gv (.inl ⟨_,_,rfl,S,mk.endH (.inl (by simpa using H))⟩)) λH=>?_;generalize out++((ar X q).extract k l).reverse=out at mk ⊢;generalize ea:k=ic at mk O H ⊢;exact F out ic s ⟨S,mk,by simp at H;lia,by lia,by lia,O⟩
      ·obtain rfl:k=l:=by lia
       exact F out _ s ⟨S,m,J,M,by lia,O⟩
     rintro out na' s ⟨S,m,J,M,b5,O⟩;have v:=(m.sw.h1 (by lia) (by simpa using O)).sw;obtain⟨n,rfl⟩: ∃n,na'=n+1:=⟨na'-1,by lia⟩
     dsimp only[ss1];refine kG (x:=r[p]) (by simp) (hU (λe=>?_) λe=>kG (x:=q[n]) (by simp) (jb (vd (T:=[]) (A:=r.take p) (R:=r.drop p) S.k (λz V=>hr z (AZ V)) (hq _ (by simp)) (u2.sublist (xP _ _)) (by simp) rfl (by simp;lia) (by lia) λD bI W t2=>?_)))
     ·obtain rfl:p=1:=by simpa using e
      exact gv (.inl ⟨_,_,rfl,S,last v⟩)
     dsimp only;apply Gu λout u s=>Rp X d L s/\Mg X X.ge (q++r) (q.take (n+1)).reverse (r.take u).reverse out/\1<u/\u<=r.length/\i+1+j+(n+1)+u<q.length+r.length/\ ∀y∈r.take u,X.le y q[n]
     ·intro F;have mk:=(v.sw.hk bI λx Y y U=>v.hdH (x:=x) (by lia) (t2 x Y) y U).sw;have P: ∀y∈r.take D,X.le y q[n]:=λy U=>X.as _ _ (W y (by rwa [List.take_take,xq bI]));refine hU (λ_=>?_) λe3=>?_
      ·refine hU (λH=>?_) λH=>hU (λE=>gv (.inl ⟨_,_,rfl,S,mk.endH (.inr (by simpa using E))⟩)) λE=>?_
       ·obtain rfl:D=1:=by simpa using H
        exact gv (.inl ⟨_,_,rfl,S,last mk⟩)
       generalize out.push (X.it r[p])++((ar X r).extract D p).reverse=out at mk ⊢;generalize ea:D=ic at mk P H E ⊢;exact F out ic s ⟨S,mk,by simp at H E;lia,by lia,by lia,P⟩
      ·obtain rfl:D=p:=by lia
       exact F _ _ s ⟨S,v,by simp at e;lia,by lia,b5,P⟩
     rintro out u s ⟨S,m,G,b4,b5,O⟩;have v:=m.h1 (by lia) (by simpa using O);exact kG (x:=q[n]) (by simp) (hU (λe=>gv (.inl ⟨_,_,rfl,S,v.endH (.inl (by simpa using e))⟩)) λe=>hU (λ_=>gv (.inr ⟨_,_,_,_,_,_,rfl,S,v,by simp at e;lia,by lia,G,b4,by lia⟩)) λ_=>gv ⟨_,_,_,_,_,_,rfl,S,v,by simp at e;lia,by lia,G,b4,by lia⟩)
    ·rintro c s ⟨l,u,out,C,w,B,rfl,S,m,J,M,G,b4,b5⟩;exfalso;lia
    ·rintro c s (⟨out,t,rfl,hs⟩|⟨l,u,out,C,w,B,rfl,S,i0⟩)
     ·exact gv ⟨out,_,rfl,hs⟩
     ·exact Bw S λs S=>gv ⟨_,_,_,_,rfl,S,i0⟩
 ·rintro c s ⟨l,u,out,C,rfl,S,m,J,M,G,b4,b5⟩;exfalso;lia
 ·rintro c s ⟨out,t,rfl,S,m⟩;exact gv (h _ _ S m)
end
section
variable {X:Cs}{t:Type}{Q:t->SortSt->Prop}{st:pV}{d:Array (Nat×Nat×Nat)}{T A B R L:iI}{i j x y n s:Nat}{o C:List (List Nat)}{r w:List (Nat×Nat×Nat)}
theorem DN{c:Type}: ∀(m K T R:List c) (j a:Nat),a+j=T.length->K.length=m.length->(m.zipIdx j).foldl (λ(x:Array c) (p:c×Nat)=>x.setIfInBounds (a+p.2) p.1) (T++(K++R)).toArray=(T++(m++R)).toArray
 |[],K,T,R,j,a,h,b=>by rw[xu b];rfl
 |y::m,K,T,R,j,a,h,b=>by
  obtain⟨k,K,rfl⟩:=vM (l:=K) (by simp[b]);rw[List.zipIdx_cons,xH];have:=DN m K (T++[y]) R (j+1) a (by simp;lia) (by simpa using b);simpa[h] using this
def Rn(X:Cs):Nat->List (List Nat)->List (Nat×Nat×Nat)->Prop
 |_,[],[]=>True
 |s,A::o,p::r=>p.1=s/\p.2.1=A.length/\A≠[]/\A.Pairwise X.le/\Rn X (s+A.length) o r
 |_,_,_=>False
theorem Rn.cut: ∀{r:List (Nat×Nat×Nat)} {s:Nat} {o:List (List Nat)},Rn X s o (r++w)-> ∃a L2,o=a++L2/\Rn X (s+a.flatten.length) L2 w/\ ∀M q,Rn X (s+a.flatten.length) M q->Rn X s (a++M) (r++q)
 |[],s,o,h=>⟨[],o,rfl,h,λ_ _ h=>h⟩
 |p::r,s,[],h=>h.elim
 |p::r,s,A::o,h=>by
  obtain⟨h1,b,c,f,g⟩:=h;obtain⟨a,L2,rfl,k,l⟩:=Rn.cut g;have e:s+(A::a).flatten.length=s+A.length+a.flatten.length:=by simp;lia
  exact⟨A::a,L2,rfl,e▸k,λM q h=>⟨h1,b,c,f,l M q (e▸h)⟩⟩
def P0{s:pV}{f:PUnit->StateT SortSt Sem t}(h:wp X (f ⟨⟩) Q s):wp X (set s>>=f) Q st:=jb λ_ g=>by rw[StateT.run_set];exact gE ⟨g,h⟩
def upA(u:A.Pairwise X.le)(v:B.Pairwise X.le)(h: ∀a∈A,∀b∈B,X.le a b):(A++B).Pairwise X.le:=uF.mpr ⟨u,v,h⟩
theorem PJ(a:L=T++(A++R))(b:i=T.length)(c:j=T.length+A.length):(ar X L).extract i j=ar X A:=by
 subst a b c;simp[ar,A4]
def OO{Q:Bool->SortSt->Prop}(S:Rp X d (o.flatten++R) st)(hr:Rn X 0 o d.toList)(hi:i+1<d.size)(h: ∀g0 bO gf,Rp X bO (gf.flatten++R) g0->Rn X 0 gf bO.toList->bO.size+1=d.size->gf.flatten.length=o.flatten.length->Q true g0):wp X (mergeAt' i) Q st:=by
 obtain⟨d⟩:=d
 obtain⟨G,⟨D,F,P⟩,⟨sb,K,dD⟩,Y,rfl,rfl⟩: ∃G x y Y,d=G++x::y::Y/\G.length=i:=by
  have hi:i+1<d.length:=hi;exact⟨d.take i,d[i],d[i+1],d.drop (i+2),by simp,by simp;lia⟩
 obtain⟨L1,L2,rfl,h2,h3⟩:=Rn.cut hr
 obtain⟨A,B,L2,rfl⟩: ∃A B L,L2=A::B::L:=by
  match L2,h2 with
  |A::B::L,_=>exact⟨A,B,L,rfl⟩
  |[A],h=>exact h.2.2.2.2.elim
  |[],h=>exact h.elim
 obtain⟨I,ax,a1,V,hb,dg,b1,W,h4⟩:=h2;dsimp only at I ax hb dg;obtain⟨κ',a',p',g,f'⟩:=st;have e1:a'=_:=S.a;have e2:p'=_:=S.q;subst e1 e2;rw[show(L1++A::B::L2).flatten++R=L1.flatten++(A++(B++(L2.flatten++R))) by simp] at S ⊢
 have fin: ∀g0 M,Rp X (G++(D,F+K,P)::Y).toArray (L1.flatten++(M++(L2.flatten++R))) g0->M.Perm (A++B)->M.Pairwise X.le->Q true g0:=λg0 M U em u=>by
  have em:=em.length_eq;rw[pO,<-ax,<-dg] at em;refine h _ (G++(D,F+K,P)::Y).toArray (L1++M::L2) (by simpa using U) (h3 _ _ ⟨I,em.symm,λe=>a1 ?_,u,by rwa [em,ax,dg,<-Nat.add_assoc]⟩) (by simp;lia) (by simp;lia);exact xu (by rw[e] at em;simp at em;lia)
 have ep: ∀z,((G++(D,F,P)::(sb,K,dD)::Y).toArray.setIfInBounds G.length z).eraseIdxIfInBounds (G.length+1)=(G++z::Y).toArray:=λz=>by simp[List.set_append,List.eraseIdx_append];intro;lia
 clear h h3 h4 hr;generalize L1.flatten=T at*;generalize L2.flatten++R=R at*;have hN: ∀z,z∈A\/z∈B->z<X.N:=λz l=>by simpa using S.p.mem_iff.mp (ot _ (by rcases l with h|h<;>simp[h]))
 obtain⟨y,B',eB⟩:=List.exists_cons_of_ne_nil b1
 have hy: ∀z∈B,X.le y z:=λz l=>by
  rw[eB] at W l;rcases jM.mp l with rfl|l
  ·exact X.rf _
  ·exact(Gn.mp W).1 z l
 refine nj ?_;dsimp only;rw[show(G++(D,F,P)::(sb,K,dD)::Y).toArray[G.length]?=some (D,F,P) by simp,show(G++(D,F,P)::(sb,K,dD)::Y).toArray[G.length+1]?=some (sb,K,dD) by simp];dsimp only;rw[ep];refine P0 (kG (x:=y) (by rw[eB];exact ix0 (by lia)) (jb (vd S.k (λz h=>hN z (.inl h)) (hN y (.inr (by simp[eB]))) V rfl (by lia) ax.symm (by have:=ME.mpr a1;lia) λk hk t1 t2=>?_)));have S2:Rp X (G++(D,F+K,P)::Y).toArray (T++(A++(B++R))) (SortSt.mk' κ' (ar X (T++(A++(B++R)))) (G++(D,F+K,P)::Y).toArray g f'):=⟨rfl,S.k,S.f,rfl,S.p⟩
 have done:(∀a∈A,X.le a y)->Q true (SortSt.mk' κ' (ar X (T++(A++(B++R)))) (G++(D,F+K,P)::Y).toArray g f'):=λz=>fin _ (A++B) (by simpa using S2) (.refl _) (upA V W λa I b hb=>X.tr (z a I) (hy b hb));rw[ax] at hk;obtain⟨v,E,rfl,rfl⟩: ∃v E,A=v++E/\v.length=k:=⟨A.take k,A.drop k,by simp,by simp;lia⟩
 have t1: ∀z∈v,X.le z y:=λz l=>by simpa using t1 z (by simpa using l)
 have t2: ∀z∈E,X.le y z:=λz l=>X.as _ _ (by simpa using t2 z (by simpa using l));rw[pO] at ax hb;dsimp only;rcases Jj E with e|⟨A3,x,e⟩
 ·subst e;rw[gF (by simp[ax])];exact gv (done (by simpa using t1))
 rw[Ji] at e;have l1:0<E.length:=by simp[e]
 rw[hJ (by simp;lia)];refine kG (x:=x) (by rw[e,show T++(v++(A3++[x])++(B++R))=T++((v++A3)++x::(B++R)) by simp];exact ix0 (by have:=lP List.length e;simp at this ⊢;lia)) (jb (vd (T:=T++(v++E)) (R:=R) S.k (λz h=>hN z (.inr h)) (hN x (.inl (by simp[e]))) W (by rw[<-pN]) (by simp;lia) dg.symm (by have:=ME.mpr b1;lia) λk2 bI t3 t4=>?_));rw[dg] at bI;obtain⟨H,O,rfl,rfl⟩: ∃H O,B=H++O/\H.length=k2:=⟨B.take k2,B.drop k2,by simp,by simp;lia⟩
 have v3: ∀z∈H,X.le z x:=λz l=>X.as _ _ (by simpa using t3 z (by simpa using l));have v4: ∀z∈O,X.le x z:=λz l=>by simpa using t4 z (by simpa using l)
 have lx: ∀a∈v++E,X.le a x:=by
  rw[e,<-pN] at V ⊢;exact Dy X.tr V (X.rf x)
 cases H with
 |nil=>exact gv (done λa I=>X.tr (lx a I) (v4 y (by simp[show O=y::B' from eB])))
 |cons b H=>
  obtain rfl:b=y:=(uK eB).1;refine hU (λc=>by simp at c) λ_=>?_;rw[PJ (A:=E) (T:=T++v) (R:=b::H++O++R) (by simp) (by simp;lia) (by simp;lia),PJ (A:=b::H) (T:=T++(v++E)) (R:=O++R) (by simp) (by simp;lia) (by simp;lia)]
  have Z: ∀J s,Rp X (G++(D,F+K,P)::Y).toArray (T++(v++E++(b::H++O++R))) s->Rs X (E++b::H) J->Q (failedOf s).isNone (setArr s (J.toList.zipIdx.foldl (λa x=>a.setIfInBounds (D+v.length+x.2) x.1) (arrOf s))):=λJ s U ho=>by
   obtain⟨M,rfl,u,hp⟩:=ho;rw[U.f,U.a];refine fin _ (v++(M++O)) ⟨?_,U.k,U.f,U.q,List.Perm.trans ?_ U.p⟩ ?_ ?_
   ·have:=DN (M.map X.it) ((E++b::H).map X.it) ((T++v).map X.it) ((O++R).map X.it) 0 (D+v.length) (by simp;lia) (by simpa using hp.length_eq.symm);simpa[ar] using this
   ·simpa using(((hp.append_right (O++R)).append_left v).append_left T)
   ·simpa using((hp.append_right O).append_left v)
   ·rw[uF] at V W;refine upA V.1 (upA u W.2.1 λa I c m=>?_) λa I c m=>?_
    ·rcases rK.mp (hp.mem_iff.mp I) with I|I
     ·exact X.tr (lx a (by simp[I])) (v4 c m)
     ·exact W.2.2 a I c m
    ·have m:c∈E\/c∈b::H++O:=by
      rcases rK.mp m with m|m
      ·rcases rK.mp (hp.mem_iff.mp m) with m|m
       ·exact .inl m
       ·exact .inr (Bs _ m)
      ·exact .inr (ot _ m)
     rcases m with m|m
     ·exact V.2.2 a I c m
     ·exact X.tr (t1 a I) (hy c m)
  have hd: ∀z∈E,X.le (b::H)[0] z:=t2;have top: ∀z∈b::H,X.le z E[E.length-1]:=λz l=>by subst e;simpa using v3 z l
  have l2:0<(b::H).length:=by simp
  have h3: ∀z∈E,z<X.N:=λz l=>hN z (.inl (by simp[l]));have h4: ∀z∈b::H,z<X.N:=λz l=>hN z (.inr (Bs _ l));have u1:=(uF.mp V).2.1;have u2:=(uF.mp W).1;exact hU (λc=>jb (Th S2 u1 u2 h3 h4 l1 l2 hd top λJ s U ho=>sf (nj (gv (Z J s U ho))))) λc=>jb (Tj S2 u1 u2 h3 h4 l1 l2 hd top λJ s U ho=>sf (nj (gv (Z J s U ho))))
end
section
variable {X:Cs}{st:pV}{b:Array (Nat×Nat×Nat)}{A L:iI}
theorem Rn.mod{w:Nat}: ∀{c:List (Nat×Nat×Nat)} {s:Nat} {a:List (List Nat)} (i:Nat),Rn X s a c->Rn X s a (c.modify i λx=>(x.1,x.2.1,w))
 |[],s,a,i,h=>by cases i<;>exact h
 |p::c,s,[],i,h=>h.elim
 |p::c,s,A::a,0,h=>h
 |p::c,s,A::a,i+1,h=>⟨h.1,h.2.1,h.2.2.1,h.2.2.2.1,Rn.mod i h.2.2.2.2⟩
theorem Rn.le: ∀{c:List (Nat×Nat×Nat)} {s:Nat} {a:List (List Nat)},Rn X s a c->c.length<=a.flatten.length
 |[],s,a,h=>mF _
 |p::c,s,[],h=>h.elim
 |p::c,s,A::a,h=>by
  have:=Rn.le h.2.2.2.2;have:=ME.mpr h.2.2.1;simp at*;omega
theorem Rn.push{A:iI}{w:Nat}: ∀{d:List (Nat×Nat×Nat)} {s:Nat} {c:List (List Nat)},Rn X s c d->A≠[]->A.Pairwise X.le->Rn X s (c++[A]) (d++[(s+c.flatten.length,A.length,w)])
 |[],s,[],h,a,u=>⟨rfl,rfl,a,u,trivial⟩
 |[],s,A::c,h,a,u=>h.elim
 |p::d,s,[],h,a,u=>h.elim
 |p::d,s,B::c,h,a,u=>⟨h.1,h.2.1,h.2.2.1,h.2.2.2.1,by simpa[Nat.add_assoc] using Rn.push (w:=w) h.2.2.2.2 a u⟩
def MK{Q:Unit->SortSt->Prop}(S:Rp X #[] L st)(h: ∀E b L,Rp X b L E->L.Pairwise X.le->Q () E):wp X sortRuns' Q st:=by
 have H:(arrOf st).size=X.N:=by rw[S.a];simpa using S.p.length_eq
 have y: ∀{b L st},Rp X b L st->L.length=X.N:=λS=>by simpa using S.p.length_eq
 rw[sortRuns'_eq];refine nj ?_;rw[H];dsimp only;refine kU (λi c s=> ∃b,∃g:List (List Nat),∃R,c=(none,g.flatten.length)/\Rp X b (g.flatten++R) s/\Rn X 0 g b.toList/\i<=g.flatten.length) (λc s=>c.1=none/\ ∃b g,Rp X b g.flatten s/\Rn X 0 g b.toList) ⟨#[],[],L,rfl,S,trivial,mF _⟩ ?_ ?_ ?_
 ·rintro i c s t ⟨b,g,R,rfl,S,d,o⟩;have r:=y S;dsimp only;refine hU (λe=>?_) λe=>?_
  ·obtain rfl:R=[]:=xu (by simp at r e;omega);exact gv ⟨rfl,b,g,by simpa using S,d⟩
  obtain⟨x,R,rfl⟩:=vM (l:=R) (by simp at r e;omega);refine jb (JM S rfl (by simp at r ⊢;omega) λA R s S a1 u T=>?_);apply JL λn s=> ∃A R,n=A.length/\Rp X b (g.flatten++(A++R)) s/\A≠[]/\A.Pairwise X.le
  ·intro F;have J:=ME.mpr a1;refine hU (λe=>?_) λe=>?_
   ·refine qz (jb (P5 S rfl rfl J (by simp at r;omega) (by omega) u λA R s S o u=>hU (λc=>by simp at c) λ_=>?_));generalize O:min (X.N-g.flatten.length) (minRun' X.N X.N 0)=n at o ⊢;exact F n s ⟨A,R,o.symm,S,by intro z;subst z;simp at o e;omega,u⟩
   ·exact F A.length s ⟨A,R,rfl,S,a1,u⟩
  rintro _ s ⟨A,R,rfl,S,a1,u⟩;refine nj ?_;apply OP λs=> ∃b m,Rp X b (m.flatten++(A++R)) s/\Rn X 0 m b.toList/\m.flatten.length=g.flatten.length
  ·intro F;rw[S.q]
   cases b.back? with
   |none=>exact F s ⟨b,g,S,d,rfl⟩
   |some z=>
    refine kU (λ_ c s=>c=(none,())/\ ∃b m,Rp X b (m.flatten++(A++R)) s/\Rn X 0 m b.toList/\m.flatten.length=g.flatten.length) (λc s=>c=(none,())/\ ∃b m,Rp X b (m.flatten++(A++R)) s/\Rn X 0 m b.toList/\m.flatten.length=g.flatten.length) ⟨rfl,b,g,S,d,rfl⟩ ?_ (λ_ _ h=>h) ?_
    ·rintro j c s _ ⟨rfl,b,m,S,d,o⟩;refine nj ?_;rw[S.q]
     cases G:(if b.size>1 then b[b.size-2]? else none) with
     |none=>exact gv ⟨rfl,b,m,S,d,o⟩
     |some z=>
      refine hU (λ_=>gv ⟨rfl,b,m,S,d,o⟩) λ_=>jb (OO S d ?_ λs v w S d _ I=>hU (λc=>by simp at c) λ_=>gv ⟨rfl,v,w,S,d,I.trans o⟩);split at G
      ·omega
      ·cases G
    ·rintro c s ⟨rfl,b,m,S,d,o⟩;exact sf (F _ ⟨_,m,⟨S.a,S.k,S.f,rfl,S.p⟩,by rw[S.q,Array.toList_modify];exact d.mod _,o⟩)
  ·rintro s ⟨b,m,S,d,o⟩;refine sf (gv ⟨_,m++[A],R,?_,⟨by simpa using S.a,S.k,S.f,rfl,by simpa using S.p⟩,?_,?_⟩)
   ·rw[List.flatten_append,pO,o];simp
   ·rw[S.q,Array.toList_push,<-o,<-vN m.flatten.length];exact d.push a1 u
   ·have:=ME.mpr a1;simp at*;omega
 ·rintro c s ⟨b,g,R,rfl,S,d,o⟩;have r:=y S;obtain rfl:R=[]:=xu (by simp at r o;omega);exact⟨rfl,b,g,by simpa using S,d⟩
 ·rintro⟨_,c⟩ s ⟨rfl,b,g,S,d⟩;have r:=y S;have M:=d.le;refine kU (λi c s=>c=(none,())/\ ∃b g,Rp X b g.flatten s/\Rn X 0 g b.toList/\(b.size<=1\/b.size+i<=X.N)) (λc s=>c=(none,())/\ ∃b g,Rp X b g.flatten s/\Rn X 0 g b.toList/\b.size<=1) ⟨rfl,b,g,S,d,.inr (by rw[ni] at M;omega)⟩ ?_ ?_ ?_
  ·rintro i c s _ ⟨rfl,b,g,S,d,t⟩;refine nj ?_;rw[S.q];refine hU (λe=>gv ⟨rfl,b,g,S,d,e⟩) λe=>jb (OO (R:=[]) (by simpa using S) d ((λc:Bool=>show(if c=true then b.size-2-1 else b.size-2)+1<b.size by split<;>omega) _) λs v w S d H _=>hU (λc=>by simp at c) λ_=>gv ⟨rfl,v,w,by simpa using S,d,.inr (by omega)⟩)
  ·rintro c s ⟨rfl,b,g,S,d,t⟩;exact⟨rfl,b,g,S,d,by omega⟩
  ·rintro c s ⟨rfl,b,g,S,d,t⟩;refine gv (h s b _ S ?_);obtain⟨C⟩:=b
   match C,g,d,t with
   |[],[],_,_=>exact .nil
   |[p],[A],d,_=>simpa using d.2.2.2.1
   |p::[],A::B::g,d,_=>exact d.2.2.2.2.elim
   |[],A::g,d,_=>exact d.elim
   |p::C,[],d,_=>exact d.elim
   |p::U::C,g,d,t=>simp at t
end
end TS
namespace PX
open PySem PySem.Spec PyProof.Rows L2 PySem.SeqAt
open PySem.AutoSeq1 (wpAny_loadPart')
open PySem.MeetsSeq PySem.MeetsSeq2 PySem.MeetsSeq3
noncomputable def jF(op:CmpOp)(i j:Int):Bool:=match op with
 | .Lt=>decide (i<j)| .LtE=>decide (i<=j)| .Gt=>decide (i>j)|_=>decide (i>=j)
def uh(op:CmpOp):Prop:=op= .Lt\/op= .LtE\/op= .Gt\/op= .GtE
def OI(op:CmpOp)(A:gR)(s:gu)(y x:gz)(b:Bool):Prop:= ∀(a:gS) (w:gO) (E:hZ) (Q:hZ),Q (.bool b) s->wpAny (model a w) A (richCompare op y x) Q E s
def zq(op:CmpOp)(A:gR)(s:gu)(fin:Bool):List (Value×Value)->Bool->Prop
 |[],r=>r=fin
 |(y,x)::iu,r=> ∃e,EqAt A s y x e/\(if e=true then zq op A s fin iu r else OI op A s y x r)
def JU(l b:gm)(a i:lA)(n v:Nat)(dd B:Option Addr)(C z:pW)(r:Bool):
  Meets (Builtin.«tuple.__lt__» ⟨[.ref l,.ref b],[]⟩) (λA R s=>s.heap.get? l=some {cls:= .type "tuple",dict:=dd,data:= .seq a n,slots:=C}/\s.heap.get? b=some {cls:= .type "tuple",dict:=B,data:= .seq i v,slots:=z}/\
   zq .Lt A.in1 s (jF .Lt a.size i.size) (a.toList.zip i.toList) r/\R (.ok (.ret (.bool r))) s):=
 .of_wp λf w A R s h=>by
  obtain⟨m,g,d,o,os⟩:=s;obtain⟨u,q,c,h⟩:=h;have f2:=AY
  wp_walk using wpAny_loadPart' u,wpAny_loadPart' q,AX _ (λiu b k=>b.1=none/\k=⟨m,g,d,o,os⟩/\zq .Lt A.in1 ⟨m,g,d,o,os⟩ (jF .Lt a.size i.size) iu r) _
  case turn=>
   rintro⟨y,x⟩ iu b k ⟨j,rfl,e,t,c⟩;refine gq (t f w _ _ ?_)
   cases e with
   |true=>
    simp only[ja] at c
    wp_walk
    exact⟨rfl,rfl,c⟩
   |false=>
    simp only[jY,jl] at c;have p:=c f w
    wp_walk using p
    exact⟨_,rfl,by simpa using h⟩
  case fin=>
   rintro⟨E,G⟩ k ⟨j,rfl,c⟩;simp only at j;subst j;have c:r=jF .Lt a.size i.size:=c;rw[c] at h
   wp_walk
   exact⟨_,rfl,by simpa[Builtin.Tuple.tupleCompareSizes,jF] using h⟩
  case h=>exact⟨rfl,rfl,c⟩
def JV(l b:gm)(a i:lA)(n v:Nat)(dd B:Option Addr)(C z:pW)(r:Bool):
  Meets (Builtin.«tuple.__le__» ⟨[.ref l,.ref b],[]⟩) (λA R s=>s.heap.get? l=some {cls:= .type "tuple",dict:=dd,data:= .seq a n,slots:=C}/\s.heap.get? b=some {cls:= .type "tuple",dict:=B,data:= .seq i v,slots:=z}/\
   zq .LtE A.in1 s (jF .LtE a.size i.size) (a.toList.zip i.toList) r/\R (.ok (.ret (.bool r))) s):=
 .of_wp λf w A R s h=>by
  obtain⟨m,g,d,o,os⟩:=s;obtain⟨u,q,c,h⟩:=h;have f2:=AY
  wp_walk using wpAny_loadPart' u,wpAny_loadPart' q,AX _ (λiu b k=>b.1=none/\k=⟨m,g,d,o,os⟩/\zq .LtE A.in1 ⟨m,g,d,o,os⟩ (jF .LtE a.size i.size) iu r) _
  case turn=>
   rintro⟨y,x⟩ iu b k ⟨j,rfl,e,t,c⟩;refine gq (t f w _ _ ?_)
   cases e with
   |true=>
    simp only[ja] at c
    wp_walk
    exact⟨rfl,rfl,c⟩
   |false=>
    simp only[jY,jl] at c;have p:=c f w
    wp_walk using p
    exact⟨_,rfl,by simpa using h⟩
  case fin=>
   rintro⟨E,G⟩ k ⟨j,rfl,c⟩;simp only at j;subst j;have c:r=jF .LtE a.size i.size:=c;rw[c] at h
   wp_walk
   exact⟨_,rfl,by simpa[Builtin.Tuple.tupleCompareSizes,jF] using h⟩
  case h=>exact⟨rfl,rfl,c⟩
def JW(l b:gm)(a i:lA)(n v:Nat)(dd B:Option Addr)(C z:pW)(r:Bool):
  Meets (Builtin.«tuple.__gt__» ⟨[.ref l,.ref b],[]⟩) (λA R s=>s.heap.get? l=some {cls:= .type "tuple",dict:=dd,data:= .seq a n,slots:=C}/\s.heap.get? b=some {cls:= .type "tuple",dict:=B,data:= .seq i v,slots:=z}/\
   zq .Gt A.in1 s (jF .Gt a.size i.size) (a.toList.zip i.toList) r/\R (.ok (.ret (.bool r))) s):=
 .of_wp λf w A R s h=>by
  obtain⟨m,g,d,o,os⟩:=s;obtain⟨u,q,c,h⟩:=h;have f2:=AY
  wp_walk using wpAny_loadPart' u,wpAny_loadPart' q,AX _ (λiu b k=>b.1=none/\k=⟨m,g,d,o,os⟩/\zq .Gt A.in1 ⟨m,g,d,o,os⟩ (jF .Gt a.size i.size) iu r) _
  case turn=>
   rintro⟨y,x⟩ iu b k ⟨j,rfl,e,t,c⟩;refine gq (t f w _ _ ?_)
   cases e with
   |true=>
    simp only[ja] at c
    wp_walk
    exact⟨rfl,rfl,c⟩
   |false=>
    simp only[jY,jl] at c;have p:=c f w
    wp_walk using p
    exact⟨_,rfl,by simpa using h⟩
  case fin=>
   rintro⟨E,G⟩ k ⟨j,rfl,c⟩;simp only at j;subst j;have c:r=jF .Gt a.size i.size:=c;rw[c] at h
   wp_walk
   exact⟨_,rfl,by simpa[Builtin.Tuple.tupleCompareSizes,jF] using h⟩
  case h=>exact⟨rfl,rfl,c⟩
def JX(l b:gm)(a i:lA)(n v:Nat)(dd B:Option Addr)(C z:pW)(r:Bool):
  Meets (Builtin.«tuple.__ge__» ⟨[.ref l,.ref b],[]⟩) (λA R s=>s.heap.get? l=some {cls:= .type "tuple",dict:=dd,data:= .seq a n,slots:=C}/\s.heap.get? b=some {cls:= .type "tuple",dict:=B,data:= .seq i v,slots:=z}/\
   zq .GtE A.in1 s (jF .GtE a.size i.size) (a.toList.zip i.toList) r/\R (.ok (.ret (.bool r))) s):=
 .of_wp λf w A R s h=>by
  obtain⟨m,g,d,o,os⟩:=s;obtain⟨u,q,c,h⟩:=h;have f2:=AY
  wp_walk using wpAny_loadPart' u,wpAny_loadPart' q,AX _ (λiu b k=>b.1=none/\k=⟨m,g,d,o,os⟩/\zq .GtE A.in1 ⟨m,g,d,o,os⟩ (jF .GtE a.size i.size) iu r) _
  case turn=>
   rintro⟨y,x⟩ iu b k ⟨j,rfl,e,t,c⟩;refine gq (t f w _ _ ?_)
   cases e with
   |true=>
    simp only[ja] at c
    wp_walk
    exact⟨rfl,rfl,c⟩
   |false=>
    simp only[jY,jl] at c;have p:=c f w
    wp_walk using p
    exact⟨_,rfl,by simpa using h⟩
  case fin=>
   rintro⟨E,G⟩ k ⟨j,rfl,c⟩;simp only at j;subst j;have c:r=jF .GtE a.size i.size:=c;rw[c] at h
   wp_walk
   exact⟨_,rfl,by simpa[Builtin.Tuple.tupleCompareSizes,jF] using h⟩
  case h=>exact⟨rfl,rfl,c⟩
section
variable {A:gR}{s:gu}{l b:gm}{a c:lA}{r:Bool}
def Ko(B:uh op)(z:s.heap.IsTuple l a)(y:s.heap.IsTuple b c)(g:A.units<cLine)(i:zq op A.in1 s (jF op a.size c.size) (a.toList.zip c.toList) r):OI op A s (.ref l) (.ref b) r:=λt w E Q h=>by
 obtain⟨⟨v,dd,p,o⟩,e,q,n,hd⟩:=id z;obtain⟨⟨C,m,data2,k⟩,d,u,j,f⟩:=id y;simp only at q hd u f;subst q hd u f;rcases B with rfl|rfl|rfl|rfl
 ·exact AW (op:= .Lt) ⟨_,e,rfl⟩ ⟨_,d,rfl⟩ PySem.F.slot_tuple_lt PySem.F.entry_tuple_lt (PySem.F.args_tuple_lt_2 _ _) (JU l b a c n j dd m o k r) ⟨e,d,i,show Value.bool r≠Value.notImplemented/\Q (.bool r) s from⟨(λx=>nomatch x),h⟩⟩ g
 ·exact AW (op:= .LtE) ⟨_,e,rfl⟩ ⟨_,d,rfl⟩ PySem.F.slot_tuple_le PySem.F.entry_tuple_le (PySem.F.args_tuple_le_2 _ _) (JV l b a c n j dd m o k r) ⟨e,d,i,show Value.bool r≠Value.notImplemented/\Q (.bool r) s from⟨(λx=>nomatch x),h⟩⟩ g
 ·exact AW (op:= .Gt) ⟨_,e,rfl⟩ ⟨_,d,rfl⟩ PySem.F.slot_tuple_gt PySem.F.entry_tuple_gt (PySem.F.args_tuple_gt_2 _ _) (JW l b a c n j dd m o k r) ⟨e,d,i,show Value.bool r≠Value.notImplemented/\Q (.bool r) s from⟨(λx=>nomatch x),h⟩⟩ g
 ·exact AW (op:= .GtE) ⟨_,e,rfl⟩ ⟨_,d,rfl⟩ PySem.F.slot_tuple_ge PySem.F.entry_tuple_ge (PySem.F.args_tuple_ge_2 _ _) (JX l b a c n j dd m o k r) ⟨e,d,i,show Value.bool r≠Value.notImplemented/\Q (.bool r) s from⟨(λx=>nomatch x),h⟩⟩ g
end
mutual
def lM(a:CmpOp):D->D->Option Bool
 | .int i,.int j=>some (jF a i j)
 | .tup l,.tup m=>pJ a l m
 |_,_=>none
def pJ(a:CmpOp):List D->List D->Option Bool
 |[],m=>some (jF a 0 m.length)
 |x::l,[]=>some (jF a ((x::l).length) 0)
 |x::l,y::m=>if D.eqb x y=true then pJ a l m else lM a x y
end
theorem pB(c:CmpOp)(a b k:Int):jF c (a+k) (b+k)=jF c a b:=by
 cases c<;>simp[jF]
section
variable {X:Cx}{c:hG}{f:L2.St}{H:Hp}{s:gu}
def De(b:uh op):OI op A s (.int i t) (.int j u) (jF op i j):=λa w E Q h=>by
 rcases b with rfl|rfl|rfl|rfl
 ·exact(PyProof.Rows.lt_int h:wpAny (model a w) A (compareOp .Lt _ _) Q E s)
 ·exact(PyProof.Rows.le_int h:wpAny (model a w) A (compareOp .LtE _ _) Q E s)
 ·exact(PyProof.Rows.gt_int h:wpAny (model a w) A (compareOp .Gt _ _) Q E s)
 ·exact(PyProof.Rows.ge_int h:wpAny (model a w) A (compareOp .GtE _ _) Q E s)
def Kp(T:uh op)(I:Inv X c f H s): ∀(n:Nat) (d e:D) (v u:V) (a b:gz) (O B:AP') (A:gR) (r:Bool),jq X.K H O d v->jq X.K H B e u->RelV v a->RelV u b->d.dep<=n->e.dep<20000->A.units+n<cLine->lM op d e=some r->OI op A s a b r:=by
 intro n
 induction n with
 |zero=>
  intro d e v u a b O B A r hd L M N Q S hA g
  cases d with
  |int i=>
   cases e with
   |int j=>
    have:=gY hd;subst this;have:=gY L;subst this;obtain⟨t,rfl⟩:=M;obtain⟨t',rfl⟩:=N;rw[lM] at g;rw[<-js g];exact De T
   |_=>rw[lM] at g<;>first|cases g|(intros;simp_all)
  |tup l=>rw[D.dep] at Q;omega
  |_=>rw[lM] at g<;>first|cases g|(intros;simp_all)
 |succ n ih=>
  intro d e v u a b O B A r hd L M N Q S hA g
  cases d with
  |int i=>
   cases e with
   |int j=>
    have:=gY hd;subst this;have:=gY L;subst this;obtain⟨t,rfl⟩:=M;obtain⟨t',rfl⟩:=N;rw[lM] at g;rw[<-js g];exact De T
   |_=>rw[lM] at g<;>first|cases g|(intros;simp_all)
  |tup l=>
   cases e with
   |tup m=>
    rw[lM] at g;rw[D.dep] at Q S;obtain⟨p,E,rfl,q,z⟩:=lb hd;obtain⟨p2,G,rfl,q2,o⟩:=lb L;cases M;cases N;obtain⟨h,J,pl,_⟩:=I.tuple q;obtain⟨w,C,i3,_⟩:=I.tuple q2;have R:A.in1.units=A.units+1:=rfl
    have Y: ∀(l m:List D) (E G:List V) (h w:ik) (k:Int),D.depL l+1<=n+1->D.depL m<20000->RepL X.K H O l E->RepL X.K H B m G->Vals E h->Vals G w->pJ op l m=some r->zq op A.in1 s (jF op (h.length+k) (w.length+k)) (h.zip w) r:=by
     intro l
     induction l with
     |nil=>
      intro m E G h w k y7 F z o J C g;rw[RepL] at z;subst z;cases J;rw[pJ] at g;have e1:=o.length;have e2:=C.length;show r=_;rw[pB,<-js g]
      congr 1
      omega
     |cons x l U=>
      intro m E G h w k y7 F z o J C g;rw[RepL] at z;obtain⟨W,xr,rfl,g1,g2⟩:=z
      cases J with
      |cons a1 a2=>
       cases m with
       |nil=>
        rw[RepL] at o;subst o;cases C;rw[pJ] at g;have e1:=g2.length;have e2:=a2.length;rw[List.zip_nil_right];show r=_;rw[pB,<-js g]
        congr 1
        simp only[kT];omega
       |cons y m=>
        rw[RepL] at o;obtain⟨Z,yr,rfl,g3,g4⟩:=o
        cases C with
        |cons b1 b2=>
         rw[pJ] at g;rw[D.depL] at y7 F;rw[List.zip_cons_cons];refine⟨D.eqb x y,F1 I n x y W Z _ _ O B A.in1 (.inl g1) (.inl g3) a1 b1 (by omega) (by omega) (by rw[R];omega),?_⟩
         cases P:D.eqb x y with
         |true=>
          rw[P,gF rfl] at g;rw[gF rfl];have:=U m xr yr _ _ (k+1) (by omega) (by omega) g2 g4 a2 b2 g;simp only[kT];have e: ∀a:Nat,(((a+1:Nat):Int)+k)=(a:Int)+(k+1):=λa=>by omega
          rw[e,e];exact this
         |false=>
          rw[P,hJ jT] at g;rw[hJ jT];exact ih x y W Z _ _ O B A.in1 r (.inl g1) (.inl g3) a1 b1 (by omega) (by omega) (by rw[R];omega) g
    have:=Y l m E G h w 0 (by omega) (by omega) z o J C g;refine Ko T pl i3 (by omega) ?_;simpa using this
   |_=>rw[lM] at g<;>first|cases g|(intros;simp_all)
  |_=>rw[lM] at g<;>first|cases g|(intros;simp_all)
def oM(a:CmpOp)(d e:D):Option (D×Bool):=if d.dep<=50/\e.dep<=50 then(lM a d e).map λb=>(.bl b,false) else none
def pd(b:uh op)(l:X.A.units+60<cLine):OpR X (compareOp op) (rD X.K (oM op)):=by
 intro c s f H x y v u Q I j k h;obtain⟨O,d,e,z,np,h1,g,a,G⟩:=h;unfold oM at a;split at a
 ·rename_i hd;obtain⟨r,i,rfl⟩:=ie a;have:=Kp b I 50 d e x y v u O O X.A r h1 g j k hd.1 (by omega) (by omega) i X.prog X.w X.xe (EP X c f Q) ⟨.bl r,H,I,rfl,G.bl⟩;rcases b with rfl|rfl|rfl|rfl<;>exact this
 ·cases a
end
open TS
section
variable {b:gS}{w:gO}{A:gR}{E:hZ}{s:gu}
def nI(h:gL)(a:gm)(c:ik):Heap:=((h.update a (Obj.mapSeq λ_=> #[])).push (seqObj "tuple" c.toArray 0)).push (seqObj "list" #[] 0)
def LO(a:ik)(i:Nat):Keyed:=(a.getD i Value.none,a.getD i Value.none)
def rQ{a:gm}{c:ik}{n:Nat}{P:PySem.Fin->Shared->Prop}{κ:SortKind}{lt:Nat->Nat->Bool}(t:s.heap.get? a=some (seqObj "list" c.toArray n))(B:c.length<=sizeLine)(I: ∀i j,lt i j=true->lt j i=false)(T: ∀{i j k},lt j i=false->lt k j=false->lt k i=false)
  (hk:2<=c.length->wpAny (model b w) A (keyKind' c.toArray) (λg d=>d={s with heap:=nI s.heap a c}/\g=κ) (λ_ _=>False) {s with heap:=nI s.heap a c})
  (ask:2<=c.length->Ask (model b w) A (λd=>d={s with heap:=nI s.heap a c}) (LO c) κ c.length lt)
  (h: ∀p:List Nat,p.Perm (List.range c.length)->p.Pairwise (λi j=>lt j i=false)->P (.done (.ret .none)) {s with heap:=(nI s.heap a c).update a (Obj.mapSeq λ_=>(p.map λi=>c.getD i Value.none).toArray)}):
  wpAny (model b w) A (Builtin.«list.sort» ⟨[.ref a],[]⟩) P E s:=by
 rw[list_sort_plain];have U:a<s.heap.objs.size:=iJ t;refine gq (Eg t rfl (gq (se t rfl ?_ (by rw[je];exact B) (mF _))));obtain⟨v,H⟩: ∃v,(s.heap.update a (Obj.mapSeq λ_=>(#[]:Array Value))).get? a=some (seqObj "list" #[] v):=⟨_,uJ t λ_=> #[]⟩
 refine gq (xp H rfl (gq (Bb ?_ (by show c.length<=_;exact B))));refine gq (AV ?_ (mF _));refine lO ?_;have q:(nI s.heap a c).get? a=some (seqObj "list" #[] v):=iA _ (iA _ H);show wpAny (model b w) A _ P E {s with heap:=nI s.heap a c};dsimp only;by_cases l:c.toArray.size<2
 ·rw[gF l,gF l];refine gq (gE ?_);rw[El];refine gq (gE ?_);dsimp only;refine gq (xp q rfl (gq (se q rfl ?_ (mF _) ?_)))
  ·simp only[uU,jY,jl];refine gE ?_;have u:c.length<2:=by simpa using l
   have:=h (List.range c.length) (uI _) (by
    rw[OL];intro i j m N Y;simp at m N;omega)
   have e:((c.toArray.zip c.toArray).map (·.2))=((List.range c.length).map λi=>c.getD i Value.none).toArray:=by
    apply Array.ext
    ·simp
    ·intro i h1 M;have m:i<c.length:=by simpa using h1
     simp[m]
   rw[e];exact this
  ·rw[Array.size_map,Array.size_zip];simp;omega
 ·rw[hJ l,hJ l];have u:2<=c.length:=by simpa using l
  refine gq (lQ (hk u) (λg d z=>?_) λ_ _ x=>x.elim);obtain⟨rfl,rfl⟩:=z;refine gq (lQ (MK (X:=⟨_,A,E,λd=>d={s with heap:=nI s.heap a c},LO c,lt,g,c.length,I,T,ask u⟩) (L:=List.range c.length) ⟨?_,rfl,rfl,rfl,.refl _⟩ (Q:=λ_ r=> ∃p,(arrOf r).map (·.2)=(p.map λi=>c.getD i Value.none).toArray/\failedOf r=none/\p.Perm (List.range c.length)/\p.Pairwise λi j=>lt j i=false) (λr _ p R y=>⟨p,?_,R.f,R.p,y⟩) _ rfl) ?_ λ_ _ e=>e)
  ·show c.toArray.zip c.toArray=_;apply Array.ext
   ·simp
   ·intro i h1 M;have m:i<c.length:=by simpa using h1
    simp[LO,m]
  ·rw[R.a];simp[LO]
  rintro⟨⟨⟩,r⟩ d ⟨rfl,C,o,J,G,y⟩;dsimp only;have O:C.length=c.length:=by simpa using G.length_eq
  refine gq (xp q rfl (gq (se q rfl ?_ (mF _) ?_)))
  ·rw[J];simp only[uU,jY,jl];rw[o];exact gE (h C G y)
  ·rw[o,je,jm,O];omega
end
mutual
def cT:D->D->Ordering
 | .int i,.int j=>if i<j then .lt else if i=j then .eq else .gt
 | .int _,_=> .lt
 | .tup _,.int _=> .gt
 | .tup l,.tup m=>cL l m
 | .tup _,_=> .lt
 |_,.int _=> .gt
 |_,.tup _=> .gt
 |_,_=> .eq
def cL:List D->List D->Ordering
 |[],[]=> .eq
 |[],_::_=> .lt
 |_::_,[]=> .gt
 |x::l,y::m=>match cT x y with
  | .lt=> .lt
  | .gt=> .gt
  | .eq=>cL l m
end
mutual
theorem uy: ∀x y:D,cT y x=(cT x y).swap
 | .int i,.int j=>by
  rw[cT,cT];by_cases h1:i<j
  ·rw[gF h1,hJ (by omega),hJ (by omega)];rfl
  ·rw[hJ h1];by_cases a:i=j
   ·rw[gF a,hJ (by omega),gF a.symm];rfl
   ·rw[hJ a,gF (by omega)];rfl
 | .tup l,.tup m=>by rw[cT,cT];exact HC l m
 | .int _,.tup _=>by simp[cT]
 | .int _,.non=>by simp[cT]
 | .int _,.bl _=>by simp[cT]
 | .int _,.str _=>by simp[cT]
 | .int _,.lst _=>by simp[cT]
 | .int _,.oth _ _ _=>by simp[cT]
 | .tup _,.int _=>by simp[cT]
 | .tup _,.non=>by simp[cT]
 | .tup _,.bl _=>by simp[cT]
 | .tup _,.str _=>by simp[cT]
 | .tup _,.lst _=>by simp[cT]
 | .tup _,.oth _ _ _=>by simp[cT]
 | .non,y=>by cases y<;>simp[cT]
 | .bl _,y=>by cases y<;>simp[cT]
 | .str _,y=>by cases y<;>simp[cT]
 | .lst _,y=>by cases y<;>simp[cT]
 | .oth _ _ _,y=>by cases y<;>simp[cT]
theorem HC: ∀l m:List D,cL m l=(cL l m).swap
 |[],[]=>by simp[cL]
 |[],_::_=>by simp[cL]
 |_::_,[]=>by simp[cL]
 |x::l,y::m=>by
  rw[cL,cL,uy x y];cases h:cT x y<;>simp[Ordering.swap]
  exact HC l m
end
def LB(h1:cT x y≠ .gt)(a:cT y x≠ .gt):cT x y= .eq:=by
 rw[uy x y] at a
 cases h:cT x y with
 |lt=>rw[h] at a;exact absurd rfl a
 |eq=>rfl
 |gt=>exact absurd h h1
mutual
theorem ux: ∀x y z:D,cT x y≠ .gt->cT y z≠ .gt->cT x z≠ .gt
 | .int i,y,z,h1,d=>by
  cases z with
  |int k=>
   cases y with
   |int j=>
    rw[cT] at h1 d ⊢
    have a:i<=j:=by
     by_cases a:i<j
     ·omega
     ·rw[hJ a] at h1;by_cases b:i=j
      ·omega
      ·rw[hJ b] at h1;exact absurd rfl h1
    have b:j<=k:=by
     by_cases a:j<k
     ·omega
     ·rw[hJ a] at d;by_cases b:j=k
      ·omega
      ·rw[hJ b] at d;exact absurd rfl d
    by_cases c:i<k
    ·rw[gF c];simp
    ·rw[hJ c,gF (by omega)];simp
   |_=>simp[cT] at d
  |_=>simp[cT]
 | .tup l,y,z,h1,d=>by
  cases y with
  |int j=>simp[cT] at h1
  |tup m=>
   cases z with
   |int k=>simp[cT] at d
   |tup n=>rw[cT] at h1 d ⊢;exact DW l m n h1 d
   |_=>simp[cT]
  |_=>cases z<;>simp_all [cT]
 | .non,y,z,h1,d=>by cases y<;>cases z<;>simp_all [cT]
 | .bl _,y,z,h1,d=>by cases y<;>cases z<;>simp_all [cT]
 | .str _,y,z,h1,d=>by cases y<;>cases z<;>simp_all [cT]
 | .lst _,y,z,h1,d=>by cases y<;>cases z<;>simp_all [cT]
 | .oth _ _ _,y,z,h1,d=>by cases y<;>cases z<;>simp_all [cT]
 termination_by x y z=>sizeOf x+sizeOf y+sizeOf z
theorem DW: ∀l m n:List D,cL l m≠ .gt->cL m n≠ .gt->cL l n≠ .gt
 |[],m,n,_,_=>by cases n<;>simp[cL]
 |x::l,[],n,h1,_=>by simp[cL] at h1
 |x::l,y::m,[],_,a=>by simp[cL] at a
 |x::l,y::m,z::n,h1,a=>by
  have a1:cT x y≠ .gt:=λh=>by rw[cL,h] at h1;exact h1 rfl
  have c:cT y z≠ .gt:=λh=>by rw[cL,h] at a;exact a rfl
  have g:=ux x y z a1 c;rw[cL]
  cases b:cT x z with
  |lt=>simp
  |gt=>exact absurd b g
  |eq=>
   have f:cT z x≠ .gt:=by rw[uy x z,b];simp[Ordering.swap]
   have d:cT x y= .eq:=LB a1 (ux y z x c f);have e:cT y z= .eq:=LB c (ux z x y f a1);rw[cL,d] at h1;rw[cL,e] at a;exact DW l m n h1 a
 termination_by l m n=>sizeOf l+sizeOf m+sizeOf n
end
def ltT(x y:D):Bool:=cT x y== .lt
theorem Uk:ltT x y=true↔cT x y= .lt:=by simp[ltT]
theorem oH:ltT x y=false↔cT x y≠ .lt:=by simp[ltT]
theorem Pl:ltT y x=false↔cT x y≠ .gt:=by rw[oH,uy x y];cases cT x y<;>simp[Ordering.swap]
def UH(x y:D)(h:ltT x y=true):ltT y x=false:=by rw[Pl,Uk.mp h];simp
def Tn(h1:ltT y x=false)(a:ltT z y=false):ltT z x=false:=Pl.mpr (ux _ _ _ (Pl.mp h1) (Pl.mp a))
mutual
/-- ints,and tuples of such -/
def D.pr:D->Bool
 | .int _=>true
 | .tup l=>D.prL l
 |_=>false
def D.prL:List D->Bool
 |[]=>true
 |x::l=>D.pr x&&D.prL l
end
mutual
theorem Mf: ∀x y:D,D.pr x=true->D.pr y=true->D.eqb x y=(cT x y== .eq)
 | .int i,.int j,_,_=>by
  rw[D.eqb,cT];by_cases h:i=j
  ·subst h;simp
  ·rw[hJ h];by_cases a:i<j<;>simp[h,a]
 | .int _,.tup _,_,_=>by simp[D.eqb,cT]
 | .tup _,.int _,_,_=>by simp[D.eqb,cT]
 | .tup l,.tup m,h1,a=>by rw[D.eqb,cT];rw[D.pr] at h1 a;exact Hr l m h1 a
 | .non,_,h,_=>by simp[D.pr] at h
 | .bl _,_,h,_=>by simp[D.pr] at h
 | .str _,_,h,_=>by simp[D.pr] at h
 | .lst _,_,h,_=>by simp[D.pr] at h
 | .oth _ _ _,_,h,_=>by simp[D.pr] at h
 |_,.non,_,h=>by simp[D.pr] at h
 |_,.bl _,_,h=>by simp[D.pr] at h
 |_,.str _,_,h=>by simp[D.pr] at h
 |_,.lst _,_,h=>by simp[D.pr] at h
 |_,.oth _ _ _,_,h=>by simp[D.pr] at h
theorem Hr: ∀l m:List D,D.prL l=true->D.prL m=true->D.eqbL l m=(cL l m== .eq)
 |[],[],_,_=>by simp[D.eqbL,cL]
 |[],_::_,_,_=>by simp[D.eqbL,cL]
 |_::_,[],_,_=>by simp[D.eqbL,cL]
 |x::l,y::m,h1,a=>by
  rw[D.prL,kZ] at h1 a;rw[D.eqbL,cL,Mf x y h1.1 a.1,Hr l m h1.2 a.2];cases cT x y<;>simp
end
mutual
theorem zb: ∀x y:D,D.pr x=true->D.pr y=true->cT x y= .eq->x=y
 | .int i,.int j,_,_,h=>by
  rw[cT] at h;by_cases h1:i<j
  ·rw[gF h1] at h;cases h
  ·rw[hJ h1] at h;by_cases c:i=j
   ·rw[c]
   ·rw[hJ c] at h;cases h
 | .tup l,.tup m,a,b,h=>by rw[cT] at h;rw[D.pr] at a b;rw[DX l m a b h]
 | .int _,.tup _,_,_,h=>by simp[cT] at h
 | .tup _,.int _,_,_,h=>by simp[cT] at h
 | .non,_,a,_,_=>by simp[D.pr] at a
 | .bl _,_,a,_,_=>by simp[D.pr] at a
 | .str _,_,a,_,_=>by simp[D.pr] at a
 | .lst _,_,a,_,_=>by simp[D.pr] at a
 | .oth _ _ _,_,a,_,_=>by simp[D.pr] at a
 |_,.non,_,a,_=>by simp[D.pr] at a
 |_,.bl _,_,a,_=>by simp[D.pr] at a
 |_,.str _,_,a,_=>by simp[D.pr] at a
 |_,.lst _,_,a,_=>by simp[D.pr] at a
 |_,.oth _ _ _,_,a,_=>by simp[D.pr] at a
theorem DX: ∀l m:List D,D.prL l=true->D.prL m=true->cL l m= .eq->l=m
 |[],[],_,_,_=>rfl
 |[],_::_,_,_,h=>by simp[cL] at h
 |_::_,[],_,_,h=>by simp[cL] at h
 |x::l,y::m,a,b,h=>by
  rw[D.prL,kZ] at a b;rw[cL] at h
  cases e:cT x y with
  |eq=>rw[e] at h;rw[zb x y a.1 b.1 e,DX l m a.2 b.2 h]
  |lt=>rw[e] at h;cases h
  |gt=>rw[e] at h;cases h
end
mutual
theorem Ct: ∀x y:D,D.pr x=true->D.pr y=true-> ∀b,lM .Lt x y=some b->b=ltT x y
 | .int i,.int j,_,_,b,h=>by
  rw[lM] at h;rw[<-js h,ltT,cT,jF];by_cases h1:i<j
  ·simp[h1]
  ·rw[hJ h1];by_cases a:i=j<;>simp[h1,a]
 | .int _,.tup _,_,_,b,h=>by simp[lM] at h
 | .tup _,.int _,_,_,b,h=>by simp[lM] at h
 | .tup l,.tup m,h1,a,b,h=>by
  rw[lM] at h;rw[D.pr] at h1 a;rw[ltT,cT];exact Hz l m h1 a b h
 | .non,_,h,_,_,_=>by simp[D.pr] at h
 | .bl _,_,h,_,_,_=>by simp[D.pr] at h
 | .str _,_,h,_,_,_=>by simp[D.pr] at h
 | .lst _,_,h,_,_,_=>by simp[D.pr] at h
 |_,.non,_,h,_,_=>by simp[D.pr] at h
 |_,.bl _,_,h,_,_=>by simp[D.pr] at h
 |_,.str _,_,h,_,_=>by simp[D.pr] at h
 |_,.lst _,_,h,_,_=>by simp[D.pr] at h
theorem Hz: ∀l m:List D,D.prL l=true->D.prL m=true-> ∀b,pJ .Lt l m=some b->b=(cL l m== .lt)
 |[],[],_,_,b,h=>by rw[pJ] at h;rw[<-js h];simp[jF,cL]
 |[],_::_,_,_,b,h=>by rw[pJ] at h;rw[<-js h];simp[jF,cL]<;>omega
 |_::_,[],_,_,b,h=>by rw[pJ] at h;rw[<-js h];simp[jF,cL]<;>omega
 |x::l,y::m,h1,a,b,h=>by
  rw[D.prL,kZ] at h1 a;rw[pJ,Mf x y h1.1 a.1] at h;rw[cL]
  cases c:cT x y with
  |eq=>rw[c] at h;simp at h;exact Hz l m h1.2 a.2 b h
  |lt=>rw[c] at h;simp at h;have:=Ct x y h1.1 a.1 b h;rw[this,ltT,c]
  |gt=>rw[c] at h;simp at h;have:=Ct x y h1.1 a.1 b h;rw[this,ltT,c]
end
section
variable {a:Type}(lt:a->a->Bool)
def Ce(x:a):List a->List a
 |[]=>[x]
 |y::l=>if lt y x=true then y::Ce x l else x::y::l
def lR:List a->List a
 |[]=>[]
 |x::l=>Ce lt x (lR l)
theorem qU(x:a): ∀l:List a,(Ce lt x l).Perm (x::l)
 |[]=>uI _
 |y::l=>by
  rw[Ce];split
  ·exact((qU x l).cons y).trans (List.Perm.swap x y l)
  ·exact uI _
theorem jv: ∀l:List a,(lR lt l).Perm l
 |[]=>uI _
 |x::l=>(qU lt x _).trans ((jv l).cons x)
end
theorem DF{x:D}: ∀{l:List D},(l.Pairwise λx y=>ltT y x=false)->(Ce ltT x l).Pairwise λx y=>ltT y x=false
 |[],_=>Jk _ _
 |y::l,h=>by
  have h:=Gn.mp h;rw[Ce]
  cases b:ltT y x with
  |true=>
   refine Gn.mpr ⟨λz a=>?_,DF h.2⟩;rcases jM.mp ((qU ltT x l).mem_iff.mp a) with rfl|a
   ·exact UH _ _ b
   ·exact h.1 z a
  |false=>
   refine Gn.mpr ⟨λz a=>?_,Gn.mpr h⟩;rcases jM.mp a with rfl|a
   ·exact b
   ·exact Tn b (h.1 z a)
theorem qG: ∀l:List D,(lR ltT l).Pairwise λx y=>ltT y x=false
 |[]=>List.Pairwise.nil
 |x::l=>DF (qG l)
def Qc{l m:List D}(h: ∀x∈m,D.pr x=true)(a:l.Perm m)(c:l.Pairwise λx y=>ltT y x=false):l=lR ltT m:=
 Jh (λx y d e h1 b=>zb x y (h x (a.mem_iff.mp d)) (h y ((jv ltT m).mem_iff.mp e)) (LB (Pl.mp h1) (Pl.mp b))) c (qG m) (a.trans (jv ltT m).symm)
def HN{a:List D}{p:iI}(pr: ∀x∈a,D.pr x=true)(d:p.Perm (List.range a.length))(f:p.Pairwise λi j=>ltT (a.getD j .non) (a.getD i .non)=false):p.map (λi=>a.getD i .non)=lR ltT a:=by
 have e:(List.range a.length).map (λi=>a.getD i .non)=a:=by
  apply uO;intro i;by_cases c:i<a.length<;>simp[c]
 have b:=d.map λi=>a.getD i .non;rw[e] at b;exact Qc pr b (oi.mpr f)
def jZ:D->Option Nat
 | .int _=>some 0
 | .tup (.int _::_)=>some 1
 | .tup (.tup _::_)=>some 2
 |_=>none
def Hg:Nat->SortKind
 |0=>oneType'
 |1=>tuples' true
 |_=>tuples' false
structure SortsBy(k:Nat)(l:List D):Prop where
 hd: ∀x∈l,jZ x=some k
 pr: ∀x∈l,D.pr x=true
 dp: ∀x∈l,x.dep<=50
 cm: ∀x∈l,∀y∈l,(lM .Lt x y).isSome=true
def qe(l:List D):Bool:=l.length<=1||match l with
 |[]=>true
 |x::_=>(jZ x).isSome&&(l.all λy=>jZ y==jZ x&&D.pr y&&decide (y.dep<=50))&&l.all λy=>l.all λz=>(lM .Lt y z).isSome
def HP(h:qe l=true):l.length<=1\/ ∃k,SortsBy k l:=by
 unfold qe at h;rw[AU] at h;rcases h with h|h
 ·left;simpa using h
 ·right
  cases l with
  |nil=>exact⟨0,λx a=>absurd a kx,λx a=>absurd a kx,λx a=>absurd a kx,λx a=>absurd a kx⟩
  |cons x m=>
   simp only[kZ,md,uN] at h;obtain⟨⟨h1,c⟩,d⟩:=h;obtain⟨k,hk⟩:=IS.mp h1;refine⟨k,λy b=>?_,λy b=>(c y b).1.2,λy b=>(c y b).2,λy b z e=>d y b z e⟩;have:=(c y b).1.1;rw[hk] at this;simpa using this
section
variable {X:Cx}{d:hG}{f:L2.St}{H:Hp}{s:gu}
def qC(v:Vals xs a)(b:i<a.length):RelV (xs.getD i .non) (a.getD i Value.none):=by
 have e:=v.length;have h:xs[i]?=some xs[i]:=iW (by omega);obtain⟨w,c,j⟩:=v.get h;have h1:xs.getD i .non=xs[i]:=by simp[show i<xs.length by omega]
 have g:a.getD i Value.none=w:=by
  rw[iW b] at c;have:=js c;simp[b,this]
 rw[h1,g];exact j
def qN(r:RepL X.K H O ds xs)(a:i<ds.length):Rep X.K H O (ds.getD i .non) (xs.getD i .non):=by
 have e:=r.length;have hd:ds[i]?=some ds[i]:=iW a;obtain⟨v,b,g⟩:=r.get hd;have h1:ds.getD i .non=ds[i]:=by simp[a]
 have c:xs.getD i .non=v:=by
  rw[iW (by omega)] at b;have:=js b;simp[show i<xs.length by omega,this]
 rw[h1,c];exact g
def yD{ds:List D}{i:Nat}(a:i<ds.length):ds.getD i .non∈ds:=by simp[a]
theorem DD(I:Inv X d f H s){A:gR}{b:Bool}{O z:AP'}(hA:A.units+60<cLine){r:Bool}{Q:Bool->Shared->Prop}(n:Q r s): ∀(l m:List D) (u v:List V) (g o:ik) (k:Int) (i:Nat),D.depL l<=50->D.depL m<=50->
  ((b&&i==0)=true-> ∀x y l' m',l=x::l'->m=y::m'->(∃a,x= .int a)/\ ∃c,y= .int c)->RepL X.K H O l u->RepL X.K H z m v->Vals u g->Vals v o->pJ .Lt l m=some r->
  ∀fin:Bool,fin=jF .Lt (g.length+k) (o.length+k)->PySem.W.KatLex X.prog X.w A b fin Q (g.zip o) i s
 |[],m,u,v,g,o,k,i,_,_,_,p,q,v1,v2,j,fin,hf=>by
  rw[RepL] at p;subst p;cases v1;rw[pJ] at j;have T:=q.length;have U:=v2.length;show Q fin s;rw[hf,pB];rw[<-js j] at n;have:jF .Lt ((([]:List Value).length:Nat):Int) (o.length:Int)=jF .Lt 0 (m.length:Int):=by congr 1;omega
  rw[this];exact n
 |x::l,[],u,v,g,o,k,i,_,_,_,p,q,v1,v2,j,fin,hf=>by
  rw[RepL] at q;subst q;cases v2;rw[pJ] at j;have T:=p.length;have U:=v1.length;rw[List.zip_nil_right];show Q fin s;rw[hf,pB];rw[<-js j] at n;have:jF .Lt (g.length:Int) ((([]:List Value).length:Nat):Int)=jF .Lt (((x::l).length:Nat):Int) 0:=by congr 1;omega
  rw[this];exact n
 |x::l,y::m,u,v,g,o,k,i,y7,M,hb,p,q,v1,v2,j,fin,hf=>by
  rw[RepL] at p q;obtain⟨G,F,rfl,g1,g2⟩:=p;obtain⟨J,P,rfl,g3,Y⟩:=q
  cases v1 with
  |cons a1 L=>
   cases v2 with
   |cons B N=>
    rw[pJ] at j;rw[D.depL] at y7 M;rw[List.zip_cons_cons];refine PySem.W.kat_cons (F1 I 50 x y G J _ _ O z A (.inl g1) (.inl g3) a1 B (by omega) (by omega) (by omega) X.prog X.w _ _ ?_)
    cases E:D.eqb x y with
    |true=>
     rw[E,gF rfl] at j;refine PySem.W.kat_yes (DD I hA n l m F P _ _ (k+1) (i+1) (by omega) (by omega) (λh=>by simp at h) g2 Y L N j fin ?_);rw[hf];simp only[kT];have e: ∀a:Nat,(((a+1:Nat):Int)+k)=(a:Int)+(k+1):=λa=>by omega
     rw[e,e]
    |false=>
     rw[E,hJ jT] at j;refine PySem.W.kat_no ?_
     cases C:(b&&i==0) with
     |true=>
      obtain⟨⟨a,rfl⟩,c,rfl⟩:=hb C x y l m rfl rfl;have:=g1.int;subst this;have:=g3.int;subst this;obtain⟨t,rfl⟩:=a1;obtain⟨R,rfl⟩:=B;rw[lM] at j;rw[<-js j] at n;exact oneLt_int n
     |false=>
      exact PySem.W.kat_one _ _ (Kp (.inl rfl) I 50 x y G J _ _ O z A r (.inl g1) (.inl g3) a1 B (by omega) (by omega) (by omega) j X.prog X.w _ _ n)
def UG(I:Inv X d f H s){O:AP'}{u:List D}{T:List V}{e:ik}{A:gR}(hA:A.units+60<cLine)(rr:RepL X.K H O u T)(v:Vals T e){k:Nat}(B:SortsBy k u):
  Ask (model X.prog X.w) A (λJ=>J=s) (LO e) (Hg k) e.length (λi j=>ltT (u.getD i .non) (u.getD j .non)):=by
 intro i j hi hj J bg E';subst bg;have e1:=rr.length;have e2:=v.length;have M:u.getD i .non∈u:=yD (by omega);have N:u.getD j .non∈u:=yD (by omega);have ri:=qN rr (i:=i) (by omega);have rj:=qN rr (i:=j) (by omega);have vi:=qC v hi;have vj:=qC v hj;obtain⟨b,E⟩:=IS.mp (B.cm _ M _ N);have u3:=Ct _ _ (B.pr _ M) (B.pr _ N) b E;have r:=B.hd _ M;have g:=B.hd _ N;have di:=B.dp _ M;have dj:=B.dp _ N;show wpAny _ _ (keyLt' (Hg k) (e.getD i Value.none) (e.getD j Value.none)) _ _ _;dsimp only;rw[<-u3];generalize u.getD i .non=x at*;generalize u.getD j .non=y at*;generalize T.getD i .non=vx at*;generalize T.getD j .non=vy at*;generalize e.getD i Value.none=a at*;generalize e.getD j Value.none=c at*
 have C: ∀(l m:List D) (L:Bool),x= .tup l->y= .tup m->(L=true-> ∀x y Z m',l=x::Z->m=y::m'->(∃a,x= .int a)/\ ∃c,y= .int c)->wpAny (model X.prog X.w) A (keyLt' (tuples' L) a c) (λU R=>R=J/\U=b) E' J:=λl m L F P hh=>by
  subst F P;obtain⟨p,us,rfl,q,r1⟩:=ri.tup;obtain⟨p2,ws,rfl,q2,r2⟩:=rj.tup;cases vi;cases vj;obtain⟨S,w1,⟨o,ho,hc,n,hd⟩,_⟩:=I.tuple q.sq;obtain⟨G,w2,⟨o2,o7,w5,n2,Y⟩,_⟩:=I.tuple q2.sq;rw[lM] at E;rw[D.dep] at di dj;refine PySem.W.kat_lt ho hd o7 Y ?_;have:=DD I (b:=L) hA (Q:=λU R=>R=J/\U=b) ⟨rfl,rfl⟩ l m us ws S G 0 0 (by omega) (by omega) (λh=>hh (by simpa using h)) r1 r2 w1 w2 E (decide (S.toArray.size<G.toArray.size)) (by simp[jF]);simpa using this
 match k,r,g with
 |0,r,g=>
  cases x with
  |int ix=>
   cases y with
   |int iy=>
    have:=ri.int;subst this;have:=rj.int;subst this;obtain⟨t,rfl⟩:=vi;obtain⟨t',rfl⟩:=vj;rw[lM] at E;rw[<-js E];show wpAny _ _ (keyLt' oneType' _ _) _ _ _;rw[keyLt'_oneType];exact oneLt_int ⟨rfl,rfl⟩
   |tup m=>cases m with
    |nil=>simp[jZ] at g
    |cons z m=>cases z<;>simp[jZ] at g
   |_=>simp[jZ] at g
  |tup m=>cases m with
   |nil=>simp[jZ] at r
   |cons z m=>cases z<;>simp[jZ] at r
  |_=>simp[jZ] at r
 |1,r,g=>
  cases x with
  |tup l=>
   cases y with
   |tup m=>
    refine C l m true rfl rfl λ_ x y Z m' F P=>?_;subst F P;refine⟨?_,?_⟩
    ·cases x with
     |int a=>exact⟨a,rfl⟩
     |_=>simp[jZ] at r
    ·cases y with
     |int a=>exact⟨a,rfl⟩
     |_=>simp[jZ] at g
   |_=>simp[jZ] at g
  |_=>simp[jZ] at r
 |(n+2),r,g=>
  cases x with
  |tup l=>
   cases y with
   |tup m=>exact C l m false rfl rfl λh=>absurd h jT
   |_=>simp[jZ] at g
  |_=>simp[jZ] at r
end
open PySem.W
section
variable {X:Cx}{c:hG}{y:L2.St}{H:Hp}{s:gu}
theorem yP(I:Inv X c y H s){O:AP'}{T:gz}(P:D->Prop)(i: ∀x v u,P x->Rep X.K H O x v->RelV v u->Looks (model X.prog X.w) s.heap (typeOf u) T): ∀{ds:List D} {b:List V} {a:ik},RepL X.K H O ds b->Vals b a->
  (∀d∈ds,∃x l,d= .tup (x::l)/\P x)-> ∃fs,KatTups s.heap a fs/\fs.length=a.length/\ ∀f∈fs,Looks (model X.prog X.w) s.heap (typeOf f) T
 |[],b,a,r,v,_=>by
  rw[RepL] at r;subst r;cases v;exact⟨[],KatTups.nil,rfl,λf z=>absurd z kx⟩
 |d::ds,b,a,r,v,h=>by
  rw[RepL] at r;obtain⟨vx,xr,rfl,g1,g2⟩:=r
  cases v with
  |cons a1 k=>
   obtain⟨fs,B,C,E⟩:=yP I P i g2 k λd hd=>h d (jA _ hd);obtain⟨x,l,rfl,G⟩:=h d jB;obtain⟨p,Y,rfl,q,j⟩:=g1.tup;cases a1;obtain⟨N,L,⟨o,A,t,n,hd⟩,_⟩:=I.tuple q.sq;rw[RepL] at j;obtain⟨J,F,rfl,g3,U⟩:=j
   cases L with
   |cons m M=>
    rename_i f Q;refine⟨f::fs,KatTups.cons A t hd (by simp) B,by simp[C],λg e=>?_⟩;rcases jM.mp e with rfl|e
    ·exact i x J _ G g3 m
    ·exact E g e
def R5(I:Inv X c y H s){O:AP'}{ds:List D}{M:List V}{b:ik}{A:gR}(f:RepL X.K H O ds M)(v:Vals M b){k:Nat}(B:SortsBy k ds)(N:2<=b.length):
  wpAny (model X.prog X.w) A (keyKind' b.toArray) (λG s'=>s'=s/\G=Hg k) (λ_ _=>False) s:=by
 have R:=f.length;have S:=v.length
 match k,B with
 |0,B=>
  refine kas_kind (T:= .type "int") N (λu Y=>?_) rfl rfl ⟨rfl,rfl⟩;obtain⟨i,J,e⟩:=A5 Y;have L:=qN f (i:=i) (by omega);have E:=qC v J;have hd:=B.hd _ (yD (ds:=ds) (i:=i) (by omega));have:b.getD i Value.none=u:=by simp[J,e]
  rw[this] at E
  cases h:ds.getD i .non with
  |int a=>
   rw[h] at L;have:=L.int;rw[this] at E;obtain⟨t,rfl⟩:=E;exact Looks.of_pure rfl
  |tup l=>
   rw[h] at hd
   cases l with
   |nil=>simp[jZ] at hd
   |cons z m=>cases z<;>simp[jZ] at hd
  |_=>rw[h] at hd;simp[jZ] at hd
 |1,B=>
  obtain⟨fs,f1,f2,g⟩:=yP I (T:= .type "int") (λx=> ∃a,x= .int a) (λx F u j C r=>by
   obtain⟨a,rfl⟩:=j;have:=C.int;subst this;obtain⟨t,rfl⟩:=r
   exact Looks.of_pure rfl) f v λd hd=>by
    have:=B.hd d hd
    cases d with
    |tup l=>
     cases l with
     |nil=>simp[jZ] at this
     |cons z m=>
      cases z with
      |int a=>exact⟨_,m,rfl,a,rfl⟩
      |_=>simp[jZ] at this
    |_=>simp[jZ] at this
  exact kat_kind f1 (by omega) g rfl ⟨rfl,rfl⟩
 |(n+2),B=>
  obtain⟨fs,f1,f2,g⟩:=yP I (T:= .type "tuple") (λx=> ∃a,x= .tup a) (λx F u j C r=>by
   obtain⟨a,rfl⟩:=j;obtain⟨p,Z,rfl,q,W⟩:=C.tup;cases r;obtain⟨P,w1,⟨o,U,Q,n,hd⟩,_⟩:=I.tuple q.sq;have:Looks (model X.prog X.w) s.heap (typeOf (.ref p)) o.cls:=(Looks.ld U).andThen .now
   rw[Q] at this;exact this) f v λd hd=>by
    have:=B.hd d hd
    cases d with
    |tup l=>
     cases l with
     |nil=>simp[jZ] at this
     |cons z m=>
      cases z with
      |tup a=>exact⟨_,m,rfl,a,rfl⟩
      |_=>simp[jZ] at this
    |_=>simp[jZ] at this
  exact kat_kind f1 (by omega) g rfl ⟨rfl,rfl⟩
def kH(l:List D):Option (D×Bool):=if qe l=true/\l.length<=sizeLine then some (.lst (lR ltT l),true) else none
def mT(d:D):Option (D×Bool):=(rL d).bind kH
theorem CQ{b:List V}{a:ik}(v:Vals b a): ∀(p:iI),(∀i∈p,i<a.length)->Vals (p.map λi=>b.getD i .non) (p.map λi=>a.getD i Value.none)
 |[],_=> .nil
 |i::p,h=> .cons (qC v (h i jB)) (CQ v p λj d=>h j (jA _ d))
theorem Dc{O:AP'}{a:List D}{b:List V}(r:RepL X.K H O a b): ∀(p:iI),(∀i∈p,i<a.length)->RepL X.K H O (p.map λi=>a.getD i .non) (p.map λi=>b.getD i .non)
 |[],_=>RepL.nil
 |i::p,h=>RepL.cons (qN r (h i jB)) (Dc r p λj d=>h j (jA _ d))
def Fd{b:List D}{n:Nat}(e:n=b.length)(h1:b.length<=1){p:iI}(a:p.Perm (List.range n)):p.map (λi=>b.getD i .non)=lR ltT b:=by
 subst e
 match b,h1,a with
 |[],_,a=>
  have:p=[]:=by simpa using a.length_eq
  subst this;rfl
 |[d],_,a=>
  have e:p.length=1:=by simpa using a.length_eq
  match p,e,a with
  |[i],_,a=>
   have:i=0:=by have:=a.mem_iff.mp (Gm.mpr rfl);simpa using this
   subst this;rfl
def qF(hu:X.A.units+62<cLine)(I:Inv X c y H s){O:AP'}{f:List D}{N:List V}{a:ik}{x:gz}{Q:VK}{z:D×Bool}(u:RepL X.K H O f N)(v:Vals N a)(hg:kH f=some z)(G:Gen X.K H O z Q)
  (hc: ∀(Y:List Value->Shared->Prop) (E':hZ) (T:gR),T.handled=X.A.handled->(∀(h':gL) (d:Nat),(∀b o,s.heap.get? b=some o->h'.get? b=some o)->Y a {s with heap:=h',toks:=d})->wpAny (model X.prog X.w) T (collect x) Y E' s):
  wpAny (model X.prog X.w) X.A (call (.builtin "sorted") [x]) (EP X c y Q) X.xe s:=by
 unfold kH at hg;obtain⟨⟨J,hz⟩,rfl⟩:=hV hg;have r:=u.length;have e2:=v.length;refine Calls.call_function_entry kind_sorted plain_sorted entry_sorted (args_sorted1 _) ?_;unfold Builtin.«sorted»;refine gq (m:=checkCount "sorted" 1 1 _) (gE ?_);refine gq (hc _ _ _ rfl λh1 d R=>?_);refine gq (AV ?_ (by omega));have t:(h1.push (seqObj "list" a.toArray 0)).get? h1.objs.size=some (seqObj "list" a.toArray 0):=jr _ rfl;have C:Inv X c y H {s with heap:=h1,toks:=d}:=I.kept R
 have keep: ∀b o,h1.get? b=some o->(nI (h1.push (seqObj "list" a.toArray 0)) h1.objs.size a).get? b=some o:=λb o l=>by
  have P:b≠h1.objs.size:=iP (iJ l);refine iA _ (iA _ ?_);rw[Ef _ _ _ _ P];exact iA _ l
 have U:Inv X c y H {s with heap:=nI (h1.push (seqObj "list" a.toArray 0)) h1.objs.size a,toks:=d}:=C.kept keep;have Z: ∀i∈List.range a.length,i<a.length:=λi q=>by simpa using q
 refine gq (lO (pY (s:={s with heap:=h1.push (seqObj "list" a.toArray 0),toks:=d}) slot_list_sort ⟨_,t,rfl⟩ entry_list_sort ?body (args_list_sort _)))
 case body=>
  have fin: ∀p:List Nat,p.Perm (List.range a.length)->p.map (λi=>f.getD i .non)=lR ltT f->EP X c y Q (.ref h1.objs.size) {s with heap:=(nI (h1.push (seqObj "list" a.toArray 0)) h1.objs.size a).update h1.objs.size (Obj.mapSeq λ_=>(p.map λi=>a.getD i Value.none).toArray),toks:=d}:=λp e L=>by
   have F: ∀i∈p,i<a.length:=λi q=>by simpa using e.mem_iff.mp q
   have M: ∃n,(nI (h1.push (seqObj "list" a.toArray 0)) h1.objs.size a).get? h1.objs.size=some (seqObj "list" #[] n):=by
    obtain⟨r,S⟩: ∃r,((h1.push (seqObj "list" a.toArray 0)).update h1.objs.size (Obj.mapSeq λ_=>(#[]:Array Value))).get? h1.objs.size=some (seqObj "list" #[] r):=⟨_,uJ t λ_=> #[]⟩
    exact⟨r,iA _ (iA _ S)⟩
   obtain⟨n,M⟩:=M;obtain⟨E,W⟩: ∃E,((nI (h1.push (seqObj "list" a.toArray 0)) h1.objs.size a).update h1.objs.size (Obj.mapSeq λ_=>(p.map λi=>a.getD i Value.none).toArray)).get? h1.objs.size=some (seqObj "list" (p.map λi=>a.getD i Value.none).toArray E):=⟨_,uJ M λ_=>(p.map λi=>a.getD i Value.none).toArray⟩
   have g: ∀b o,h1.get? b=some o->((nI (h1.push (seqObj "list" a.toArray 0)) h1.objs.size a).update h1.objs.size (Obj.mapSeq λ_=>(p.map λi=>a.getD i Value.none).toArray)).get? b=some o:=λb o l=>by
    rw[Ef _ _ _ _ (iP (iJ l))];exact keep b o l
   have pl:p.length=a.length:=by simpa using e.length_eq
   refine⟨.ref h1.objs.size,_,C.laid (t':=d) g (iY _) (show ObjOk X.prog X.w _ _ _ (.lst (p.map λi=>N.getD i .non)) from⟨by rw[jm];omega,_,E,CQ v p F,W⟩),rfl,?_⟩;refine G.lst C.fresh ?_;rw[<-L];exact Dc u p λi q=>by have:=F i q;omega
  rcases HP J with hlen|⟨k,B⟩
  ·refine rQ (κ:=general') (lt:=λ_ _=>false) (s:={s with heap:=h1.push (seqObj "list" a.toArray 0),toks:=d}) t (by omega) (λ_ _ _=>rfl) (λ_ _=>rfl) (λh=>by omega) (λh=>by omega) λp e _=>⟨_,rfl,gE ⟨_,rfl,fin p e ?_⟩⟩
   exact Fd (by omega) hlen e
  ·refine rQ (κ:=Hg k) (lt:=λi j=>ltT (f.getD i .non) (f.getD j .non)) (s:={s with heap:=h1.push (seqObj "list" a.toArray 0),toks:=d}) t (by omega) (λ_ _=>UH _ _) Tn (λh=>R5 U u v B h) (λ_=>UG (A:=X.A.in1.in1) U (by show X.A.units+1+1+60<cLine;omega) u v B) λp e L=>⟨_,rfl,gE ⟨_,rfl,fin p e (HN B.pr (by rw[show f.length=a.length by omega];exact e) L)⟩⟩
def mW(j:X.A.units+62<cLine):ju X (.builtin "sorted") (rDn X.K (g1 mT)):=nG λc s y H x u Q O d z I t np hd a G=>by
 obtain⟨l,g,a⟩:=gh a
 have N:l.length<=sizeLine:=by
  unfold kH at a;exact(hV a).1.2
 cases d with
 |lst m=>
  cases g;obtain⟨p,M,rfl,q,r⟩:=jD hd;cases t;obtain⟨i,v,L,_⟩:=I.list q;have E:=r.length;have J:=v.length;obtain⟨o,h,f,n,hd⟩:=L.isList;refine qF j I r v a G λC B w _ e=>Ee p (.inl rfl) h f hd (λb k=>by simpa using e b s.toks k) (by rw[je];omega)
 |tup m=>
  cases g;obtain⟨p,M,rfl,q,r⟩:=lb hd;cases t;obtain⟨i,v,⟨o,h,f,n,hd⟩,_⟩:=I.tuple q;have E:=r.length;have J:=v.length;refine qF j I r v a G λC B w _ e=>Ee p (.inr rfl) h f hd (λb k=>by simpa using e b s.toks k) (by rw[je];omega)
 |_=>cases g
def IL:bootBuiltins "sorted"=some (.builtin "sorted"):=by decide+kernel
end
def mq:bootBuiltins "isinstance"=some (.builtin "isinstance"):=by decide+kernel
structure Tx(mg:jX):Prop where
 n_len:mg "len"=none
 n_abs:mg "abs"=none
 n_int:mg "int"=none
 n_tuple:mg "tuple"=none
 n_list:mg "list"=none
 n_range:mg "range"=none
 n_isinstance:mg "isinstance"=none
 n_bool:mg "bool"=none
 n_max:mg "max"=none
 n_min:mg "min"=none
 n_all:mg "all"=none
 n_any:mg "any"=none
 n_sorted:mg "sorted"=none
 n_enumerate:mg "enumerate"=none
 n_zip:mg "zip"=none
 n_set:mg "set"=none
def Oe{P:gS}{w:gO}{K:gK}{g:jX}{base:gL}{f:gm}{d:kY}{i:iw}{k:Nat}:FnOk P w K g base CX0 k f d i (spF K λ_=>none) where
 len:=λj H Q E h=>by
  obtain⟨T,a,r,b,_,e,_⟩:=h;cases e
 run:=λA c s H a l j Q E _ _ _ _ h=>by
  obtain⟨T,a,r,b,_,e,_⟩:=h;cases e
theorem Af{K:gK}{H:Hp}{O:AP'}: ∀a:List Int,RepL K H O (a.map .int) (a.map V.int)
 |[]=>RepL.nil
 |n::a=>RepL.cons Rep.mkInt (Af a)
def vE(d e:CmpOp)(a b c:FO):F:=λf=>(a f).bind λp=>(b p.2).bind λq=>match res q.2 p.1,res q.2 q.1 with
 |some (.int i),some (.int j)=>if jF d i j=true then(c q.2).bind λr=>match res r.2 r.1 with
   |some (.int k)=>some ((.bl (jF e j k),false),r.2)
   |_=>none
  else some ((.bl false,false),q.2)
 |_,_=>none
section
variable {X:Cx}{a b c:gw}{m l g:FO}{n:Pos}{d f:CmpOp}
def G6(h:uh d):OpR X (compareOp d) (rI0 λi j=> .bl (jF d i j)):=by
 rcases h with rfl|rfl|rfl|rfl
 ·exact Ub
 ·exact Uc
 ·exact Ud
 ·exact Ue
def IF(A:tF X.K (vE d f m l g) σ H Q):J1 (rI0 λi j=> .bl (jF d i j)) (rI0 λi j=> .bl (jF f i j)) (tO X.K m) (tO X.K l) (tO X.K g) σ H Q:=by
 obtain⟨N,T,F,O,E,e,k⟩:=A;unfold vE at e;obtain⟨⟨x,p⟩,h1,e⟩:=gh e;obtain⟨⟨L,q⟩,y,e⟩:=gh e;refine⟨N,T,x,p,E,h1,λv U h=>⟨p,zo T x v,L,q,h.er E,y,λu Y o=>?_⟩⟩;have B:=Ops.cons E h (Ops.cons (h.er E) o (Ops.nil (o.er (h.er E))));dsimp only at e;split at e
 ·rename_i i j C G;have hv:=gY (B.view (j:=0) rfl rfl C);have t:=gY (B.view (j:=1) rfl rfl G);refine⟨i,j,hv,t,jF d i j,rfl,?_⟩;by_cases c:jF d i j=true
  ·rw[gF c] at e ⊢;obtain⟨⟨M,r⟩,z,e⟩:=gh e;dsimp only at e;split at e
   ·rename_i J I;obtain⟨rfl,rfl⟩:=gM e;refine⟨q,_,M,r,o.er (h.er E),z,λw D P3=>?_⟩;have s:=Ops.cons E h (Ops.cons (h.er E) o (Ops.cons (o.er (h.er E)) P3 (Ops.nil (P3.er (o.er (h.er E))))));exact⟨j,J,t,gY (s.view (j:=2) rfl rfl I),(s.done k).bl⟩
   ·cases e
  ·rw[hJ c] at e ⊢;obtain⟨rfl,rfl⟩:=gM e;exact(B.done k).bl
 ·cases e
def Kw(o:uh d)(e:uh f)(h:PO X a m)(i:PO X b l)(j:PO X c g)(k:lastMarks [d,f] [b,c]=false:=by with_unfolding_all rfl):PX X (.Compare a [d,f] [b,c] n) (vE d f m l g):=
 PX.imp (La (G6 o) (G6 e) h i j k) λq H Q p=>IF p
end
def vIs(x:V)(c:Bool):Bool:=match x with
 | .bl b=>b==c
 |_=>false
def gIs:D->D->Option (D×Bool)
 | .bl b,.bl c=>some (.bl (b==c),false)
 |_,.bl _=>some (.bl false,false)
 | .non,.non=>some (.bl true,false)
 |_,.non=>some (.bl false,false)
 |_,_=>none
section
variable {X:Cx}
def MN(a:RelV x v)(c:Bool):plainIs v (.bool c)=true/\(v== .bool c)=vIs x c:=by
 cases x<;>first
  |(cases a;exact⟨rfl,rfl⟩)
  |(obtain⟨t,rfl⟩:=a;exact⟨rfl,rfl⟩)
  |(rename_i b;cases a;refine⟨rfl,?_⟩;cases b<;>cases c<;>rfl)
def Lj:OpR X (compareOp .Is) (λx y H Q=> ∃c,y= .bl c/\Q (.bl (vIs x c)) H):=by
 intro a s f H x y v u Q I d e h;obtain⟨c,rfl,q⟩:=h;cases e;obtain⟨h1,b⟩:=MN d c;exact wpAny_is_plain h1 (Ma I q (by rw[b]))
theorem yb{K H}(h:jq K H O (.bl b) v):v= .bl b:=h.elim (λh=>h.bl) λ⟨_,_,h⟩=>h.elim
theorem vf{K H}(h:jq K H O .non v):v= .non:=h.elim (λh=>h.non) λ⟨_,_,h⟩=>h.elim
theorem JQ{K H}(h:jq K H O d v)(f: ∀b,d≠ .bl b)(c:Bool):vIs v c=false:=by
 cases d with
 |bl b=>exact absurd rfl (f b)
 |non=>rw[vf h];rfl
 |int i=>rw[gY h];rfl
 |str x=>
   rcases h with h|⟨a,_,h⟩
   ·rw[h.str];rfl
   ·exact h.elim
 |tup l=>
   rcases h with h|⟨a,_,h⟩
   ·rw[Rep] at h;obtain⟨a,e,rfl,_⟩:=h;rfl
   ·exact h.elim
 |lst l=>
   rcases h with h|⟨a,rfl,h⟩
   ·rw[Rep] at h;obtain⟨a,e,rfl,_⟩:=h;rfl
   ·rfl
 |oth _ _ _=>
   rcases h with h|⟨a,rfl,h⟩
   ·rw[Rep] at h;obtain⟨a,e,rfl,_⟩:=h;rfl
   ·rfl
theorem CP{K H}(h:jq K H O d v)(e:d≠ .non):v≠ .non:=by
 cases d with
 |bl b=>rw[yb h];intro z;cases z
 |non=>exact absurd rfl e
 |int i=>rw[gY h];intro z;cases z
 |str x=>
   rcases h with h|⟨a,_,h⟩
   ·rw[h.str];intro z;cases z
   ·exact h.elim
 |tup l=>
   rcases h with h|⟨a,_,h⟩
   ·rw[Rep] at h;obtain⟨a,c,rfl,_⟩:=h;intro z;cases z
   ·exact h.elim
 |lst l=>
   rcases h with h|⟨a,rfl,h⟩
   ·rw[Rep] at h;obtain⟨a,c,rfl,_⟩:=h;intro z;cases z
   ·intro z;cases z
 |oth _ _ _=>
   rcases h with h|⟨a,rfl,h⟩
   ·rw[Rep] at h;obtain⟨a,c,rfl,_⟩:=h;intro z;cases z
   ·intro z;cases z
def RC:OpR X (compareOp .Is) (rD X.K gIs):=by
 intro a s l H x y v u Q I j k h;obtain⟨O,d,e,z,np,h1,n,g,G⟩:=h
 cases e with
 |bl c=>
  have i:=yb n;by_cases f: ∃b,d= .bl b
  ·obtain⟨b,rfl⟩:=f;cases g;refine Lj a s l H x y v u Q I j k ⟨c,i,?_⟩;rw[yb h1];exact G.bl
  ·have o: ∀b,d≠ .bl b:=λb z=>f ⟨b,z⟩;have m:z=(.bl false,false):=by cases d<;>first|exact absurd rfl (o _)|(cases g;rfl)
   subst m;refine Lj a s l H x y v u Q I j k ⟨c,i,?_⟩;rw[JQ h1 o c];exact G.bl
 |non=>
  have i:=vf n;by_cases f:d= .non
  ·subst f;cases g;refine Li a s l H x y v u Q I j k ⟨i,?_⟩;rw[vf h1];exact G.bl
  ·have m:z=(.bl false,false):=by cases d<;>first|exact absurd rfl f|(cases g;rfl)
   subst m;refine Li a s l H x y v u Q I j k ⟨i,?_⟩;rw[ou (CP h1 f)];exact G.bl
 |_=>cases d<;>cases g
end
end PX
namespace HT
open PySem PySem.Spec PyProof.Rows L2
section
variable {a:gS}{w:gO}{A:gR}{E:hZ}{s:gu}
def FV{t d:gm}{b:lA}{i j:gz}{lo e:Option Int}{Q:hZ}(c:IsTup s.heap t b)(f:s.heap.IsSliceOf d i j .none)(n:IsPart i lo)(o:IsPart j e)
  (g:sIx b.size 0 lo=0/\sIx b.size b.size e=b.size)(h:Q (.ref t) s):wpAny (model a w) A (getItem (.ref t) (.ref d)) Q E s:=by
 obtain⟨os,p,k,q⟩:=id f;have l:s.TypeIs (.ref d) "slice":=⟨os,p,k⟩
 unfold getItem
 try with_reducible refine lO ?_
 first|refine gq (gE ?_)|skip
 refine gq (ED c.typeIs (by decide) ?_)
 refine gq (tu (name:=Str.ofString "__getitem__") c.typeIs xj
  (pY xj c.typeIs EC ?_ (EB _ _)))
 show wpAny _ _ (Builtin.Tuple.tupleItemsOf (.ref t)>>=_) _ _ s;refine gq (EA c ?_);refine gq (tm l ?_);rw[gF (by decide)];refine gq (oA f n o ?_);rw[g.1,g.2];show wpAny _ _ (if((((0:Nat):Int)==0&&(1:Int)==1&&(b.size-0)==b.size)=true) then _ else _) _ _ s;rw[gF (by simp)];refine gq (m:=Builtin.Tuple.tupleIsExact _) ?_;unfold Builtin.Tuple.tupleIsExact;refine gq (tm c.typeIs ?_);refine gE ?_;rw[gF (by decide)];refine gq (rJ ?_)
 first
  |exact gq (gE ⟨_,rfl,gE h⟩)
  |exact gE ⟨_,rfl,gE h⟩
  |exact gq (gE (gE ⟨_,rfl,gE h⟩))
  |(refine gq ?_;trace_state;done)
end
end HT
namespace PX
open PySem PySem.Spec PyProof.Rows L2 PySem.SeqAt
def oP(l:List D)(lo a:Option Int):List D:=(l.drop (HT.sIx l.length 0 lo)).take (HT.sIx l.length l.length a-HT.sIx l.length 0 lo)
def gSl(lo a:Option Int):D->Option (D×Bool)
 | .tup l=>some (.tup (oP l lo a),false)
 | .lst l=>some (.lst (oP l lo a),true)
 |_=>none
def VQ(K:gK):V->Option Int->Option Int->Hp->VK->Prop:=λx lo a H Q=> ∃(O:AP') (d:D) (z:D×Bool),(∀p,¬Ow (H p)-> ¬O p)/\jq K H O d x/\gSl lo a d=some z/\Gen K H O z Q
def RepL.cut{K H}(r:RepL K H O l xs)(lo a:Option Int):RepL K H O (oP l lo a) (DS xs lo a):=by
 unfold oP DS;rw[r.length];exact(r.drop _).take _
section
variable {X:Cx}
def C3{b:hG}{s:gu}{h:L2.St}{H:Hp}{a:gm}{v e f:gz}{lo c:Option Int}{d:gm}{Q:VK}{O:AP'}{l:List D}{g:List V}(I:Inv X b h H s)(n:RelV (.ref a) v)(j:s.heap.IsSliceOf d e f .none)(k:IsPart e lo)(m:IsPart f c)
  (q:SqL X.K H a g)(r:RepL X.K H O l g)(G:Gen X.K H O (.lst (oP l lo c),true) Q): ∃T id,typeLookup (.type T) "__getitem__"=pure (some (.builtin id))/\s.TypeIs v T/\wpAny (model X.prog X.w) X.A (getItem v (.ref d)) (EP X b h Q) X.xe s:=
 MQ b s h H (.ref a) v e f lo c d Q I n j k m ⟨a,g,rfl,q,λp i=>G.lst i (r.cut lo c)⟩
def TL:SlR X (VQ X.K):=by
 intro f s E H x v B C lo g A Q I n i k m h;obtain⟨O,d,z,np,hd,o,G⟩:=h
 cases d with
 |tup l=>
  cases o;rcases hd with hd|⟨a,_,h⟩
  ·obtain⟨a,b,rfl,q,r⟩:=hd.tup;by_cases j:HT.sIx b.length 0 lo=0/\HT.sIx b.length b.length g=b.length
   ·cases n;obtain⟨t,y,w,J⟩:=I.tuple q.sq;have c:t.toArray.size=b.length:=by rw[je];exact y.length.symm
    refine⟨"tuple",_,xj.lookup,w.typeIs,?_⟩;refine HT.FV w i k m (by rw[c];exact j) ⟨.ref a,H,I,rfl,?_⟩
    have e:oP l lo g=l:=by
     unfold oP;rw[<-r.length,j.1,j.2];simp[r.length]
    rw[e] at G;exact G (.ref a) H (λ_ _ e=>e) hd
   ·exact Qd f s E H (.ref a) v B C lo g A Q I n i k m ⟨a,b,rfl,q.sq,j,λp u=>G.tup u (np p (nOw u)) (r.cut lo g)⟩
  ·exact h.elim
 |lst l=>
  cases o;rcases hd with hd|⟨a,rfl,h⟩
  ·obtain⟨a,b,rfl,q,r⟩:=hd.lst;exact C3 I n i k m q.sq r G
  ·obtain⟨b,e,r⟩:=h;exact C3 I n i k m (.inl (.inl e)) r G
 |_=>cases o
end
def wj(a b:FO):F:=λδ=>(a δ).bind λp=>(b p.2).bind λq=>match res q.2 q.1 with
 |some (.int i)=>(res q.2 p.1).bind λx=>(gSl (some i) none x).bind λz=>some (z,q.2)
 |_=>none
def qr(a b:FO):F:=λδ=>(a δ).bind λp=>(b p.2).bind λq=>match res q.2 q.1 with
 |some (.int i)=>(res q.2 p.1).bind λx=>(gSl none (some i) x).bind λz=>some (z,q.2)
 |_=>none
section
variable {X:Cx}{a lo b:gw}{d g h:FO}{c f:Pos}
def M6(s:PO X a d)(t:PO X lo g):PX X (.Subscript a (.Slice (some lo) none none f) c) (wj d g):=
 PX.imp (Dj TL s (GW t) GX) λO H Q y=>by
  obtain⟨I,T,N,J,E,e,k⟩:=y;unfold wj at e;obtain⟨⟨q,l⟩,h1,e⟩:=gh e;obtain⟨⟨G,n⟩,r,e⟩:=gh e;dsimp only at e;split at e
  ·rename_i i b;obtain⟨x,A,e⟩:=gh e;obtain⟨z,C,e⟩:=gh e;obtain⟨rfl,rfl⟩:=gM e;refine⟨I,T,q,l,E,h1,λv L m=>⟨l,zo T q v,G,n,m.er E,r,λu M o=>?_⟩⟩;have B:=Ops.cons E m (Ops.cons (m.er E) o (Ops.nil (o.er (m.er E))));exact⟨i,gY (B.view (j:=1) rfl rfl b),_,x,z,λp w=>B.np w,B.view (j:=0) rfl rfl A,C,B.done k⟩
  ·cases e
def M7(s:PO X a d)(t:PO X b h):PX X (.Subscript a (.Slice none (some b) none f) c) (qr d h):=
 PX.imp (Dj TL s GX (GW t)) λO H Q y=>by
  obtain⟨I,T,N,J,E,e,k⟩:=y;unfold qr at e;obtain⟨⟨q,l⟩,h1,e⟩:=gh e;obtain⟨⟨G,n⟩,r,e⟩:=gh e;dsimp only at e;split at e
  ·rename_i i b;obtain⟨x,A,e⟩:=gh e;obtain⟨z,C,e⟩:=gh e;obtain⟨rfl,rfl⟩:=gM e;refine⟨I,T,q,l,E,h1,λv L m=>⟨l,zo T q v,G,n,m.er E,r,λu M o=>?_⟩⟩;have B:=Ops.cons E m (Ops.cons (m.er E) o (Ops.nil (o.er (m.er E))));exact⟨i,gY (B.view (j:=1) rfl rfl b),_,x,z,λp w=>B.np w,B.view (j:=0) rfl rfl A,C,B.done k⟩
  ·cases e
end
end PX
namespace L2
open PySem PySem.Spec PyProof.Rows
section
variable {X:Cx}
def TF(J:It)(g:TG)(b:TT)(a:Addr->TB)(pre:St->St)(c:St)(H:Hp)(Q:VK):Prop:=GB (.set (λ_=>false) 0) J g b a pre c H Q
def BE(c:TI)(g:TG)(ti:TT)(tb:Addr->TB)(pre:St->St):TE:=λa H Q=>c a H λJ b=>TF J g ti tb pre a b Q
def K6{e:gw}{c:pM}{iu:om}{scope:iq}{f:Pos}{r:iw}{pre:St->St}{B:TI}{g:TG}{ti:TT}{tb:Addr->TB}
  (S:CompScope X r scope pre)(hc:X.calm=true)(ha:c.is_async=0)(l5: ∀y,iu[0]?=some y->y.is_async=0)
  (hs: ∀x,foldedSetIterable c.iter X.env x=pure x)(pi:PI X c.target c.iter B)
  (r6: ∀(cl:jy) (C:gm) (z:gu) (l:Hp) (u:ji) (a:hG),let i:=X.comp r scope cl C z l u a
   PG i c.target g/\PIf i c.ifs ti/\ ∀d,PB i (iR (.SetComp e (c::iu) scope f) 0 (.ref d) i.env) (tb d)):
  PE X (.SetComp e (c::iu) scope f) (BE B g ti tb pre):=by
 intro a s E H Q I h;obtain⟨tg,t,k,N⟩:=c;obtain rfl:N=0:=ha;obtain⟨cl,Z,V,W⟩:=pK X.env scope λx R F=>I.ok.has x.1 (S.free x R F);rw[arm_eval_SetComp];show wpAny _ X.A (comprehension _ scope X.env _ (newSet (.type "set")) false (eval t X.env)) _ _ s;refine Es (use:=none) (g:=⟨tg,t,k,0⟩) (gs:=iu) rfl hs Z S.kind S.names (thn (pi a s E H _ I h) λv s1 h1=>thn h1 λcW s2 Y=>?_);obtain⟨it,u,tn,J,H2,rfl,n,T,M,f2,P⟩:=Y;refine wpAny_newSet_of (knd:=intKind X.prog X.w) λled D=>?_;refine vG (RR:=λj C=>compPost (model X.prog X.w) X.A X.xe none (EP X a E Q) j C) (.inr ⟨_,_,_,_,rfl⟩) rfl S hc rfl l5 r6 V W n T M f2 (n.laid (t':=s2.toks) (o:= .set (λ_=>false) 0) (λb ob q=>iA _ q) (iY _) D) P λd O z l G σ' s4 L U p q=>?_;obtain⟨m,K,_⟩:=id p.loc;exact⟨m,K,λh' v5=>⟨.ref d,G,yW L U p v5,rfl,q⟩⟩
def P8(d:gm)(e:TE):TB:=λc H N=>e c H λy a=> ∃k S n,y= .int k/\a d=some (.set S n)/\n+1<scanBound/\N c (upd a d (.set (λb=>S b||decide (b=k)) (if S k then n else n+1)))
def Ld{a:gw}{c:om}{j:iq}{p:Pos}{depth:Nat}{d:gm}{l:TE}(E:c[depth+1]?=none)(C:PE X a l):PB X (iR (.SetComp a c j p) depth (.ref d) X.env) (P8 d l):=by
 intro f s m H N I h
 have r:iR (.SetComp a c j p) depth (.ref d) X.env=(do let v <-eval a X.env;standAt a.pos;let _ <-call (.builtin "set.add") [.ref d,v]):=by
  unfold iR;simp only[clausesOf];rw[E]
 rw[r];refine gq (thn (C f s m H _ I h) λu s1 ⟨y,Q,g,M,k,S,n,z,hd,L,q⟩=>?_);subst z;obtain⟨t,rfl⟩:=M;have A:s1.heap.SetOf (intKind X.prog X.w) d S n:=g.hok d _ hd;refine gq (xh (gq (call_set_add (knd:=intKind X.prog X.w) (k:=k) (intKind_is _ _ k t) rfl A L λT O i=>gE ⟨m,_,?_,q⟩)));refine g.write (x:=d) (e:=d) (by rw[hd];exact trivial) (.inl rfl) (λb u B J=>by rw[O.2 b B];exact J) ?_ i;obtain⟨o,_,_,_,G,_⟩:=i;exact⟨o,G⟩
end
end L2
namespace PX
open PySem PySem.Spec PyProof.Rows L2 PySem.SeqAt
def zg(f:F):FB:=λa b=>(f b).bind λp=>match p.1.1 with
 | .int k=>if a.length+1<scanBound then some (a++[.int k],p.2) else none
 |_=>none
section
variable {X:Cx}{A:iK}{d:gm}{c:gw}{f:F}
def Ih{j:om}{O:iq}{p:Pos}{depth:Nat}(E:j[depth+1]?=none)(y:PX X c f):PB X (iR (.SetComp c j O p) depth (.ref d) X.env) (tBx true X.K A d (zg f)):=PB.imp' (Ld E y) λm H N G=>by
 obtain⟨w,T,g,Y,Q,B,e,k⟩:=G;obtain⟨⟨r,h⟩,h1,e⟩:=gh e;obtain⟨J,L⟩:=r
 cases J with
 |int i=>
  obtain⟨U,e⟩:=hV e;obtain⟨rfl,rfl⟩:=sZ e;refine⟨w,T,(.int i,L),h,B.er,h1,λv s P=>?_⟩;obtain⟨q,M⟩:=P.rep B.er;have hv:v= .int i:=M.int;have t:SK A m w H m h s:=P.1.sk;have x:=B.step t q;have C:=GG g (λ_=>false,0);refine⟨i,_,_,hv,x.at',by unfold lU;omega,k m _ ?_ ?_⟩
  ·have:SKd A d m h s m h (upd s d (.set (λu=>(lU g).1 u||decide (u=i)) (if(lU g).1 i then(lU g).2 else(lU g).2+1))):=⟨λa o e n I=>by rw[gQ I];exact e,λi a z=> .inl z,λa z=>by
    by_cases l:a=d
    ·subst l;rw[gU];simp
    ·rw[gQ l];exact z,λ_ _=>rfl⟩
   exact t.skd.trans this
  ·refine⟨q.mono (λb o e n=>by rw[gQ (by intro z;subst z;exact n B.td)];exact e) (λ_ _ z=>z) (λa z=>?_),B.td,?_⟩
   ·by_cases l:a=d
    ·subst l;rw[gU];trivial
    ·rw[gQ l];exact q.dom a z
   ·show upd _ _ _ _=_;rw[gU,Ac]
 |_=>cases e
end
def qY(b:iI)(k:Nat)(d:FIt)(e:Tg)(ti:FT)(c:FB):F:=λf=>(d f).bind λp=>(iN p.2 (b.map .slot)).bind λa=>
 if(gP (b.map .slot) a).Nodup then(jI e ti c p.1 [] (a.map some++List.replicate k none)).bind λq=>some ((.int (lU q.1).2,false),wb (b.map .slot) a (gZ a q.2) p.2) else none
def IE{K:gK}{b:iI}{k:Nat}{f:FIt}{g:Tg}{ti:FT}{e:FB}{j:L2.St}{H:Hp}{Q:VK}(h:tF K (qY b k f g ti e) j H Q):
  BE (tI K (λi=>i∉b) f) (tG K (λi=>b.length<=i) g) (tT K ti) (λd=>tBx true K (λi=>b.length<=i) d e) (wz b k) j H (λx c=> ∃S n,∃a,x= .ref a/\c a=some (.set S n)/\Q (.int n) c):=AE (S:=true) h
section
variable {X:Cx}{j:gw}{c:pM}{iu:om}{scope:iq}{f l p:Pos}{G:iw}{b:iI}{k:Nat}{B:FIt}{y:Tg}{ti:FT}{A:FB}
def IJ:ju X (.builtin "len") (λi H Q=> ∃S n,∃a,i=[.ref a]/\H a=some (.set S n)/\Q (.int n) H):=by
 intro g s M H i L Q I r h;obtain⟨S,n,a,rfl,e,q⟩:=h;obtain⟨u,rfl,C⟩:=pP r;cases C;obtain⟨o,m,E,t,z,hex,hd,_,_,J,v,x⟩:=(show s.heap.SetOf (intKind X.prog X.w) a S n from I.hok a _ e)
 have d:(m.size:Int)<2^63:=by
  have:scanBound=4096:=rfl;omega
 refine call_len_set z hex hd v d ⟨.int n,H,?_,⟨_,by rw[x]⟩,q⟩;exact(I.tok _)
def HU{z:Str}(C:CompOk X G scope b k)(hc:X.calm=true)(ha:c.is_async=0)(l5: ∀N,iu[0]?=some N->N.is_async=0)
  (hs: ∀x,foldedSetIterable c.iter X.env x=pure x)(pi:PIX X (λi=>i∉b) c.target c.iter B)
  (r6: ∀(cl:jy) (C:gm) (s3:gu) (H3:Hp) (fp:ji) (o:hG),let r:=X.comp G scope cl C s3 H3 fp o
   PGX r (λi=>b.length<=i) c.target y/\PIf r c.ifs (tT X.K ti)/\ ∀d,PB r (iR (.SetComp j (c::iu) scope f) 0 (.ref d) r.env) (tBx true X.K (λi=>b.length<=i) d A))
  (hg:Gl X z)(hm:X.mg z=none)(hv:bootBuiltins z=some (.builtin "len"))(hn:z≠"__name__")(j5:(z==("__debug__":Str))=false)
  (h1:starEach [.SetComp j (c::iu) scope f] X.env=(false,eval (.SetComp j (c::iu) scope f) X.env)::starEach [] X.env)(i6:(backTo l (starEach [] X.env)).any (·.1)=false):
  PX X (.Call (.Name z p) [.SetComp j (c::iu) scope f] [] l) (qY b k B y ti A):=
 PX.imp (qf IJ hg hm hv (ke (K6 (g:=tG X.K (λi=>b.length<=i) y) (ti:=tT X.K ti) (tb:=λd=>tBx true X.K (λi=>b.length<=i) d A) C.sco hc ha l5 hs pi r6) nv h1) hn j5 h1 i6) λO H Q h=>by
  have q:=IE h
  have mono: ∀{t u:VK},(∀v H,t v H->u v H)->BE (tI X.K (λi=>i∉b) B) (tG X.K (λi=>b.length<=i) y) (tT X.K ti) (λd=>tBx true X.K (λi=>b.length<=i) d A) (wz b k) O H t->BE (tI X.K (λi=>i∉b) B) (tG X.K (λi=>b.length<=i) y) (tT X.K ti) (λd=>tBx true X.K (λi=>b.length<=i) d A) (wz b k) O H u:=by
   rintro t u hq ⟨δ,T,ds,I,E,h1,kk⟩;refine⟨δ,T,ds,I,E,h1,λJ M D U ok d hd=>?_⟩;obtain⟨W,F,step⟩:=kk J M D U ok d hd;refine⟨W,F,λi m L Y w=>?_⟩;rcases step i m L Y w with⟨s1,s2⟩|s
   ·exact .inl ⟨s1,hq _ _ s2⟩
   ·exact .inr s
  exact mono (λv M ⟨S,n,a,e,h2,h3⟩=>⟨S,n,a,by rw[e],h2,h3⟩) q
end
end PX
namespace HT
open PySem PySem.Spec PyProof.Rows L2
section
variable {a:gS}{w:gO}{A:gR}{E:hZ}{s:gu}
theorem Gi(n:Nat):Builtin.Slice.sliceAdjust none none (-1) (n:Int)=((n:Int)-1, -1):=by
 unfold Builtin.Slice.sliceAdjust;rfl
theorem Fp(n:Nat):Builtin.Slice.slicePlaces ((n:Int)-1) (-1) (-1)=n:=by
 unfold Builtin.Slice.slicePlaces;rw[hJ (by decide)];by_cases h:n=0
 ·subst h;rfl
 ·rw[gF (by omega)];simp only[Int.neg_neg,Int.ediv_one];omega
theorem L7{b c:Type}{f:b->Option c}{g:b->c}: ∀{l:List b},(∀m∈l,f m=some (g m))->l.filterMap f=l.map g
 |[],_=>rfl
 |x::l,h=>by rw[List.filterMap_cons_some (h x (jB ..)),jw,L7 λm d=>h m (jA _ d)]
theorem KQ(b:lA):((List.range b.size).filterMap λ(m:Nat)=>b[((b.size:Int)-1+(m:Int)*(-1)).toNat]?).toArray=b.toList.reverse.toArray:=by
 congr 1
 have e:(List.range b.size).filterMap (λ(m:Nat)=>b[((b.size:Int)-1+(m:Int)*(-1)).toNat]?)=(List.range b.size).map λm=>b.toList.reverse.getD m .none:=by
  refine L7 λm c=>?_;have c:=CD.1 c;have:((b.size:Int)-1+(m:Int)*(-1)).toNat=b.size-1-m:=by omega
  rw[this];have f:b.size-1-m<b.size:=by omega
  simp[c,f,List.getElem_reverse]
 rw[e];apply uO;intro i;by_cases d:i<b.size
 ·simp[d]
 ·simp[d]
def vn{d:gm}{t:Tok}{n:Nat}{Q:Int×Int×Nat->Shared->Prop}(f:s.heap.IsSliceOf d .none .none (.int (-1) t))
  (h:Q ((n:Int)-1, -1,n) s):wpAny (model a w) A (Builtin.Slice.sliceApplied (.ref d) (pure (n:Int))) Q E s:=by
 obtain⟨os,c,g,b⟩:=id f;unfold Builtin.Slice.sliceApplied Builtin.Slice.sliceFields;refine gq (gq (lN c b (x:= .none) rfl (gq (lN c b (x:= .none) rfl (gq (lN c b (x:= .int (-1) t) rfl (gE ?_)))))));refine gq (slicePart_int ?_);show wpAny _ _ (if((-1:Int)==0)=true then _ else _) _ _ s;rw[hJ (by decide)];refine gq (Bj (gq (Bj (gq (gE ?_)))));show wpAny _ _ (match Builtin.Slice.sliceAdjust none none (-1) (n:Int) with|(lo,e)=>pure (lo,(-1:Int),Builtin.Slice.slicePlaces lo e (-1))) _ _ s;rw[Gi n];show wpAny _ _ (pure ((n:Int)-1,(-1:Int),Builtin.Slice.slicePlaces ((n:Int)-1) (-1) (-1))) _ _ s;rw[Fp];exact gE h
def FR(b:IsTup s.heap t items)(e:s.heap.IsSliceOf f .none .none (.int (-1) u))
  (h:Q (.ref s.heap.objs.size) {s with heap:=s.heap.push {cls:= .type "tuple",data:= .seq items.toList.reverse.toArray}})
  (d:items.size<=sizeLine):wpAny (model a w) A (getItem (.ref t) (.ref f)) Q E s:=by
 have c:sizeOk (.seq items.toList.reverse.toArray):=by
  show items.toList.reverse.toArray.size<=sizeLine;rw[je,A6,ni];exact d
 obtain⟨os,j,g,k⟩:=id e;have i:s.TypeIs (.ref f) "slice":=⟨os,j,g⟩
 unfold getItem
 try with_reducible refine lO ?_
 first|refine gq (gE ?_)|skip
 refine gq (ED b.typeIs (by decide) ?_)
 refine gq (tu (name:=Str.ofString "__getitem__") b.typeIs xj
  (pY xj b.typeIs EC ?_ (EB _ _)))
 show wpAny _ _ (Builtin.Tuple.tupleItemsOf (.ref t)>>=_) _ _ s;refine gq (EA b ?_);refine gq (tm i ?_);rw[gF (by decide)];refine gq (vn e ?_);show wpAny _ _ (if((((items.size:Int)-1)==0&&(-1:Int)==1&&items.size==items.size)=true) then _ else _) _ _ s;rw[hJ (by simp),KQ]
 first
  |exact gq (m:=Builtin.Tuple.tupleExact _) (lE (gE ⟨_,rfl,gE h⟩) c)
  |exact gq (m:=Builtin.Tuple.tupleExact _) (lE (gq (gE (gE ⟨_,rfl,gE h⟩))) c)
  |exact gq (gq (m:=Builtin.Tuple.tupleExact _) (lE (gE (gE ⟨_,rfl,gE h⟩)) c))
  |exact gq (gq (m:=Builtin.Tuple.tupleExact _) (lE (gE ⟨_,rfl,gE h⟩) c))
end
end HT
namespace L2
open PySem PySem.Spec PyProof.Rows
section
variable {X:Cx}{e st:gw}{d c:TE}{f g:Pos}
def Va(K:gK)(d c:TE):TE:=λi H Q=>d i H λx j=>c i j λy b=>y= .int (-1)/\ ∃a h,x= .ref a/\SqT K b a h/\ ∀p,b p=none->Q (.ref p) (upd b p (.tup h.reverse))
def Di(M:PE X e d)(O:PE X st c):PE X (.Subscript e (.Slice none none (some st) g) f) (Va X.K d c):=by
 intro i s l H Q I h;refine Subscript_ (thn (M i s l H _ I h) λv s1 ⟨x,C,G,Y,U⟩=>?_);refine wpAny_Slice ?_;rw[Ez];refine gE (gE ?_);rw[evalPart_some];refine thn (O i s1 l C _ G U) λu j ⟨y,E,J,ry,L,a,B,ex,N,q⟩=>?_;subst L ex;obtain⟨t,rfl⟩:=ry;cases Y;have m:Inv X i l E {j with heap:=j.heap.push {cls:= .type "slice",data:= .fields #[.none,.none,.int (-1) t]}}:=J.kept (t':=j.toks) λb T q=>iA _ q;obtain⟨n,r,p,z⟩:=m.tuple N;have k:n.toArray.size=B.length:=by rw[je];exact r.length.symm
 show wpAny (model X.prog X.w) X.A (subscriptTail e (.Slice none none (some st) g) (.ref a) (.ref j.heap.objs.size)) (EP X i l Q) X.xe {j with heap:=j.heap.push {cls:= .type "slice",data:= .fields #[.none,.none,.int (-1) t]}};refine tail_any (ops:=[.ref a,.ref j.heap.objs.size]) p.typeIs xj.lookup (HT.FR p (Heap.IsSliceOf.new ..) ?_ (by rw[k];exact z)) (by with_unfolding_all rfl);refine⟨.ref _,_,m.laid (t':=j.toks) (o:= .tup B.reverse) (λb T q=>iA _ q) (iY _) ?_,rfl,q _ (m.hok.fresh (iY _))⟩;exact⟨by rw[A6];exact z,_,r.reverse,uX _ _⟩
end
end L2
namespace PX
open PySem PySem.Spec PyProof.Rows L2 PySem.SeqAt
def Uu:D->Option (D×Bool)
 | .tup l=>some (.tup l.reverse,false)
 |_=>none
theorem RepL.reverse{K H}{O:AP'}: ∀{l:List D} {a:List V},RepL K H O l a->RepL K H O l.reverse a.reverse
 |[],a,h=>by rw[RepL] at h;subst h;exact RepL.nil
 |d::l,a,h=>by
  rw[RepL] at h;obtain⟨v,r,rfl,h1,b⟩:=h;rw[xK,xK];exact(RepL.reverse b).append (RepL.one h1)
def Mc(a fs:FO):F:=λδ=>(a δ).bind λp=>(fs p.2).bind λq=>match res q.2 q.1 with
 |some (.int i)=>if i= -1 then(res q.2 p.1).bind λx=>(Uu x).bind λz=>some (z,q.2) else none
 |_=>none
section
variable {X:Cx}{a st:gw}{c fs:FO}{b d:Pos}
def QH(y:PO X a c)(C:PO X st fs):PX X (.Subscript a (.Slice none none (some st) d) b) (Mc c fs):=
 PX.imp (Di y C) λF H Q G=>by
  obtain⟨M,T,D,N,E,e,k⟩:=G;unfold Mc at e;obtain⟨⟨s,f⟩,h1,e⟩:=gh e;obtain⟨⟨J,h⟩,w,e⟩:=gh e;dsimp only at e;split at e
  ·rename_i i A;split at e
   case isFalse=>cases e
   rename_i t;subst t;obtain⟨x,I,e⟩:=gh e;obtain⟨z,o,e⟩:=gh e;obtain⟨rfl,rfl⟩:=gM e;refine⟨M,T,s,f,E,h1,λv O g=>⟨f,zo T s v,J,h,g.er E,w,λu U m=>?_⟩⟩;have B:=Ops.cons E g (Ops.cons (g.er E) m (Ops.nil (m.er (g.er E))));have hv:=B.view (j:=0) rfl rfl I;refine⟨gY (B.view (j:=1) rfl rfl A),?_⟩
   cases x with
   |tup l=>
    cases o;rcases hv with hv|⟨_,_,hv⟩
    ·obtain⟨p,L,rfl,q,r⟩:=hv.tup;exact⟨p,L,rfl,q.sq,λY n=>(B.done k).tup n (B.np (nOw n)) r.reverse⟩
    ·exact hv.elim
   |_=>cases o
  ·cases e
end
section
variable {b:iO}{a:Env}
end
end PX
namespace TT
open PySem
def S:Nat->Nat
 |0=>0
 |n+1=>5*S n+1
def ls(a:Nat)(h:Int):Nat->Nat×Nat
 |0=>(SetTable.bits h%(a+1),SetTable.bits h)
 |k+1=>SetTable.leap a (ls a h k).1 (ls a h k).2
def at_(a:Nat)(h:Int)(k t:Nat):SetTable.Probe:=⟨(ls a h k).1+t,SetTable.runEnd a (ls a h k).1-(ls a h k).1-t,(ls a h k).1,(ls a h k).2,none⟩
open PyProof.Rows PySem.SeqAt
section
variable {a:gS}{w:gO}{A:gR}{E:hZ}{s:gu}
end
section
variable {a:gS}{w:gO}{A:gR}{R:Result->Shared->Prop}{I:gm}{c b:ji}{G:Array GenState->Array GenState->Prop}{n:Nat}{P:Nat->Value->Prop}{St:Nat->Shared->Prop}
end
section
variable {a:gS}{w:gO}{A:gR}{E:hZ}{s:gu}
end
structure DRaw(h:gL)(d:gm)(es:Array DictEntry)(ep:Nat):Prop where
 at_: ∃o,h.get? d=some o/\o.ExactDict/\o.data= .dict es ep
def DRaw.stay{d b a}(x:DRaw h d b a)(k: ∀o,h.get? d=some o->c.get? d=some o):DRaw c d b a:=let⟨o,h1,r⟩:=x.at_;⟨o,k _ h1,r⟩
section
variable {prog:gS}{w:gO}{A:gR}{E:hZ}{s:gu}
def DRaw.typeIs{d b a}(x:DRaw s.heap d b a):s.TypeIs (.ref d) "dict":=let⟨o,h1,r,_⟩:=x.at_;⟨o,h1,r.1⟩
def Hk(hd:(d==sysModules)=false)(c:DRaw s.heap d g f)
  (h:Q (.ref s.heap.objs.size) {s with heap:=s.heap.push {cls:= .type "dict_keyiterator",data:= .fields #[.ref d,.int 0 0,.int g.size 0,.int f 0]}}):wpAny (model prog w) A (pyIter (.ref d)) Q E s:=by
 have a:=c.typeIs;obtain⟨o,e,i,b⟩:=c.at_;refine wpAny_pyIter_slot a Jg (pY Jg a PySem.F.entry_dict_iter ?_ (PySem.F.args_dict_iter_1 _));unfold Builtin.«dict.__iter__»;refine gq ?_;unfold Builtin.Dict.dictSlotNone;refine gq (Jf a ?_);change wpAny _ _ (pure (Value.ref d)) _ _ s;refine gE ?_;change wpAny _ _ (Builtin.Dict.showsAll d>>=_) _ _ s;unfold Builtin.Dict.showsAll;rw[hJ (by rw[hd];exact jT)];refine gq (gE ?_);refine gq (Ed e b ?_);refine gq (Eb e b ?_);refine gq (lE (gE ⟨_,rfl,"dict_keyiterator",_,⟨_,jr _ rfl,rfl⟩,zV.lookup,?_⟩));simpa[rawInt] using h
def yB{b d:gm}{i f:Nat}{c:Array DictEntry}{e:DictEntry}{Q:CC}(a:s.heap.IsKeyIter b d i c.size f)(q:DRaw s.heap d c f)(r:c[i]?=some e)
  (n: ∀g,g.IsKeyIter b d (i+1) c.size f->Heap.SameBut b s.heap g->Q (some e.key) {s with heap:=g}):wpAny (model prog w) A (pyNext (.ref b)) Q E s:=by
 obtain⟨o,h,p,hd⟩:=id a;obtain⟨u,j,t,l⟩:=q.at_;unfold pyNext;refine gq (sQ (tu (name:=Str.ofString "__next__") a.typeIs zV (pY zV a.typeIs Je ?_ (Jd _))));refine gq (gE ?_);refine gq ?_;refine gq ?_;refine gq (AS a.typeIs (gE ?_));refine gq (wpAny_fieldsOf h hd ?_);have m:Builtin.Dict_items.ownsTuple "dict_keyiterator"=false:=by decide
 simp only[m,jY,jl];change wpAny _ _ (if(Value.ref d==Value.none)=true then _ else _) _ _ s;rw[hJ (show ¬((Value.ref d==Value.none)=true) from jT)];refine gq (gE ?_);refine gq (Ed j l ?_);rw[hJ (by simp)];refine gq (gE ?_);refine gq (Eb j l ?_);rw[hJ (by simp)];refine gE ?_;simp only[show ¬((i:Int)<0) from by omega,jl,xN,r];refine gq ?_;refine gq (AS a.typeIs (gE ?_));refine gq (Jc a.typeIs ?_);change wpAny _ _ (setField (.ref b) 1 (rawInt ((i:Int)+1))>>=_) _ _ s;refine gq (Be h hd (by simp) ?_)
 have k:(s.heap.update b (Obj.mapFields (·.setIfInBounds 1 (rawInt ((i:Int)+1))))).IsKeyIter b d (i+1) c.size f:=
  ⟨_,xM _ h (Jo (Bc hd _)),(Obj.cls_mapFields ..).trans p,by rw[Bc hd];simp[rawInt]⟩
 refine gq (lO ?_);refine gq (Jc (s:={s with heap:=s.heap.update b (Obj.mapFields (·.setIfInBounds 1 (rawInt ((i:Int)+1))))}) k.typeIs ?_);change wpAny _ _ (pure e.key) _ _ _;exact gE (gE ⟨_,rfl,gE (n _ k (xa ..))⟩)
def zG(n:A.handled=none)(c:s.heap.IsKeyIter it d e.size e.size k)(p:DRaw s.heap d e k)
  (l: ∀h,Heap.ExtBut it s.heap h->Q none {s with heap:=h}):wpAny (model prog w) A (pyNext (.ref it)) Q E s:=by
 obtain⟨o,i,q,hd⟩:=id c;obtain⟨t,f,r,g⟩:=p.at_;unfold pyNext;refine gq (sQ (tu (name:=Str.ofString "__next__") c.typeIs zV (pY zV c.typeIs Je ?_ (Jd _))));refine gq (gE ?_);refine gq ?_;refine gq ?_;refine gq (AS c.typeIs (gE ?_));refine gq (wpAny_fieldsOf i hd ?_);have j:Builtin.Dict_items.ownsTuple "dict_keyiterator"=false:=by decide
 simp only[j,jY,jl];change wpAny _ _ (if(Value.ref d==Value.none)=true then _ else _) _ _ s;rw[hJ (show ¬((Value.ref d==Value.none)=true) from jT)];refine gq (gE ?_);refine gq (Ed f g ?_);rw[hJ (by simp)];refine gq (gE ?_);refine gq (Eb f g ?_);rw[hJ (by simp)];refine gE ?_;simp only[show ¬((e.size:Int)<0) from by omega,jl,xN,Array.getElem?_eq_none (iY e.size)];refine gq ?_;refine gq (AS c.typeIs (gE ?_));change wpAny _ _ (setField (.ref it) 0 .none>>=_) _ _ s;refine gq (Be i hd (by simp) ?_);change wpAny _ _ (newExc (.type "StopIteration") []>>=_) _ _ _;refine gq ?_;simp only[newExc,newTuple];refine gq (lE ?_ (by size_fits));refine gq (m:=firstArgMember _ _) (Bf (a:=Value.none) (by first|rfl|(simp only[firstArgMember];rfl)) ?_);refine lE ?_ (by size_fits);simp only[raiseNew];refine gq (wpAny_handled ?_);rw[show A.in1.handled=none from n];refine gq (gE (wpAny_throw ?_));refine gq (A8 (T:="StopIteration") (b:=true) ⟨_,jr _ rfl,rfl⟩ En ?_);exact gE (l _ (((xa ..).extBut.push _).push _))
def D5(p:A.handled=none)(I d:gm)(r:I≠d)(a:Array DictEntry)(k:Nat):Walks prog w A I [I,d] [I] a.size (λi v=> ∃e,a[i]?=some e/\v=e.key) (λi h=>h.IsKeyIter I d i a.size k/\DRaw h d a k) where
 sub:=λb c=>by simp at c;simp[c]
 frame:=λ_ _ _ st hk=>⟨st.1.at λo e=>hk I (by simp) o e,st.2.stay λo e=>hk d (by simp) o e⟩
 item:=λi s Q E q st f=>by
  have l:a[i]?=some a[i]:=Array.getElem?_eq_getElem q;refine yB st.1 st.2 l λg m j=>?_;exact f _ g s.toks ⟨_,l,rfl⟩ ⟨m,st.2.stay λo e=>j.extBut d o (λh=>r h.symm) e⟩ λb o c e=>j.extBut b o (λh=>c (by simp[h])) e
 done:=λs Q E st f=>zG p st.1 st.2 λg n=>f g s.toks λb o c e=>n b o (λh=>c (by simp[h])) e
 self:=λ_ _ _ _ st f=>wpAny_pyIter_keyiter st.1 f
def Mn(hd:(a==sysModules)=false)(hh:A.handled=none)(S:DRaw s.heap a g n)(hn:g.size<=sizeLine) 
  (hQ: ∀x tk,(∀b o,s.heap.get? b=some o->x.get? b=some o)->Q (g.toList.map (·.key)) {s with heap:=x,toks:=tk}):wpAny (model prog w) A (collect (.ref a)) Q E s:=by
 have I:a<s.heap.objs.size:=let⟨_,h1,_⟩:=S.at_;iJ h1;have C:a≠s.heap.objs.size:=iP I;have r:a≠s.heap.objs.size+1:=iP (xF I);have t:s.heap.objs.size≠s.heap.objs.size+1:=iP (uP _);unfold collect;refine gq (wpAny_runValue (sU PySem.F.entry_proto_collect ?_));rw[xb PySem.F.plain_proto_collect _];show wpAny _ A.in1 (newList []>>=λl=>again (.builtin "list.__iadd__" ⟨[l,.ref a],[]⟩)) _ _ s;refine gq (lE ?_);refine gE ⟨uM Jb _,sU PySem.F.entry_list_iadd ?_⟩;rw[xb Jb _];show wpAny _ A.in1 (Builtin.List.listExtendWith (.ref s.heap.objs.size) (.ref a) (.ref s.heap.objs.size)) _ _ _;generalize q:({cls:= .type "list",data:= .seq ([]:List Value).toArray}:Obj)=h;have B:DRaw (s.heap.push h) a g n:=S.stay λo e=>iA _ e;unfold Builtin.List.listExtendWith;refine gq (tm (T:="dict") (s:={s with heap:=s.heap.push h}) B.typeIs ?_);have h1:Builtin.List.listSameRef (.ref s.heap.objs.size) (.ref a)=false:=by simp only[Builtin.List.listSameRef,CF];exact C.symm
 have c:(Value.type "dict"==Value.type "list")=false:=by decide
 have Z:(Value.type "dict"==Value.type "tuple")=false:=by decide
 simp only[h1,c,Z,Bool.or_false,jY,jl];refine gq (Hk (s:={s with heap:=s.heap.push h}) hd B ?_);obtain⟨c,G⟩: ∃c,c=(s.heap.push h).push {cls:= .type "dict_keyiterator",data:= .fields #[.ref a,.int 0 0,.int g.size 0,.int n 0]}:=⟨_,rfl⟩
 have J:c.IsKeyIter (s.heap.push h).objs.size a 0 g.size n:=by rw[G];exact⟨_,jr _ rfl,rfl,rfl⟩
 have H: ∀b o,(s.heap.push h).get? b=some o->c.get? b=some o:=λb o e=>by rw[G];exact iA _ e
 rw[<-G];have u:(s.heap.push h).objs.size=s.heap.objs.size+1:=rF _ _;have v:DRaw c a g n:=B.stay λo e=>H _ _ e;refine gq (lO ?_);unfold Builtin.List.listLengthHint;refine gq (wpAny_specialOf (T:="dict") (s:={s with heap:=c}) v.typeIs PySem.F.slot_dict_len.lookup ?_);generalize p:("dict.__len__":String)=id0;dsimp only;rw[show splitId id0=some ("dict","__len__") from by subst p;decide+kernel];dsimp only;refine gq (A8 (T:="dict") (s:={s with heap:=c}) (b:=true) v.typeIs (by rw[isSubtype_type];kernel_rfl) ?_);simp only[Bool.not_true,jY,jl];change wpAny _ _ (if _=true then _ else _) _ _ _;rw[gF (by subst p;decide+kernel)];refine gq (tm (T:="dict") (s:={s with heap:=c}) v.typeIs ?_);dsimp only;refine gE ?_;change wpAny _ _ (if _=true then _ else _) _ _ _;rw[gF (by decide+kernel)];refine gq (rJ ?_);have d:c.get? s.heap.objs.size=some h:=H _ _ (jr _ (by subst q;rfl));subst q;refine gq ?_;show wpAny _ A.in1 (updateSeq s.heap.objs.size (·.push .none)>>=λ_=>updateSeq s.heap.objs.size (·.pop)) _ _ _;refine gq (wpAny_updateSeq (s:={s with heap:=c}) d rfl ?_);have f:=xM (Obj.mapSeq (·.push Value.none)) d rfl;refine wpAny_updateSeq f rfl ?_;have i:=xM (Obj.mapSeq (·.pop)) f rfl
 have oth: ∀b o,b≠s.heap.objs.size->c.get? b=some o->((c.update s.heap.objs.size (Obj.mapSeq (·.push Value.none))).update s.heap.objs.size (Obj.mapSeq (·.pop))).get? b=some o:=
  λb o k e=>(Bi _ _ (mJ k)).trans ((Bi _ _ (mJ k)).trans e)
 have W:=(D5 (prog:=prog) (w:=w) (A:=A.in1) (by show A.handled=none;exact hh) (s.heap.objs.size+1) a r.symm g n).toS;rw[u] at J;refine gE ⟨uM PySem.F.plain_extend_loop _,?_⟩;rw[u];refine codeAny_extend_loopS W hn s.heap.objs.size (by simp only[jM,kx,lD,pX];exact⟨t,C.symm⟩) _ g.size 0 _ _ _ rfl (mF _) ?_ i (ItemsOf.nil _) λM z c' y O o9=>?_
 ·refine⟨?_,v.stay λo e=>oth a o C e⟩;obtain⟨o,g1,g2⟩:=J;exact⟨o,oth _ o t.symm g1,g2⟩
 show wpAny _ A (load s.heap.objs.size>>=_) _ _ M;refine gq (wpAny_load O ?_);obtain⟨x,V,D,U,Y⟩:=M;have P:V=s.gens:=y.gens;have K:D=s.drawn:=y.drawn;have R:Y=s.os:=y.os;subst P;subst K;subst R
 have m:z.toList=g.toList.map (·.key):=by
  obtain⟨a1,N⟩:=o9;apply xo
  ·rw[jm,ni,ni,a1]
  ·intro j g1 g2;have X:z[j]?=some z.toList[j]:=by rw[<-uV];exact iW g1
   obtain⟨e,L,hv⟩:=N j _ X;rw[hv];rw[jm,ni] at g2;rw[uH];rw[<-uV,iW (by rw[ni];exact g2)] at L;cases L;rfl
 refine gE ?_;show Q z.toList _;rw[m];refine hQ x U λb o e=>?_;have k:=iJ e;exact y.heap b o (by simp only[jM,kx,lD,pX];exact⟨iP k,iP (xF k)⟩) (oth b o (iP k) (H _ _ (iA _ e)))
end
end TT
namespace PX
open PySem PySem.Spec PyProof.Rows L2 PySem.SeqAt TS
section
variable {X:Cx}{a:hG}{b:L2.St}{H:Hp}{s:gu}
end
def zy{i k:Type}(f:i->k){j m:List k}(h:j.Perm m): ∀l:List i,m=l.map f-> ∃c:List i,c.Perm l/\j=c.map f:=by
 induction h with
 |nil=>
  intro l e;have:l=[]:=by simpa using e.symm
  subst this;exact⟨[],.refl _,rfl⟩
 |cons x _ n=>
  intro l e
  cases l with
  |nil=>simp at e
  |cons y l=>
   simp only[jw,List.cons.injEq] at e;obtain⟨c,p,q⟩:=n l e.2;exact⟨y::c,p.cons y,by rw[q,e.1];rfl⟩
 |swap x y w=>
  intro l e
  cases l with
  |nil=>simp at e
  |cons a l=>
   cases l with
   |nil=>simp at e
   |cons b l=>
    simp only[jw,List.cons.injEq] at e;exact⟨b::a::l,.swap a b l,by rw[e.1,e.2.1,e.2.2];rfl⟩
 |trans _ _ d g=>
  intro l e;obtain⟨o,s,u⟩:=g l e;obtain⟨r,t,v⟩:=d o u;exact⟨r,t.trans s,v⟩
abbrev hv(p:D×V):Int×V:=(D.hash p.1,p.2)
section
variable {X:Cx}{a:hG}{b:L2.St}{H:Hp}{s:gu}
end
section
variable {X:Cx}
end
def yE:D->Option Key
 | .int i=>some (.inl i)
 | .str x=>some (.inr x)
 |_=>none
def DC:List D->Option (List Key)
 |[]=>some []
 |d::l=>(yE d).bind λk=>(DC l).map (k:: ·)
def Ca:D->Option (List Key)
 | .tup l=>DC l
 |_=>none
theorem mZ(h:yE d=some k):d=iV k:=by
 cases d<;>simp[yE] at h<;>subst h<;>rfl
theorem DA: ∀{l:List D} {a:List Key},DC l=some a->l=a.map iV
 |[],a,h=>by cases h;rfl
 |d::l,a,h=>by
  rw[DC] at h;obtain⟨k,h1,h⟩:=gh h;obtain⟨m,b,rfl⟩:=ie h;rw[mZ h1,DA b];rfl
theorem qk(h:Ca d=some a):d= .tup (a.map iV):=by
 cases d with
 |tup l=>rw[DA (show DC l=some a from h)]
 |_=>cases h
theorem uq(a b:Key):D.eqb (iV a) (iV b)=decide (a=b):=by
 cases a with
 |inl i=>cases b with
  |inl j=>simp only[iV,D.eqb,LK]
  |inr y=>simp only[iV,D.eqb,LJ]
 |inr x=>cases b with
  |inl j=>simp only[iV,D.eqb,LH]
  |inr y=>simp only[iV,D.eqb,LG];rfl
theorem qZ: ∀a b:List Key,D.eqbL (a.map iV) (b.map iV)=decide (a=b)
 |[],[]=>by simp[D.eqbL]
 |[],_::_=>by simp[D.eqbL]
 |_::_,[]=>by simp[D.eqbL]
 |x::a,y::b=>by
  simp only[jw];rw[D.eqbL,uq,qZ a b];simp only[List.cons.injEq,Bool.decide_and]
def kc:List D->List D->D->Option D
 |a::b,v::c,k=>if D.eqb a k=true then some v else kc b c k
 |_,_,_=>none
def rN:List D->List D->D->D->List D
 |b::c,v::a,k,w=>(if D.eqb b k=true then w else v)::rN c a k w
 |_,a,_,_=>a
def rn(a b:List D)(k w:D):List D×List D:=if a.any (D.eqb · k)=true then(a,rN a b k w) else(a++[k],b++[w])
def oJ(a:List D)(k:D):Bool:=((yE k).isSome&&a.all λx=>(yE x).isSome)||((Ca k).isSome&&a.all λx=>(Ca x).isSome)
section
variable {K:gK}{H:Hp}{O:AP'}
theorem Dd(h:Rep K H O (iV k) v):v=kV k:=by
 cases k with
 |inl i=>exact Rep.int h
 |inr x=>exact Rep.str h
theorem Ag: ∀{b:List Key} {a:List V},RepL K H O (b.map iV) a->a=b.map kV
 |[],a,h=>by rw[oo,RepL] at h;exact h
 |k::b,a,h=>by
  rw[jw,RepL] at h;obtain⟨v,r,rfl,h1,c⟩:=h;rw[Dd h1,Ag c];rfl
def oz(hk:yE d=some k)(h:jq K H O d v):v=kV k:=by
 rw[mZ hk] at h;rcases h with h|⟨a,rfl,h⟩
 ·exact Dd h
 ·cases k<;>exact h.elim
def oy(hk:Ca d=some c)(h:jq K H O d v): ∃b,v= .ref b/\H b=some (.tup (c.map kV)):=by
 rw[qk hk] at h;rcases h with h|⟨a,rfl,h⟩
 ·obtain⟨b,e,rfl,q,r⟩:=h.tup;rw[Ag r] at q;exact⟨b,rfl,q.1⟩
 ·exact h.elim
theorem FK{k:Key}: ∀{a:List (Key×V)} {b:List D},RepL K H O b (a.map (·.2))->(∀d,kc (a.map λp=>iV p.1) b (iV k)=some d-> ∃v,pS a k=some v/\Rep K H O d v)/\(kc (a.map λp=>iV p.1) b (iV k)=none->pS a k=none)
 |[],b,_=>⟨λd h=>by cases b<;>simp[kc] at h,λ_=>rfl⟩
 |(c,v)::a,[],h=>by rw[jw,RepL] at h;cases h
 |(c,v)::a,m::b,h=>by
  rw[jw,RepL] at h;obtain⟨w,r,e,h1,f⟩:=h;obtain⟨rfl,rfl⟩:=uK e;obtain⟨j,l⟩:=FK (k:=k) f;simp only[jw,kc,uq];by_cases hk:c=k
  ·simp only[hk,decide_true,ja];exact⟨λd h=>by cases h;exact⟨v,qa (p:=(k,v)) rfl,h1⟩,λh=>by cases h⟩
  ·simp only[hk,decide_false,jY,jl];refine⟨λd h=>?_,λh=>?_⟩
   ·obtain⟨u,g,i⟩:=j d h;exact⟨u,by rw[nr (p:=(c,v)) hk];exact g,i⟩
   ·rw[nr (p:=(c,v)) hk];exact l h
theorem FH{k:List Key}: ∀{a:List (List Key×V)} {b:List D},RepL K H O b (a.map (·.2))->(∀d,kc (a.map λp=> .tup (p.1.map iV)) b (.tup (k.map iV))=some d-> ∃v,pS a k=some v/\Rep K H O d v)/\(kc (a.map λp=> .tup (p.1.map iV)) b (.tup (k.map iV))=none->pS a k=none)
 |[],b,_=>⟨λd h=>by cases b<;>simp[kc] at h,λ_=>rfl⟩
 |(c,v)::a,[],h=>by rw[jw,RepL] at h;cases h
 |(c,v)::a,m::b,h=>by
  rw[jw,RepL] at h;obtain⟨w,r,e,h1,f⟩:=h;obtain⟨rfl,rfl⟩:=uK e;obtain⟨j,l⟩:=FH (k:=k) f;simp only[jw,kc,D.eqb,qZ];by_cases hk:c=k
  ·simp only[hk,decide_true,ja];exact⟨λd h=>by cases h;exact⟨v,qa (p:=(k,v)) rfl,h1⟩,λh=>by cases h⟩
  ·simp only[hk,decide_false,jY,jl];refine⟨λd h=>?_,λh=>?_⟩
   ·obtain⟨u,g,i⟩:=j d h;exact⟨u,by rw[nr (p:=(c,v)) hk];exact g,i⟩
   ·rw[nr (p:=(c,v)) hk];exact l h
end
section
variable {P:gS}{w:gO}{H H':Hp}{h:gL}{a:gm}
def Px(x:ObjOk P w H h a (.dT [])):ObjOk P w H' h a (.dK []):=by
 obtain⟨z,y,k,r,o,b,c,h1,d,f,g,j⟩:=x;cases r
 have:b= #[]:=by
  have:b.toList=[]:=by simpa using g
  exact S9.mp this
 subst this;refine⟨z,y,[],.nil,o,#[],c,h1,d,f,?_,?_,sO⟩
 ·first|exact λe i=>by simp at i|(intro;simp)
 ·first|exact .nil|trivial|simp[Pairs]
def Py(x:ObjOk P w H h a (.dK [])):ObjOk P w H' h a (.dT []):=by
 obtain⟨z,y,n,r,o,c,d,h1,f,g,k,b,m⟩:=x;cases r
 have:c= #[]:=by
  have j:c.toList.length=0:=by
   first
    |simpa using b.length
    |simpa using(uZ b)
    |(
      cases i:c.toList with
      |nil=>rfl
      |cons e l=>rw[i] at b;cases b)
  exact S9.mp (MD.mp j)
 subst this;exact⟨z,y,[],.nil,o,#[],d,h1,f,g,rfl,sO⟩
end
section
variable {X:Cx}{f:hG}{g:L2.St}{H:Hp}{s:gu}
def Iw{A:gR}{E:hZ}(I:Inv X f g H s){H':Hp}{a:gm}{k:Key}{u:gz}{Q:hZ}(x:ObjOk X.prog X.w H' s.heap a (.dK []))(d:RelV (kV k) u)(b:Bool)(h: ∀e,Inv X f g H e->Q (.bool b) e):
  wpAny (model X.prog X.w) A (compareOp (if b=true then .NotIn else .In) u (.ref a)) Q E s:=by
 obtain⟨z,hd,i,c,dd⟩:=x;cases c
 cases b with
 |false=>exact wpAny_in_of (wc d) hd dd.mapOf (h _ (I.tok _))
 |true=>exact wpAny_notIn_of (wc d) hd dd.mapOf (h _ (I.tok _))
def Iv{A:gR}{E:hZ}(e:A.units+1<cLine)(I:Inv X f g H s){H':Hp}{a b:gm}{k:List Key}{Q:hZ}(x:ObjOk X.prog X.w H' s.heap a (.dT []))(d:H b=some (.tup (k.map kV)))(c:Bool)(h: ∀i,Inv X f g H i->Q (.bool c) i):
  wpAny (model X.prog X.w) A (compareOp (if c=true then .NotIn else .In) (.ref b) (.ref a)) Q E s:=by
 obtain⟨z,hd,u,r,o,l,j,h1,m,n,p,q⟩:=x;cases r;have dd:s.heap.DictOfH (tupleKind (jc X.prog X.w)) a []:=⟨o,l,j,h1,m,n,p,(λx (t:x∈[])=>by simp at t),q⟩
 cases c with
 |false=>exact wpAny_in_heap (uR e) (sy I.hok d) hd dd (h _ (I.tok _))
 |true=>exact wpAny_notIn_heap (uR e) (sy I.hok d) hd dd (h _ (I.tok _))
def oI(h:oJ d k=true):(∃e,yE k=some e/\ ∀x∈d,∃c,yE x=some c)\/(∃i,Ca k=some i/\ ∀x∈d,∃c,Ca x=some c):=by
 unfold oJ at h;rw[AU,kZ,kZ,md,md] at h;rcases h with⟨h1,a⟩|⟨h1,a⟩
 ·exact .inl ⟨_,(IS.mp h1).choose_spec,λx b=>IS.mp (a x b)⟩
 ·exact .inr ⟨_,(IS.mp h1).choose_spec,λx b=>IS.mp (a x b)⟩
def BC{a:List Key}{c:Key}(h:yE (.tup (a.map iV))=some c):False:=by cases h
def yF(h:Ca (iV k)=some c):False:=by cases k<;>cases h
def UC(z:A.units+1<cLine)(I:Inv X f g H s)(q:OthB X.K (H a) .dct ks n us)(r:RepL X.K H O n us)(hk:oJ ks k=true)(J:jq X.K H O k y)(o:RelV y u)(l:Bool)
  (h: ∀j,Inv X f g H j->Q (.bool (xor l (kc ks n k).isSome)) j):wpAny (model X.prog X.w) A (compareOp (if l=true then .NotIn else .In) u (.ref a)) Q E s:=by
 have nil: ∀n:List D,kc [] n k=none:=λn=>by cases n<;>rfl
 rcases q with⟨i,e,rfl,rfl⟩|⟨i,e,rfl,rfl⟩
 ·rcases oI hk with⟨B,h1,_⟩|⟨C,h1,M⟩
  ·have:=oz h1 J;subst this;have P:=mZ h1;subst P;obtain⟨Y,F⟩:=FK (k:=B) r
   have U:(pS i B).isSome=(kc (i.map λp=>iV p.1) n (iV B)).isSome:=by
    cases x:kc (i.map λp=>iV p.1) n (iV B) with
    |none=>rw[F x];rfl
    |some d=>obtain⟨v,N,_⟩:=Y d x;rw[N];rfl
   rw[<-U] at h
   cases l with
   |false=>exact UD z I (DGet.k e) o λj m=>by simpa using h j m
   |true=>exact Hx z I (DGet.k e) o λj m=>by simpa using h j m
  ·have L:i=[]:=by
    cases i with
    |nil=>rfl
    |cons p i=>obtain⟨c,T⟩:=M (iV p.1) (by simp);exact(yF T).elim
   subst L;obtain⟨b,rfl,G⟩:=oy h1 J;cases o;rw[oo,nil] at h;exact Iv z I (Py (H':=H) (I.hok a _ e)) G l λj m=>by simpa using h j m
 ·rcases oI hk with⟨B,h1,M⟩|⟨C,h1,_⟩
  ·have L:i=[]:=by
    cases i with
    |nil=>rfl
    |cons p i=>obtain⟨c,T⟩:=M (.tup (p.1.map iV)) (by simp);exact(BC T).elim
   subst L;have:=oz h1 J;subst this;rw[oo,nil] at h;exact Iw I (Px (H':=H) (I.hok a _ e)) o l λj m=>by simpa using h j m
  ·obtain⟨b,rfl,G⟩:=oy h1 J;have P:=qk h1;subst P;obtain⟨Y,F⟩:=FH (k:=C) r
   have U:(pS i C).isSome=(kc (i.map λp=> .tup (p.1.map iV)) n (.tup (C.map iV))).isSome:=by
    cases x:kc (i.map λp=> .tup (p.1.map iV)) n (.tup (C.map iV)) with
    |none=>rw[F x];rfl
    |some d=>obtain⟨v,N,_⟩:=Y d x;rw[N];rfl
   rw[<-U] at h
   cases l with
   |false=>exact UD z I (DGet.t e G) o λj m=>by simpa using h j m
   |true=>exact Hx z I (DGet.t e G) o λj m=>by simpa using h j m
def Sz(L:A.units+1<cLine)(I:Inv X f g H s)(q:OthB X.K (H a) .dct M m us)(r:RepL X.K H O m us)(hk:oJ M k=true)(j:kc M m k=some d)(T:jq X.K H O k y)(N:RelV y u) 
  (h: ∀v w l,Inv X f g H l->Rep X.K H O d v->RelV v w->Q w l):wpAny (model X.prog X.w) A (getItem (.ref a) u) Q E s:=by
 have nil: ∀m:List D,kc [] m k=none:=λm=>by cases m<;>rfl
 rcases q with⟨i,e,rfl,rfl⟩|⟨i,e,rfl,rfl⟩
 ·rcases oI hk with⟨J,h1,_⟩|⟨U,h1,o⟩
  ·have:=oz h1 T;subst this;have G:=mZ h1;subst G;obtain⟨v,x,z⟩:=(FK (k:=J) r).1 d j;refine AB L I (v:=v) (y:=kV J) ?_ N λw l n C=>h v w l n z C;rw[<-x];exact DGet.k e
  ·cases i with
   |nil=>rw[oo,nil] at j;cases j
   |cons p i=>obtain⟨c,B⟩:=o (iV p.1) (by simp);exact(yF B).elim
 ·rcases oI hk with⟨J,h1,o⟩|⟨U,h1,_⟩
  ·cases i with
   |nil=>rw[oo,nil] at j;cases j
   |cons p i=>obtain⟨c,B⟩:=o (.tup (p.1.map iV)) (by simp);exact(BC B).elim
  ·obtain⟨b,rfl,Y⟩:=oy h1 T;have G:=qk h1;subst G;obtain⟨v,x,z⟩:=(FH (k:=U) r).1 d j;refine AB L I (v:=v) (y:= .ref b) ?_ N λw l n C=>h v w l n z C;rw[<-x];exact DGet.t e Y
end
def DK(d k:D):Option (D×Bool):=match d with
 | .oth .dct a b=>if oJ a k=true then(kc a b k).map λv=>(v,false) else none
 |_=>gIx d k
section
variable {X:Cx}
def Up(J:X.A.units+1<cLine):IxR X (rD X.K DK):=by
 intro b slice c s B H x y v u Q I o p h n;obtain⟨O,d,e,z,np,h1,l,j,G⟩:=h;by_cases hd: ∃g k,d= .oth .dct g k
 ·obtain⟨g,k,rfl⟩:=hd;have i:(if oJ g e=true then(kc g k e).map λv=>(v,false) else none)=some z:=j;split at i
  case isFalse=>cases i
  rename_i hk;obtain⟨w,L,rfl⟩:=ie i;obtain⟨a,T,rfl,q,r⟩:=nk h1;cases o;have m:s.TypeIs (.ref a) "dict":=yu I q;unfold subscriptTail;refine gq ?_;rw[getitemInPython_of_ne m.not_modules];refine gq (wpAny_specialOf m PySem.F.slot_dict_getitem.lookup ?_)
  have fin:wpAny (model X.prog X.w) X.A (subscripted slice false (.ref a) u) (λr f=>wpAny (model X.prog X.w) X.A (letTemporaryGo b (.ref a) r>>=λ_=>pure r) (EP X c B Q) X.xe f) X.xe s:=by
   rw[n];exact wpAny_operating (Sz J I q r hk L l p λt U N C E M=>gq (wpAny_letTemporaryGo (gE ⟨t,H,C,M,G t H (λ_ _ e=>e) E⟩)))
  first
   |exact gE (gq fin)
   |exact gq (gE (gq fin))
   |exact gq fin
 ·have:DK d e=gIx d e:=by
   unfold DK;split
   ·exact absurd ⟨_,_,rfl⟩ hd
   ·rfl
  rw[this] at j;exact Pn b slice c s B H x y v u Q I o p ⟨O,d,e,z,np,h1,l,j,G⟩ n
def QZ(h:X.A.units+1<cLine)(e:PO X a c)(f:PO X b d)(g:uE b):PX X (.Subscript a b pos) (gy DK c d):=px2 (Pe (Up h) e f g)
def Me:F:=λa=>some ((.oth .dct [] [],true),a)
def Nc{a:Pos}:PX X (.Dict [] [] a) Me:=PX.imp K9 λh H Q c=>by
 obtain⟨g,T,f,d,E,e,k⟩:=c;cases e;intro p b;have B:=Ops.nil E;exact(B.done k) p _ b (ky b) ⟨[],.inl ⟨[],gU,rfl,rfl⟩,RepL.nil⟩
end
section
variable {K:gK}{T:AP'}{d:L2.St}{c:Dn}{H:Hp}{i:Nat}{g d':D}{a:gm}{o:HO}
def OwnI.writeG{j:Nat}{b:gm}(hd:c[i]?=some (some (g,true)))(h:OwnI d (c.set i (some (d',true))) j b):OwnI d c j b:=by
 obtain⟨e,h1,f⟩:=h;rcases kz h1 with⟨rfl,_,_⟩|⟨_,q⟩
 ·exact⟨_,hd,f⟩
 ·exact⟨e,q,f⟩
def ER.writeG(E:ER K H T d c)(hd:c[i]?=some (some (g,true)))(p:d[i]?=some (some (.ref a)))(r:OwnOk K (upd H a o) (λb=>OwnA d c b\/T b) d' a):
  ER K (upd H a o) T d (c.set i (some (d',true)))/\Keep d c H (c.set i (some (d',true))) (upd H a o):=by
 have O:i<c.length:=(uG.mp hd).1;have s:OwnA d c a:=⟨i,_,hd,p⟩
 have B: ∀b,OwnA d (c.set i (some (d',true))) b->OwnA d c b:=λb ⟨j,e,h1,m⟩=>by
  obtain⟨G,t,v⟩:=OwnI.writeG hd ⟨e,h1,m⟩;exact⟨j,G,t,v⟩
 have A: ∀b u,H b=some u-> ¬(OwnA d c b\/T b)->upd H a o b=some u:=λb u e n=>by rw[gQ (by intro z;subst z;exact n (.inl s))];exact e
 have C: ∀b,H b≠none->upd H a o b≠none:=λb z=>by
  by_cases y:b=a
  ·subst y;rw[gU];simp
  ·rw[gQ y];exact z
 have sub: ∀b,(OwnA d (c.set i (some (d',true))) b\/T b)->OwnA d c b\/T b:=λb z=>z.imp (B b) id;refine⟨⟨by rw[rG];exact E.len,λj e h=>?_,λj e h=>?_,λj k e f b h hk h1 m=>?_,λb z=>E.nT b (B b z),λb z=>by have ne:b≠a:=λe=>E.nT a s (e▸z);rw[gQ ne];exact E.dom b z⟩,⟨λb u e n=>by rw[gQ (by intro z;subst z;exact n s)];exact e,λj b z=>OwnI.writeG hd z,C⟩⟩
 ·rcases kz h with⟨_,_,q⟩|⟨_,q⟩
  ·cases q
  ·obtain⟨w,l,x⟩:=E.val j e q;exact⟨w,l,Rep.mono A (λb _ z=>sub b z) x⟩
 ·rcases kz h with⟨rfl,_,q⟩|⟨ne,q⟩
  ·cases q;exact⟨a,p,r.mono (λ_ _ e _=>e) (λb _ z=>sub b z) λ_ e=>e⟩
  ·obtain⟨b,l,x⟩:=E.own j e q;refine⟨b,l,x.mono A (λb _ z=>sub b z) λu L=>?_⟩;rw[gQ]
   ·exact L
   ·intro z;subst z;exact ne (E.inj i j _ _ _ hd q p l)
 ·obtain⟨I,t,v⟩:=OwnI.writeG hd ⟨e,h,h1⟩;obtain⟨J,M,N⟩:=OwnI.writeG hd ⟨f,hk,m⟩;exact E.inj j k I J b t M v N
end
section
variable {X:Cx}{c:hG}{d:L2.St}{H:Hp}{s:gu}{a:gm}
def Qk(I:Inv X c d H s)(e:H a=some (.dT [])):Inv X c d (upd H a (.dK [])) s:=by
 have:=ur (t':=s.toks) (h':=s.heap) I (by rw[e];exact True.intro) (Er a s.heap) (by obtain⟨z,y,g,r,o,f,b,h1,_⟩:=(show ObjOk X.prog X.w H s.heap a (.dT []) from I.hok a _ e);exact⟨o,h1⟩) (Px (H':=upd H a (.dK [])) (I.hok a _ e));exact this
def Qj(I:Inv X c d H s)(e:H a=some (.dK [])):Inv X c d (upd H a (.dT [])) s:=by
 have:=ur (t':=s.toks) (h':=s.heap) I (by rw[e];exact True.intro) (Er a s.heap) (by obtain⟨z,y,g,r,o,f,b,h1,_⟩:=(show ObjOk X.prog X.w H s.heap a (.dK []) from I.hok a _ e);exact⟨o,h1⟩) (Py (H':=upd H a (.dT [])) (I.hok a _ e));exact this
def TY:OH:=λo i v H Q=> ∃a,o= .ref a/\((∃e,DPut H a i v e/\Q e)\/(∃f,H a=some (.dT [])/\i=kV f/\Q (upd H a (.dK [(f,v)])))\/
 (∃g b,H a=some (.dK [])/\i= .ref b/\H b=some (.tup (g.map kV))/\Q (upd H a (.dT [(g,v)]))))
def Kg(j:X.A.units+1<cLine):SV X TY:=by
 intro c s d H o i v E C u Q I x l m h;obtain⟨a,rfl,h⟩:=h;cases x;rcases h with⟨r,g,q⟩|⟨y,e,rfl,q⟩|⟨B,b,e,rfl,n,q⟩
 ·exact vF j I g l m λp f=>⟨r,f,q⟩
 ·refine vF j (Qk I e) (DPut.k (k:=y) (v:=v) gU (by rw[iB];decide)) l m λp f=>⟨_,f,?_⟩
  rw[Gy];exact q
 ·have w:b≠a:=Ph n e (λz=>nomatch z);refine vF j (Qj I e) (DPut.t (k:=B) (v:=v) (b:=b) gU (by rw[gQ w];exact n) (by rw[iB];decide)) l m λp f=>⟨_,f,?_⟩
  rw[Gy];exact q
end
section
variable {K:gK}{H:Hp}{O:AP'}
theorem Kn{k:Key}{w:D}{v:V}(d:Rep K H O w v): ∀{a:List (Key×V)} {b:List D},RepL K H O b (a.map (·.2))->RepL K H O (rN (a.map λp=>iV p.1) b (iV k) w) ((a.map λc=>if c.1=k then(c.1,v) else c).map (·.2))
 |[],b,h=>by cases b<;>simpa[rN] using h
 |(f,u)::a,[],h=>by rw[jw,RepL] at h;cases h
 |(f,u)::a,i::b,h=>by
  rw[jw,RepL] at h;obtain⟨x,r,e,h1,g⟩:=h;obtain⟨rfl,rfl⟩:=uK e;simp only[jw,rN,uq];refine RepL.cons ?_ (Kn d g);by_cases hk:f=k
  ·simp only[hk,decide_true,ja];exact d
  ·simp only[hk,decide_false,jY,jl];exact h1
theorem Km{k:List Key}{w:D}{v:V}(d:Rep K H O w v): ∀{a:List (List Key×V)} {b:List D},RepL K H O b (a.map (·.2))->RepL K H O (rN (a.map λp=> .tup (p.1.map iV)) b (.tup (k.map iV)) w) ((a.map λc=>if c.1=k then(c.1,v) else c).map (·.2))
 |[],b,h=>by cases b<;>simpa[rN] using h
 |(f,u)::a,[],h=>by rw[jw,RepL] at h;cases h
 |(f,u)::a,i::b,h=>by
  rw[jw,RepL] at h;obtain⟨x,r,e,h1,g⟩:=h;obtain⟨rfl,rfl⟩:=uK e;simp only[jw,rN,D.eqb,qZ];refine RepL.cons ?_ (Km d g);by_cases hk:f=k
  ·simp only[hk,decide_true,ja];exact d
  ·simp only[hk,decide_false,jY,jl];exact h1
def Pa(a:Rep K H O w v)(h:RepL K H O b (kvs.map (·.2))):
  (rn (kvs.map λp=>iV p.1) b (iV k) w).1=(mS kvs k v).map (λp=>iV p.1)/\RepL K H O (rn (kvs.map λp=>iV p.1) b (iV k) w).2 ((mS kvs k v).map (·.2)):=by
 have c:(kvs.map λp=>iV p.1).any (D.eqb · (iV k))=kvs.any λd=>decide (d.1=k):=by
  rw[Ea];congr 1;funext p;exact uq _ _
 unfold rn mS;rw[c];split
 ·refine⟨?_,Kn a h⟩;rw[ir];apply nh;intro p _;simp only[Function.comp];split<;>rfl
 ·exact⟨by simp,by rw[vL];exact h.append (RepL.one a)⟩
def OZ{k:List Key}{w:D}{v:V}(b:Rep K H O w v){kvs:List (List Key×V)}{a:List D}(h:RepL K H O a (kvs.map (·.2))):
  (rn (kvs.map λp=> .tup (p.1.map iV)) a (.tup (k.map iV)) w).1=(mS kvs k v).map (λp=> .tup (p.1.map iV))/\RepL K H O (rn (kvs.map λp=> .tup (p.1.map iV)) a (.tup (k.map iV)) w).2 ((mS kvs k v).map (·.2)):=by
 have c:(kvs.map λp=>D.tup (p.1.map iV)).any (D.eqb · (.tup (k.map iV)))=kvs.any λd=>decide (d.1=k):=by
  rw[Ea];congr 1;funext p;simp only[Function.comp,D.eqb,qZ]
 unfold rn mS;rw[c];split
 ·refine⟨?_,Km b h⟩;rw[ir];apply nh;intro p _;simp only[Function.comp];split<;>rfl
 ·exact⟨by simp,by rw[vL];exact h.append (RepL.one b)⟩
end
def vU(i:Nat)(f:F)(g:FO):FS:=λc=>(f c).bind λp=>match p.2[i]? with
 |some (some _)=>(g p.2).bind λq=>match res q.2 q.1,q.2[i]? with
  |some k,some (some (.oth .dct a b,true))=>if oJ a k=true/\a.length<10000 then some (.nx (q.2.set i (some (.oth .dct (rn a b k p.1.1).1 (rn a b k p.1.1).2,true)))) else none
  |_,_=>none
 |_=>none
section
variable {X:Cx}{e d:gw}{f:F}{l:FO}{h g m s:Pos}{i:Nat}{x:Str}{A L:iK}{q:Hp}
def Kz{I:Pos}(hu:X.A.units+1<cLine)(hv:PO X (.Name x g) (gk i))(he:PX X e f)(hi:PO X d l)
  (ha: ∀v,assign (.Subscript (.Name x g) d I) X.env v=(do
   let ov <-holding [v] (eval (.Name x g) X.env)
   let iv <-holding [v,ov] (eval d X.env)
   standAt I
   holding [v,ov,iv] (setItem ov iv v)
   release [v,ov,iv] []))
  (hs:swapsWithSole [.Subscript (.Name x g) d I] e h.line X.env=pure false)(hw:swappedStores [.Subscript (.Name x g) d I] e X.env=pure none)
  (h1:(assignEach [.Subscript (.Name x g) d I] X.env).map (·.2)=[assign (.Subscript (.Name x g) d I) X.env]):
  PSX X A L q (.Assign [.Subscript (.Name x g) d I] e h) (vU i f l):=PS.imp' (Fo he (KZ hv hi (Kg hu) ha) hs hw h1) λD U H hw=>by
 obtain⟨δ,T,out,E,fi,e,k⟩:=hw;obtain⟨⟨r,w⟩,h1,e⟩:=gh e;dsimp only at e;split at e
 case h_2=>cases e
 rename_i y0 h0;obtain⟨⟨o,y⟩,h2,e⟩:=gh e;dsimp only at e;split at e
 ·rename_i S V W hk h3;obtain⟨⟨R,C⟩,e⟩:=hV e;cases e;refine⟨δ,T,r,w,E,h1,λv H1 Y=>⟨w,Tmp T r v,.slot i,w,Y.er E,by unfold gk;rw[h0],λv2 H2 P=>⟨w,Tmp T r v,o,y,P.er (Y.er E),h2,λv3 F P3=>?_⟩⟩⟩;have fZ:PostO X.K T U δ H (.val r) w v H1:=Y;have B:=Ops.cons E fZ (Ops.cons (Y.er E) P (Ops.cons (P.er (Y.er E)) P3 (Ops.nil (P3.er (P.er (Y.er E))))));have E3:ER X.K F T U y:=B.er.mono (λ_ _ e _=>e) (λb _ z=>B.tt b z) (λa z=>B.er.dom a (B.tt a z));have M:U[i]?=some (some v2):=P.2.2;obtain⟨a,q1,us,q2,q3⟩:=E3.own i _ h3;rw[M] at q1;cases q1;have vk:=B.view (j:=2) rfl rfl hk;have rv:=B.rep E (j:=0) (r:=r) rfl rfl;have oa:OwnA U y a:=⟨i,_,h3,M⟩
  have kp: ∀(G:HO) b u,F b=some u-> ¬(OwnA U y b\/T b)->upd F a G b=some u:=λG b u e n=>by rw[gQ (by intro z;subst z;exact n (.inl oa))];exact e
  have ks10:10000<sizeLine:=by rw[iB];decide
  have fin: ∀G Z,OthB X.K (some G) .dct (rn V W S r.1).1 (rn V W S r.1).2 Z->RepL X.K F (λa=>OwnA U y a\/T a) (rn V W S r.1).2 Z->D.nx U (upd F a G):=λG Z g1 g2=>by
   obtain⟨E4,K4⟩:=E3.writeG (o:=G) (d':= .oth .dct (rn V W S r.1).1 (rn V W S r.1).2) h3 M ⟨Z,by rw[gU];exact g1,RepL.mono (kp G) (λ_ _ z=>z) g2⟩;exact k _ _ (B.keep.trans K4).sk E4
  refine⟨a,rfl,?_⟩;rcases q2 with⟨kvs,eH,rfl,rfl⟩|⟨kvs,eH,rfl,rfl⟩
  ·rw[jm] at C;rcases oI R with⟨κ,g1,_⟩|⟨τ,g1,g2⟩
   ·have J:=oz g1 vk;have Q:=mZ g1;subst Q;obtain⟨N,O⟩:=Pa (k:=κ) rv q3;refine .inl ⟨_,by rw[J];exact DPut.k eH (by omega),fin _ _ (.inl ⟨_,rfl,N,rfl⟩) O⟩
   ·have cc:kvs=[]:=by
     cases kvs with
     |nil=>rfl
     |cons p kvs=>obtain⟨c,hc⟩:=g2 (iV p.1) (by simp);exact(yF hc).elim
    subst cc;obtain⟨b,J,eb⟩:=oy g1 vk;have Q:=qk g1;subst Q;obtain⟨N,O⟩:=OZ (k:=τ) (kvs:=[]) rv q3;exact .inr (.inr ⟨τ,b,eH,J,eb,fin _ _ (.inr ⟨[(τ,v)],rfl,N,rfl⟩) O⟩)
  ·rw[jm] at C;rcases oI R with⟨κ,g1,g2⟩|⟨τ,g1,_⟩
   ·have cc:kvs=[]:=by
     cases kvs with
     |nil=>rfl
     |cons p kvs=>obtain⟨c,hc⟩:=g2 (.tup (p.1.map iV)) (by simp);exact(BC hc).elim
    subst cc;have J:=oz g1 vk;have Q:=mZ g1;subst Q;obtain⟨N,O⟩:=Pa (k:=κ) (kvs:=[]) rv q3;exact .inr (.inl ⟨κ,eH,J,fin _ _ (.inl ⟨[(κ,v)],rfl,N,rfl⟩) O⟩)
   ·obtain⟨b,J,eb⟩:=oy g1 vk;have Q:=qk g1;subst Q;obtain⟨N,O⟩:=OZ (k:=τ) rv q3;refine .inl ⟨_,by rw[J];exact DPut.t eH eb (by omega),fin _ _ (.inr ⟨_,rfl,N,rfl⟩) O⟩
 ·cases e
end
section
variable {X:Cx}
theorem vg{P:gS}{w:gO}: ∀{e:List DictEntry} {f:List (Key×Value)} {a:List (Key×V)},Pairs (jc P w) e f->KV a f->Vals (a.map λp=>kV p.1) (e.map (·.key))
 |_,_,_,.nil,.nil=> .nil
 |_,_,_,.cons h1 g t,.cons r q=>by
  refine .cons ?_ (vg t q);dsimp only;rw[r.1];rcases jz (show wa _ _=true from h1) with⟨i,d,b,c⟩|⟨x,d,b,c⟩
  ·rw[b,c];exact⟨d,rfl⟩
  ·rw[b,c];exact⟨d,rfl⟩
theorem vp{K:gK}{H:Hp}{O:AP'}: ∀(a:List (Key×V)),RepL K H O (a.map λp=>iV p.1) (a.map λp=>kV p.1)
 |[]=>RepL.nil
 |(k,v)::a=>by
  refine RepL.cons ?_ (vp a)
  cases k with
  |inl i=>exact Rep.mkInt
  |inr x=>exact Rep.mkStr
def Na(a:Gl X x)(b:X.mg x=some (.str i t))(hd:(x==("__debug__":Str))=false):PX X (.Name x pos) (fC (.str i)):=PX.imp (G2 (v:= .str i) a b ⟨t,rfl⟩ hd) λf H Q h=>by
 obtain⟨d,T,r,c,E,e,k⟩:=h;cases e;exact k _ _ (Post.val .refl E Rep.mkStr)
def BP:FS:=λ_=>none
def HX{A L:iK}{b:Hp}{st:Stmt}:PSX X A L b st BP:=λa s g H D I h=>by
 obtain⟨f,T,c,E,d,e,k⟩:=h;cases e
def Ho(i j:Int):F:=λδ=>some ((.oth .dct [.int i] [.int j],true),δ)
def Nb{i j:Int}{a b:Nat}{h l d:Pos}:PX X (.Dict [some (.Constant (.int i) a h)] [.Constant (.int j) b l] d) (Ho i j):=
 PX.imp (NC (KN BR BR Nu) rfl rfl (by simp) (by simp)) λr H Q g=>by
 obtain⟨q,T,n,m,E,e,k⟩:=g;cases e;intro p c;refine⟨gU,[(.inl i,.int j)],rfl,by simp,?_⟩;have B:=Ops.nil E;refine(B.done k) p _ c ?_ ⟨[.int j],.inl ⟨[(.inl i,.int j)],?_,rfl,rfl⟩,RepL.one Rep.mkInt⟩
 ·intro a o e;have f:a≠p:=by intro z;subst z;rw[e] at c;cases c
  rw[gQ f,gQ f];exact e
 ·rw[gU];rfl
end
section
variable {X:Cx}{e:gw}{f:F}{b d a c:Pos}{i:Nat}{x:Str}
end
structure PXs(X:Cx)(es:iO)(fs:List F):Prop where
 pa:PA X es (tA X.K (fs.map gn))
section
variable {X:Cx}{e:gw}{a:iO}{f:F}{fs:List F}{b:Pos}
def M3:PXs X [] []:=⟨wQ⟩
def Ks(h:PX X e f)(c:PXs X a fs)(d:starEach (e::a) X.env=(false,eval e X.env)::starEach a X.env):PXs X (e::a) (f::fs):=⟨qg (PX.po h) c.pa d⟩
def M8(h:PXs X a fs):PX X (.List a b) (jH fs):=QY h.pa
def M5{x1}(h:PXs X a fs):PX X (.Tuple a x1 b) (jG fs):=Qz h.pa
def KO{c:FT}(h:PTX X e c):PIf X [e] (tT X.K c):=Nx h
def Q7{c:FT}(h:PWX X e c):PTX X e c:=PW.pt h
end
structure QX(X:Cx)(e:gw)(f:F):Prop where
 h:PX X e f
structure QO(X:Cx)(e:gw)(f:FO):Prop where
 h:PX.PO X e f
structure QA(X:Cx)(es:iO)(fs:List FO):Prop where
 h:PA X es (tA X.K fs)
structure QL(X:Cx)(es:iO)(fs:List F):Prop where
 h:PXs X es fs
structure QT(X:Cx)(e:gw)(f:FT):Prop where
 h:PTX X e f
structure QW(X:Cx)(e:gw)(f:FT):Prop where
 h:PWX X e f
structure QG(X:Cx)(A:iK)(e:gw)(t:Tg):Prop where
 h:PGX X A e t
structure QI(X:Cx)(B:SB)(tg e:gw)(f:FIt):Prop where
 h:PIX X B tg e f
structure QF(X:Cx)(es:iO)(f:FT):Prop where
 h:PIf X es (tT X.K f)
structure QB(X:Cx)(A:iK)(d:gm)(e:gw)(n:Nat)(f:FB):Prop where
 h:PB X (iR e n (.ref d) X.env) (tBx false X.K A d f)
structure QS(X:Cx)(A L:iK)(H0:Hp)(st:Stmt)(f:FS):Prop where
 h:PSX X A L H0 st f
structure QQ(X:Cx)(A L:iK)(H0:Hp)(st:List Stmt)(f:FS):Prop where
 h:zT X A L H0 st f
structure QC(X:Cx)(v:gz)(g:List D->Option (D×Bool)):Prop where
 h:ju X v (rDn X.K g)
structure QP(X:Cx)(o:vK)(g:D->D->Option (D×Bool)):Prop where
 h:OpR X o (rD X.K g)
abbrev SE(X:Cx)(e:gw)(a:iO):Prop:=starEach (e::a) X.env=(false,eval e X.env)::starEach a X.env
abbrev BA(X:Cx)(p:Pos)(a:iO):Prop:=(backTo p (starEach a X.env)).any (·.1)=false
abbrev DB(x:Str):Prop:=(x==("__debug__":Str))=false
abbrev un(A:gR)(n:Nat):Prop:=A.units+n<cLine
structure ZZ where
 P:Program
 w:World
 K:PySem.W.Frag
 mg:Str->Option Value
 base:Heap
def Oz(Z:ZZ)(k:Nat)(x:Str)(b:iw)(c:EvF):Prop:= ∃f a,FnOk Z.P Z.w Z.K Z.mg Z.base CX0 k f a b (spF Z.K c)/\Z.mg x=some (.ref f)/\PySem.W.keepIn Z.K (.ref f)=true/\Binds Z.K a b []
theorem Oz.up{Z:ZZ}{k j:Nat}{x:Str}{d:iw}{c:EvF}(o:Oz Z k x d c)(h:k<=j:=by decide):Oz Z j x d c:=let⟨f,e,a,b⟩:=o;⟨f,e,a.mono h,b⟩
abbrev zX(X:Cx):ZZ:=⟨X.prog,X.w,X.K,X.mg,X.base⟩
def btT:List (Str×Value):=[("len",.builtin "len"),("abs",.builtin "abs"),("int",.type "int"),("tuple",.type "tuple"),("list",.type "list"),("bool",.type "bool"),("max",.builtin "max"),("min",.builtin "min"),("all",.builtin "all"),("any",.builtin "any"),("sorted",.builtin "sorted"),("set",.type "set")]
def btA{c:jX}(T:Tx c): ∀p∈btT,c p.1=none/\bootBuiltins p.1=some p.2:=by
 have h: ∀p∈btT,bootBuiltins p.1=some p.2:=by decide+kernel
 intro p b;refine⟨?_,h p b⟩;have a:p∈btT:=b;unfold btT at a;simp only[jM,kx,lD] at a;rcases a with rfl|rfl|rfl|rfl|rfl|rfl|rfl|rfl|rfl|rfl|rfl|rfl
 ·exact T.n_len
 ·exact T.n_abs
 ·exact T.n_int
 ·exact T.n_tuple
 ·exact T.n_list
 ·exact T.n_bool
 ·exact T.n_max
 ·exact T.n_min
 ·exact T.n_all
 ·exact T.n_any
 ·exact T.n_sorted
 ·exact T.n_set
theorem FL{z:Str}{v:gz}: ∀{l:List (Str×Value)},l.lookup z=some v->(z,v)∈l
 |[],h=>by cases h
 |(y,u)::l,h=>by
  rw[mG] at h;split at h
  ·rename_i q;cases h;rw[tj q];exact .head _
  ·exact .tail _ (FL h)
def btM{a:jX}{z:Str}{v:gz}(T:Tx a)(h:btT.lookup z=some v):a z=none:=(btA T _ (FL h)).1
def btN{z:Str}{v:gz}(h:btT.lookup z=some v):bootBuiltins z=some v:=(show ∀p∈btT,bootBuiltins p.1=some p.2 from by decide+kernel) _ (FL h)
section
variable {X:Cx}{x z:Str}{e a b c st lo G:gw}{m:iO}{q fb fc M Y fh:FO}{f g:F}{y U:FT}{p E I l r H:Pos}{A L:iK}{B:SB}{s:Hp}{fs:List FO}{Q:List F}{i j k:Nat}{tg:gw}{S:Stmt}{J Ts:List Stmt}{u v:FS}
def xV(h1:X.N[i]?=some x:=by rfl)(d:Vis X.env.scope x:=by first|exact Or.inl rfl|exact Or.inr (Or.inl rfl)|exact Or.inr (Or.inr rfl))(h:DB x:=by decide)(n:(x==("__classdict__":Str))=false:=by decide):QO X (.Name x l) (gk i):=⟨Rq h1 d h n⟩
def xW(h1:X.N[i]?=some x:=by rfl)(d:Vis X.env.scope x:=by first|exact Or.inl rfl|exact Or.inr (Or.inl rfl)|exact Or.inr (Or.inr rfl))(h:DB x:=by decide)(n:(x==("__classdict__":Str))=false:=by decide):QX X (.Name x l) (jJ i):=⟨Qy h1 d h n⟩
def xO(h:QX X e f):QO X e (gn f):=⟨PX.po h.h⟩
def x1{j}:QX X (.Constant .none j l) (fC .non):=⟨QU⟩
def x2{i j}:QX X (.Constant (.bool i) j l) (fC (.bl i)):=⟨OY⟩
def x3{i j}:QX X (.Constant (.int i) j l) (fC (.int i)):=⟨Q3⟩
def x4{i j}:QX X (.Constant (.str i) j l) (fC (.str i)):=⟨QD⟩
def x6{i:Str}(h: ∃t,X.mg x=some (.str i t))(g:Gl X x:=by rfl)(d:DB x:=by decide):QX X (.Name x l) (fC (.str i)):=let⟨_,h⟩:=h;⟨Na g h d⟩
def x7:QX X (.Dict [] [] l) Me:=⟨Nc⟩
def x8{i j:Int}{a b:Nat}:QX X (.Dict [some (.Constant (.int i) a p)] [.Constant (.int j) b E] l) (Ho i j):=⟨Nb⟩
def iU{d:Operator}{g:D->D->Option (D×Bool)}(o:QP X (binaryOp d) g)(n:QO X a q)(t:QO X b fb):QX X (.BinOp a d b l) (gy g q fb):=⟨Q5 o.h n.h t.h⟩
def vb(d:QO X a q):QX X (.UnaryOp .USub a l) (jg nC q):=⟨QV d.h⟩
def PU(d:QX X a f):QX X (.UnaryOp .Not a l) (DO f):=⟨QR d.h⟩
def CH{d:CmpOp}{g:D->D->Option (D×Bool)}(o:QP X (compareOp d) g)(n:QO X a q)(t:QO X b fb)(w:behindInMarks d b=false:=by first|exact Ln _|with_unfolding_all rfl):QX X (.Compare a [d] [b] l) (gy g q fb):=⟨Q4 o.h n.h t.h w⟩
def tCmp{d:CmpOp}{g:D->D->Option (D×Bool)}(o:QP X (compareOp d) g)(n:QO X a q)(t:QO X b fb)(w:behindInMarks d b=false:=by first|exact Ln _|with_unfolding_all rfl):QT X (.Compare a [d] [b] l) (fT (gy g q fb)):=⟨Nl o.h n.h t.h w⟩
def xCh{d n:CmpOp}(o:QO X a q)(t:QO X b fb)(w:QO X c fc)(N:uh d:=by first|exact .inl rfl|exact .inr (.inl rfl)|exact .inr (.inr (.inl rfl))|exact .inr (.inr (.inr rfl)))(O:uh n:=by first|exact .inl rfl|exact .inr (.inl rfl)|exact .inr (.inr (.inl rfl))|exact .inr (.inr (.inr rfl)))(C:lastMarks [d,n] [b,c]=false:=by with_unfolding_all rfl):QX X (.Compare a [d,n] [b,c] l) (vE d n q fb fc):=⟨Kw N O o.h t.h w.h C⟩
def xBo{op}(d:QX X a f):QX X (.BoolOp op [a] l) f:=⟨Ng d.h⟩
def HG(d:QX X a f)(n:QX X (.BoolOp .And (b::m) l) g):QX X (.BoolOp .And (a::b::m) l) (zL f g):=⟨Q6 d.h n.h⟩
def wOr(d:QT X a y)(n:QW X (.BoolOp .Or (b::m) l) U):QW X (.BoolOp .Or (a::b::m) l) (yQ y U):=⟨Q8 d.h n.h⟩
def JP(d:QT X a y):QW X (.BoolOp .Or [a] l) y:=⟨Nh d.h⟩
def tW{op}(h:QW X (.BoolOp op m l) y):QT X (.BoolOp op m l) y:=⟨Q7 h.h⟩
def tNot(d:QT X a y):QT X (.UnaryOp .Not a l) (lT y):=⟨Nk d.h⟩
def wt(h:QX X e f)(n: ∀d,isTrue e X.env d=(do let v <-d;standAt e.pos;holding [v] (truthy v)):=by intro _;rfl):QT X e (fT f):=⟨Nj h.h n⟩
def xIf(o:QT X c y)(d:QX X a f)(n:QX X b g):QX X (.IfExp c a b l) (fIf y f g):=⟨T5 o.h d.h n.h⟩
def xIx(d:QO X a q)(n:QO X b fb)(o:uE b:=by exact λ_ _=>rfl):QX X (.Subscript a b l) (gy gIx q fb):=⟨T4 d.h n.h o⟩
def U4(t:un X.A 1)(d:QO X a q)(n:QO X b fb)(o:uE b:=by exact λ_ _=>rfl):QX X (.Subscript a b l) (gy DK q fb):=⟨QZ t d.h n.h o⟩
def PR(d:QO X a q)(n:QO X lo Y):QX X (.Subscript a (.Slice (some lo) none none E) l) (wj q Y):=⟨M6 d.h n.h⟩
def JI(d:QO X a q)(n:QO X G fh):QX X (.Subscript a (.Slice none (some G) none E) l) (qr q fh):=⟨M7 d.h n.h⟩
def U2(d:QO X a q)(n:QO X st fb):QX X (.Subscript a (.Slice none none (some st) E) l) (Mc q fb):=⟨QH d.h n.h⟩
def xL0:QL X [] []:=⟨M3⟩
def xL(d:QX X e f)(n:QL X m Q)(o:SE X e m:=by rfl):QL X (e::m) (f::Q):=⟨Ks d.h n.h o⟩
def xA0:QA X [] []:=⟨wQ⟩
def xA(d:QO X e q)(n:QA X m fs)(o:SE X e m:=by rfl):QA X (e::m) (q::fs):=⟨qg d.h n.h o⟩
def kF{k}(h:QL X m Q):QX X (.Tuple m k l) (jG Q):=⟨M5 h.h⟩
def lC(h:QL X m Q):QX X (.List m l) (jH Q):=⟨M8 h.h⟩
def xB{id:String}{g:List D->Option (D×Bool)}(T:Tx X.mg)(hv:btT.lookup z=some (.builtin id))(n:QC X (.builtin id) g)(d:QA X (e::m) fs)(t:Gl X z:=by rfl)(w:z≠"__name__":=by decide)(N:DB z:=by decide)(o:SE X e m:=by rfl)(C:BA X l m:=by rfl):QX X (.Call (.Name z p) (e::m) [] l) (gJ g fs):=⟨GQ n.h t (btM T hv) (btN hv) d.h w N o C⟩
def xT{id:String}{g:List D->Option (D×Bool)}(T:Tx X.mg)(hv:btT.lookup z=some (.type id))(n:QC X (.type id) g)(d:QA X (e::m) fs)(t:Gl X z:=by rfl)(w:z≠"__name__":=by decide)(N:DB z:=by decide)(o:SE X e m:=by rfl)(C:BA X l m:=by rfl):QX X (.Call (.Name z p) (e::m) [] l) (gJ g fs):=⟨GO n.h t (btM T hv) (btN hv) d.h w N o C⟩
def xI{t:Ty}(T:Tx X.mg)(d:btT.lookup z=some (.type t.n))(w:QO X e q)(C:Gl X "isinstance":=by rfl)(o:Gl X z:=by rfl)(N:z≠"__name__":=by decide)(j5:DB z:=by decide)
  (s1:SE X e [.Name z E]:=by rfl)(s2:SE X (.Name z E) []:=by rfl)(O:BA X l [.Name z E]:=by rfl):
  QX X (.Call (.Name "isinstance" p) [e,.Name z E] [] l) (jg (pU [t]) q):=⟨Q0 w.h C T.n_isinstance o (btM T d) (btN d) N j5 mq s1 s2 O⟩
def xI2{t O:Ty}{d:Str}{w:Pos}{o}(T:Tx X.mg)(N:btT.lookup z=some (.type t.n))(C:btT.lookup d=some (.type O.n))(ha:QO X e q)(hg:Gl X "isinstance":=by rfl)(aA:Gl X z:=by rfl)(hn:z≠"__name__":=by decide)(j5:DB z:=by decide)(cf:Gl X d:=by rfl)(bZ:d≠"__name__":=by decide)(cu:DB d:=by decide)
  (s1:SE X e [.Tuple [.Name z E,.Name d I] o w]:=by rfl)(s2:SE X (.Tuple [.Name z E,.Name d I] o w) []:=by rfl)
  (s3:SE X (.Name z E) [.Name d I]:=by rfl)(s4:SE X (.Name d I) []:=by rfl)
  (i6:BA X l [.Tuple [.Name z E,.Name d I] o w]:=by rfl):
  QX X (.Call (.Name "isinstance" p) [e,.Tuple [.Name z E,.Name d I] o w] [] l) (jg (pU [t,O]) q):=⟨M9 ha.h hg T.n_isinstance aA (btM T N) (btN N) hn j5 cf (btM T C) (btN C) bZ cu mq s1 s2 s3 s4 i6⟩
def xU{k:Nat}{ps:iw}{d:EvF}(O:Oz (zX X) k x ps d)(N:Room k X.A)(o:QA X (e::m) fs)(w:Gl X x:=by rfl)(j5:DB x:=by decide)
  (t:SE X e m:=by rfl)(T:BA X l m:=by rfl):QX X (.Call (.Name x p) (e::m) [] l) (gA d fs):=
 let⟨_,_,ok,C,D,n⟩:=O;⟨M4 ok N w C D n o.h j5 t T⟩
def Te{T:String}{mk:List D->D}{o:Bool}(d:Tx X.mg)(hv:btT.lookup z=some (.type T))(C:QA X [a,b] [q,fb])(w:(T="list"/\mk= .lst/\o=true)\/(T="tuple"/\mk= .tup/\o=false):=by first|exact .inl ⟨rfl,rfl,rfl⟩|exact .inr ⟨rfl,rfl,rfl⟩)(N:X.calm=true:=by rfl)(O:Gl X z:=by rfl)(hn:z≠"__name__":=by decide)(j5:DB z:=by decide)(t:Gl X "range":=by rfl)
  (s1:SE X (.Call (.Name "range" E) [a,b] [] I) []:=by rfl)(s2:SE X a [b]:=by rfl)
  (i6:BA X l []:=by rfl)(n:BA X I [b]:=by rfl):
  QX X (.Call (.Name z p) [.Call (.Name "range" E) [a,b] [] I] [] l) (gJ (gRg mk o) [q,fb]):=⟨QE w N O (btM d hv) (btN hv) hn j5 t d.n_range C.h s1 s2 i6 n⟩
def PY(hv:QO X (.Name x r) (gk i))(n:QX X e f)(w:attributeBase (.Name x r) "append" X.env (eval (.Name x r) X.env)=eval (.Name x r) X.env:=by rfl)
  (C:((backTo l (starEach [e] X.env)).all (λx=>!x.1)&&(backToKw l (keywordEach [] X.env)).all (λx=>x.1.isSome)&&decide ([e].length+([]:List Keyword).length+(if([]:List Keyword).isEmpty then 0 else 1)<30))=true:=by rfl)
  (t:(H.endLine==l.line)=true:=by rfl)(o:SE X e []:=by rfl)(d:BA X l []:=by rfl):QX X (.Call (.Attribute (.Name x r) "append" H) [e] [] l) (lK i f):=⟨HV hv.h n.h w C t o d⟩
def U3(hv:QO X (.Name x r) (gk i))(n:QO X e M)(w:attributeBase (.Name x r) "pop" X.env (eval (.Name x r) X.env)=eval (.Name x r) X.env:=by rfl)
  (C:((backTo l (starEach [e] X.env)).all (λx=>!x.1)&&(backToKw l (keywordEach [] X.env)).all (λx=>x.1.isSome)&&decide ([e].length+([]:List Keyword).length+(if([]:List Keyword).isEmpty then 0 else 1)<30))=true:=by rfl)
  (t:(H.endLine==l.line)=true:=by rfl)(o:SE X e []:=by rfl)(d:BA X l []:=by rfl):QX X (.Call (.Attribute (.Name x r) "pop" H) [e] [] l) (sH i M):=⟨Ku hv.h n.h w C t o d⟩
def iR1(T:Tx X.mg)(d:QA X [a] [q])(n:Gl X "range":=by rfl)(o:starEach [a] X.env=[(false,eval a X.env)]:=by rfl):QI X B tg (.Call (.Name "range" p) [a] [] l) (sA q):=⟨Ft n T.n_range d.h o⟩
def iR2(T:Tx X.mg)(d:QA X [a,b] [q,fb])(n:Gl X "range":=by rfl)(o:starEach [a,b] X.env=[(false,eval a X.env),(false,eval b X.env)]:=by rfl)(t:starEach [b] X.env=[(false,eval b X.env)]:=by rfl):QI X B tg (.Call (.Name "range" p) [a,b] [] l) (FQ q fb):=⟨Fs n T.n_range d.h o t⟩
def iZ{d:iO}{N:Nat}{O:Pos}(T:Tx X.mg)(n:QX X a f)(o:QX X b g)(t:Gl X "zip":=by rfl)(w:SE X a [b]:=by rfl)(v9:SE X b []:=by rfl)(C:BA X l [b]:=by rfl):
  QI X B (.Tuple d N O) (.Call (.Name "zip" p) [a,b] [] l) (DE f g):=⟨Nv t T.n_zip n.h o.h w v9 C⟩
def iS(h:QX X e f):QI X B tg e (jP f):=⟨Nw h.h⟩
def iSV(h:QO X e (gk i))(d:B i:=by decide):QI X B tg e (yG (gk i)):=⟨Dh h.h (BH d)⟩
def iZV{d:iO}{k1:Nat}{l7:Pos}(T:Tx X.mg)(t:QO X a (gk i))(w:QO X b (gk j))(n:B i:=by decide)(o:B j:=by decide)(C:Gl X "zip":=by rfl)(N:SE X a [b]:=by rfl)(v9:SE X b []:=by rfl)(O:BA X l [b]:=by rfl):
  QI X B (.Tuple d k1 l7) (.Call (.Name "zip" p) [a,b] [] l) (ql (gk i) (gk j)):=⟨Dg C T.n_zip t.h w.h (BH n) (BH o) N v9 O⟩
def gN(d:X.N.Nodup)(G:X.N[i]?=some x:=by rfl)(o:Loc X.env.scope x:=by first|exact Or.inl rfl|exact Or.inr rfl)(n:X.fn x=true\/X.env.scope.names.lookup x=some .local:=by first|exact Or.inl rfl|exact Or.inr rfl)(h:A i:=by decide):QG X A (.Name x l) (gx i):=⟨KU d G o n h⟩
def gT{d n:Tg}{k:Nat}(h1:QG X A a d)(o:QG X A b n)(t:X.calm=true:=by rfl)(N:(assignEach [a,b] X.env).map (·.2)=assign a X.env::(assignEach [b] X.env).map (·.2):=by rfl)(O:(assignEach [b] X.env).map (·.2)=assign b X.env::(assignEach [] X.env).map (·.2):=by rfl)
  (w:(assignEach [a,b] X.env).length=2:=by rfl)(C:(assignEach [a,b] X.env).findIdx? (·.1)=none:=by rfl):QG X A (.Tuple [a,b] k l) (ly [d,n]):=⟨NA t (Ai h1.h (Ai o.h KW O) N) w rfl C⟩
theorem f0:QF X [] iX:=⟨KP⟩
def f1(h:QT X e y):QF X [e] y:=⟨KO h.h⟩
def bE{o:om}{C:iq}{d:gm}{n:Nat}(t:QX X e f)(w:o[n+1]?=none:=by rfl):QB X A d (.ListComp e o C p) n (iH f):=⟨Lc w t.h⟩
def cOk{N P:iw}{n scope:iq}{N':iw}{d:iI}(S:FnScope N P n)(h:Cr N n scope N' d k=true:=by decide+kernel)(o:X.N=N:=by rfl)(t:X.env.scope=n:=by rfl):CompOk X N' scope d k:=Mm o t h
def xC{c:pM}{iu:om}{T:gw}{scope:iq}{fi:FIt}{tt:Tg}{ti:FT}{fb:FB}{o:iI}{N':iw}(C:CompOk X N' scope o k)(nd:N'.Nodup)(pi:QI X (λi=>i∉o) c.target c.iter fi)
  (r6: ∀(cl:jy) (C:gm) (O:gu) (t:Hp) (w:ji) (n:hG),(X.comp N' scope cl C O t w n).N.Nodup->
   QG (X.comp N' scope cl C O t w n) (λi=>o.length<=i) c.target tt/\QF (X.comp N' scope cl C O t w n) c.ifs ti/\ ∀d,QB (X.comp N' scope cl C O t w n) (λi=>o.length<=i) d (.ListComp T (c::iu) scope l) 0 fb)
  (hc:X.calm=true:=by rfl)(ha:c.is_async=0:=by rfl)(l5: ∀g',iu[0]?=some g'->g'.is_async=0:=by intro g' h;cases h;try rfl)(hs: ∀x,foldedSetIterable c.iter X.env x=pure x:=by intro _;rfl):QX X (.ListComp T (c::iu) scope l) (iC o k fi tt ti fb):=⟨Nd C hc ha l5 hs pi.h λcl C O t w n=>let⟨a,b,c⟩:=r6 cl C O t w n nd;⟨a.h,b.h,λd=>(c d).h⟩⟩
def sC{c:pM}{iu:om}{t:gw}{scope:iq}{fi:FIt}{tt:Tg}{ti:FT}{fb:FB}{o:iI}{N':iw}{py h9:Pos}(hN:X.N.Nodup)(C:CompOk X N' scope o k)(nd:N'.Nodup)(pi:QI X (λi=>i∉o) c.target c.iter fi)
  (r6: ∀(cl:jy) (C:gm) (T:gu) (w:Hp) (O:ji) (n:hG),(X.comp N' scope cl C T w O n).N.Nodup->
   QG (X.comp N' scope cl C T w O n) (λi=>o.length<=i) c.target tt/\QF (X.comp N' scope cl C T w O n) c.ifs ti/\ ∀d,QB (X.comp N' scope cl C T w O n) (λi=>o.length<=i) d (.ListComp t (c::iu) scope l) 0 fb)
  (bf:swapsWith (.ListComp t (c::iu) scope l) (some (.Name x py)) h9.line X.env=pure true:=by rfl)(G:X.N[i]?=some x:=by rfl)(hx:X.env.scope.names.lookup x=some .local:=by rfl)(hf:X.fn x=true:=by rfl)(hA:A i:=by decide)
  (hc:X.calm=true:=by rfl)(ha:c.is_async=0:=by rfl)(l5: ∀g',iu[0]?=some g'->g'.is_async=0:=by intro g' h;cases h;try rfl)(hs: ∀x,foldedSetIterable c.iter X.env x=pure x:=by intro _;rfl):QS X A L s (.Assign [.Name x py] (.ListComp t (c::iu) scope l) h9) (jx i (iC o k fi tt ti fb)):=⟨KA bf C hc ha l5 hs pi.h (GY hN G (Or.inl hx) (Or.inl hf)) hA λcl C T w O n=>let⟨a,b,c⟩:=r6 cl C T w O n nd;⟨a.h,b.h,λd=>(c d).h⟩⟩
def s0:QQ X A L s [] gX:=⟨KC⟩
def s1(h:QS X A L s S u)(d:QQ X A L s J v):QQ X A L s (S::J) (gB u v):=⟨HZ h.h d.h⟩
def sX:QS X A L s S BP:=⟨HX⟩
def sR(h:QX X e f):QS X A L s (.Return (some e) l) (jf f):=⟨Nq h.h⟩
def sRV(o: ¬L i)(h1:X.N[i]?=some x:=by rfl)(d:Vis X.env.scope x:=by first|exact Or.inl rfl|exact Or.inr (Or.inl rfl)|exact Or.inr (Or.inr rfl))(h:DB x:=by decide)(n:(x==("__classdict__":Str))=false:=by decide):QS X A L s (.Return (some (.Name x p)) l) (qM i):=⟨Fn h1 d h n o⟩
def sE(h:QX X e f)(d:swapsWith e none l.line X.env=pure false:=by rfl):QS X A L s (.Expr e l) (oD f):=⟨Ky h.h d⟩
def sI(o:QT X c y)(d:QQ X A L s J u)(n:QQ X A L s Ts v):QS X A L s (.If c J Ts l) (sIf y u v):=⟨Rh o.h d.h n.h⟩
def sW{n:Nat}(o:QT X c y)(d:QQ X A L s J u)(t:PassesOwn (model X.prog X.w) X.A X.env X.xe:=by exact PassesOwn.never):QS X A L s (.While c J [] l) (lX y u n):=⟨HW t o.h d.h⟩
def sF{d:FIt}{t:Tg}(G:QI X (λ_=>False) tg e d)(C:QG X A tg t)(n:QQ X A L s J u)(N:PassesOwn (model X.prog X.w) X.A X.env X.xe:=by exact PassesOwn.never)(o:X.calm=true:=by rfl)(O: ∀x,foldedSetIterable e X.env x=pure x:=by intro _;rfl):QS X A L s (.For tg e J [] l) (sh d t u):=⟨Nt N o G.h C.h n.h O⟩
def sS(d:X.N.Nodup)(o:QX X e f)(G:X.N[i]?=some x:=by rfl)(C:Loc X.env.scope x:=by first|exact Or.inl rfl|exact Or.inr rfl)(t:X.fn x=true\/X.env.scope.names.lookup x=some .local:=by first|exact Or.inl rfl|exact Or.inr rfl)(n:A i:=by decide)(w:swapsWith e (some (.Name x p)) l.line X.env=pure false:=by rfl):QS X A L s (.Assign [.Name x p] e l) (jx i f):=⟨Np d G C o.h w t n⟩
def sT{t:Tg}{pt:Pos}(d:QX X e f)(n:QG X A (.Tuple m k pt) t)(o:swapsWithSole [.Tuple m k pt] e l.line X.env=pure false:=by rfl)(w:swappedStores [.Tuple m k pt] e X.env=pure none:=by rfl)(h1:(assignEach [.Tuple m k pt] X.env).map (·.2)=[assign (.Tuple m k pt) X.env]:=by rfl):QS X A L s (.Assign [.Tuple m k pt] e l) (HR t f):=⟨Nn d.h n.h o w h1⟩
theorem sIx{d:Pos}(hv:QO X (.Name x r) (gk i))(w:QX X e f)(G:QO X a M)
  (t: ∀v,assign (.Subscript (.Name x r) a d) X.env v=(do
   let n <-holding [v] (eval (.Name x r) X.env)
   let o <-holding [v,n] (eval a X.env)
   standAt d
   holding [v,n,o] (setItem n o v)
   release [v,n,o] []):=by intro _;rfl)
  (C:swapsWithSole [.Subscript (.Name x r) a d] e l.line X.env=pure false:=by rfl)(N:swappedStores [.Subscript (.Name x r) a d] e X.env=pure none:=by rfl)
  (h1:(assignEach [.Subscript (.Name x r) a d] X.env).map (·.2)=[assign (.Subscript (.Name x r) a d) X.env]:=by rfl):QS X A L s (.Assign [.Subscript (.Name x r) a d] e l) (oX i f M):=⟨HY hv.h w.h G.h t C N h1⟩
def sDP{d:Pos}(N:un X.A 1)(hv:QO X (.Name x r) (gk i))(w:QX X e f)(G:QO X a M)
  (t: ∀v,assign (.Subscript (.Name x r) a d) X.env v=(do
   let n <-holding [v] (eval (.Name x r) X.env)
   let o <-holding [v,n] (eval a X.env)
   standAt d
   holding [v,n,o] (setItem n o v)
   release [v,n,o] []):=by intro _;rfl)
  (C:swapsWithSole [.Subscript (.Name x r) a d] e l.line X.env=pure false:=by rfl)(O:swappedStores [.Subscript (.Name x r) a d] e X.env=pure none:=by rfl)
  (h1:(assignEach [.Subscript (.Name x r) a d] X.env).map (·.2)=[assign (.Subscript (.Name x r) a d) X.env]:=by rfl):QS X A L s (.Assign [.Subscript (.Name x r) a d] e l) (vU i f M):=⟨Kz N hv.h w.h G.h t C O h1⟩
end
def Fz(K:gK)(b:jX)(x:Str)(st:Stmt):Prop:= ∃f a,b x=some (.ref f)/\Fun K x x st f a
def fz{K:gK}{h:gL}{e:jX}{x:Str}{st:Stmt}{f:gm}{i:gz}{j g:Option Addr}{n:pW}{kV b m d ct:gz}(X:K.In h)(G:h.Ns mainGlobals e)(a:PySem.W.nsIn K mainGlobals x=some (some (.ref f)))
  (l:K.lookup f=some ⟨i,j,.func (PySem.W.fnOf x x (pI st) (kg st) (gr st) .none kV b m g d ct),n⟩)(c:PySem.W.codeIn K d x=true)(k:PySem.W.keepIn K (.ref f)=true):Fz K e x st:=⟨f,_,PySem.W.mg_of X G a,L4 l c k⟩
def BdA(x:Str)(st:Stmt)(c:iw):Prop:= ∀(kV a f:gz) (d:Option Addr) (e ct:gz) (b:ik),b.length=c.length->bindArgs (PySem.W.fnOf x x (pI st) (kg st) (gr st) .none kV a f d e ct) ⟨b,[]⟩=pure (c.zip b)
def scM{N P:iw}{a:iq}(h1:a.kind= .function:=by rfl)(b:a.isCoroutine=false:=by rfl)(c:a.isGenerator=false:=by rfl)(d:N.Nodup:=by decide+kernel)(e:N.take P.length=P:=by rfl)(f: ∀x∈P,a.names.lookup x=some .local\/a.names.lookup x=some .cell:=by decide+kernel)(g: ∀y∈a.names,y.2≠ .free:=by decide+kernel):FnScope N P a:=⟨h1,b,c,d,e,f,g⟩
def Bd(Z:ZZ)(k:Nat)(x:Str)(st:Stmt)(N d:iw)(c:iI)(fs:FS):Prop:= ∀(f:gm) (b:gz) (A:gR) (a:List Env) (s:gu) (H:Hp) (E:XK) (L:iK),(∀i,L i->i<d.length)->Room k (A.deeper (envOfC x (gr st) s.heap.objs.size f b))->
 un (A.deeper (envOfC x (gr st) s.heap.objs.size f b)) 60->un (A.deeper (envOfC x (gr st) s.heap.objs.size f b)) 1->un (A.deeper (envOfC x (gr st) s.heap.objs.size f b)) 62->un (A.deeper (envOfC x (gr st) s.heap.objs.size f b)) 90->N.Nodup->
 QQ (nY CX0 Z.P Z.w Z.K Z.mg Z.base N x (gr st) f b A a s H E).nox (λi=>i∈c) L H (kg st) fs
def fnB{Z:ZZ}{k:Nat}{x:Str}{st:Stmt}{N c:iw}{b:iI}{fs:FS}{f:gm}{d:kY}(F:Fun Z.K x x st f d)(S:FnScope N c (gr st))(j:Bd Z k x st N c b fs):FnOk Z.P Z.w Z.K Z.mg Z.base CX0 (k+1) f d c (spF Z.K (evF N.length c.length b fs)):=
 Sj F S λg A a s H E L i e=>by
  have:=e.un;exact(j f g A a s H E L i e (by unfold un;omega) (by unfold un;omega) (by unfold un;omega) (by unfold un;omega) S.nd).h
def ozB{Z:ZZ}{k:Nat}{x:Str}{st:Stmt}{N c:iw}{asg:iI}{fs:FS}(a:Fz Z.K Z.mg x st)(S:FnScope N c (gr st))(b:BdA x st c)(e:Bd Z k x st N c asg fs):Oz Z (k+1) x c (evF N.length c.length asg fs):=
 let⟨f,d,m,F⟩:=a;⟨f,d,fnB F S e,m,F.kp,F.binds b⟩
def us0{P:List Value->Prop}(h:P []): ∀b:List Value,b.length=0->P b:=λb e=>by cases b with|nil=>exact h|cons a l=>cases e
def us1{P:List Value->Prop}{n:Nat}(h: ∀a,∀b:List Value,b.length=n->P (a::b)): ∀b:List Value,b.length=n+1->P b:=λb e=>by cases b with|nil=>cases e|cons a l=>exact h a l (Nat.succ.inj e)
def oz0{Z:ZZ}{x:Str}{st:Stmt}{c:iw}(a:Fz Z.K Z.mg x st)(b:BdA x st c):Oz Z 0 x c (λ_=>none):=
 let⟨f,d,m,F⟩:=a;⟨f,d,Oe,m,F.kp,F.binds b⟩
def txK{K:gK}{h:gL}{g:jX}(X:K.In h)(G:h.Ns mainGlobals g)(i:PySem.W.nsIn K mainGlobals "len"=some none)(j:PySem.W.nsIn K mainGlobals "abs"=some none)(k:PySem.W.nsIn K mainGlobals "int"=some none)(l:PySem.W.nsIn K mainGlobals "tuple"=some none)(m:PySem.W.nsIn K mainGlobals "list"=some none)(n:PySem.W.nsIn K mainGlobals "range"=some none)(o:PySem.W.nsIn K mainGlobals "isinstance"=some none)(p:PySem.W.nsIn K mainGlobals "bool"=some none)(q:PySem.W.nsIn K mainGlobals "max"=some none)(r:PySem.W.nsIn K mainGlobals "min"=some none)(a:PySem.W.nsIn K mainGlobals "all"=some none)(b:PySem.W.nsIn K mainGlobals "any"=some none)(c:PySem.W.nsIn K mainGlobals "sorted"=some none)(d:PySem.W.nsIn K mainGlobals "enumerate"=some none)(e:PySem.W.nsIn K mainGlobals "zip"=some none)(f:PySem.W.nsIn K mainGlobals "set"=some none):Tx g:=⟨mE X G i,mE X G j,mE X G k,mE X G l,mE X G m,mE X G n,mE X G o,mE X G p,mE X G q,mE X G r,mE X G a,mE X G b,mE X G c,mE X G d,mE X G e,mE X G f⟩
abbrev abI(i:Int):Int:=if i<0 then -i else i
section
variable {d:gS}{w:gO}{A:gR}{E:hZ}{s:gu}
def Kb{a:gm}{f:ik}{r:gC}{n:Nat}{P:PySem.Fin->Shared->Prop}(T:s.heap.get? a=some (seqObj "list" f.toArray n))(hi:IntsAre f r)(h64:f.length<64)
  (h: ∀g y N c,(∀b o,b≠a->s.heap.get? b=some o->g.get? b=some o)->g.get? a=some (seqObj "list" N c)->KskOut false (r.map abI) f N.toList->P (.done (.ret .none)) {s with heap:=g,toks:=y}):
  wpAny (model d w) A (ksk_tree a (.builtin "abs") false) P E s:=by
 have ha:a<s.heap.objs.size:=iJ T;have hlen:=hi.length;have L: ∀k,k<=f.length->k<=sizeLine:=λk hk=>by rw[iB];omega
 unfold ksk_tree;refine gq (Eg T rfl (gq (se T rfl ?_ (L _ (by simp)) (mF _))));obtain⟨B,t9⟩: ∃B,(s.heap.update a (Obj.mapSeq λ_=>(#[]:Array Value))).get? a=some (seqObj "list" #[] B):=⟨_,uJ T λ_=> #[]⟩
 refine gq (xp t9 rfl (gq (Bb ?_ (L _ (by simp)))));refine gq (AV ?_ (mF _));refine lO ?_
 let h1:=nI s.heap a f
 let m:Addr:=((s.heap.update a (Obj.mapSeq λ_=>(#[]:Array Value))).push (seqObj "tuple" f.toArray 0)).objs.size
 have hk:m=s.heap.objs.size+1:=by show _=_;simp only[m];rw[size_push',Heap.size_update]
 have I:a≠m:=by rw[hk];exact iP (xF ha)
 have X: ∀b o,b≠a->s.heap.get? b=some o->h1.get? b=some o:=λb o z e=>iA _ (iA _ (by rw[Ef _ _ _ _ z];exact e));have K:h1.get? a=some (seqObj "list" #[] B):=iA _ (iA _ t9);have V:h1.get? m=some (seqObj "list" #[] 0):=jr _ rfl;show wpAny (model d w) A (ksk_rest a (.builtin "abs") false f.toArray B (.ref m)) P E {s with heap:=h1};unfold ksk_rest;refine gq (rJ ?_);rw[List.forIn_toArray];refine gq (ksk_fold (λi Y=> ∃g y l e,Y={s with heap:=g,toks:=y}/\(∀b o,b≠m->h1.get? b=some o->g.get? b=some o)/\g.get? m=some (seqObj "list" l e)/\IntsAre l.toList ((r.map abI).take i)) f 0 _ ⟨h1,s.toks,#[],0,rfl,λ_ _ _ e=>e,V,.nil⟩ (λj x Y hx F=>?_) λY F=>?_)
 ·obtain⟨g,y,l,e,rfl,U,M,p⟩:=F;have hj:j<f.length:=(uG.mp hx).1;obtain⟨t,ht⟩:=hi.get j r[j] (iW (by omega));rw[hx] at ht;cases ht
  have q:l.size<=f.length:=by
   have:=p.length;rw[ni,tD] at this;omega
  refine gq (sQ (call_abs_int λu Z=>?_));dsimp only;have s1:=xa g m (Obj.mapSeq (·.push (.int (abI r[j]) u)));refine gq (se (s:={s with heap:=g,toks:=Z}) M rfl ?_ (L _ q) (mw (Nat.le_of_eq (Array.size_push ..)) (by rw[iB];omega)));refine gE ⟨rfl,_,_,l.push (.int (abI r[j]) u),_,rfl,λb o z e=>(s1.2 b z).trans (U b o z e),uJ M _,?_⟩;rw[vN,List.take_add_one,jL,iW (show j<r.length by omega),Array.toList_push];rw[vN] at p;exact p.append (.cons _ _ .nil)
 ·obtain⟨g,y,l,e,rfl,U,M,p⟩:=F;have p:IntsAre l.toList (r.map abI):=by rwa [vN,A0 (by simp;omega)] at p
  have q:l.size=f.length:=by
   have:=p.length;rw[ni,jm] at this;omega
  have O:(l.zip f.toArray).size=f.length:=by rw[Array.size_zip,q,je,Nat.min_self]
  refine gq (Eg (s:={s with heap:=g,toks:=y}) M rfl ?_)
  have v: ∀st:SortSt,(arrOf st).Perm (l.zip f.toArray)->SortedTo (arrOf st) (arrOf st).size->failedOf st=none->wpAny (model d w) A (ksk_tail a false B (.ref m) st) P E {s with heap:=g,toks:=y}:=λst J W R=>by
   have s1:=xa g m (Obj.mapSeq λ_=>(#[]:Array Value));have D:(g.update m (Obj.mapSeq λ_=>(#[]:Array Value))).get? a=some (seqObj "list" #[] B):=(s1.2 a I).trans (U a _ I K);have s2:=xa (g.update m (Obj.mapSeq λ_=>(#[]:Array Value))) a (Obj.mapSeq λ_=>(arrOf st).map (·.2));unfold ksk_tail;simp only[jY,jl];refine gq (se (s:={s with heap:=g,toks:=y}) M rfl ?_ (L _ (by omega)) (mF _));refine gq (Ba (gq (xp D rfl (gq (se D rfl ?_ (mF _) (Nat.le_succ_of_le (show((arrOf st).map (·.2)).size<=sizeLine from L _ (by rw[Array.size_map,J.size_eq,O];exact iY _))))))));rw[R];simp only[uU,jY,jl];refine gE (h _ _ _ _ (λb o z e=>?_) (uJ D _) (ksk_out (b:=false) p J W));have H:b≠m:=by rw[hk];exact iP (xF (iJ e))
   exact(s2.2 b z).trans ((s1.2 b H).trans (U b o H (X b o z e)))
  unfold ksk_end;simp only[jY,jl];by_cases G:f.toArray.size<2
  ·rw[gF G,gF G];refine gq (gE ?_);rw[El];refine gq (gE (v _ (Array.Perm.refl _) (λi j m5 hj=>?_) rfl));have S:j<(l.zip f.toArray).size:=hj;rw[O] at S;rw[je] at G;have:i=j:=by omega
   subst this;exact Int.le_refl _
  ·rw[hJ G,hJ G];rw[je] at G;rw[ksk_kind p (by rw[q];omega)];refine gq (gE ?_)
   refine gq (lQ (wpS_sortRuns (a₀:=l.zip f.toArray) (st:=SortSt.mk' oneType' (l.zip f.toArray) #[] 7 none) (Q:=λ_ C=>(arrOf C).Perm (l.zip f.toArray)/\failedOf C=none/\SortedTo (arrOf C) (l.zip f.toArray).size)
    (ksk_intKeys p) ⟨Array.Perm.refl _,rfl,rfl,rfl⟩ (by rw[O];omega) (by rw[O];exact h64) λC a1 a2 a3=>⟨a1,a2,a3⟩) ?_ λ_ _ e=>e)
   rintro⟨⟨⟩,C⟩ Y ⟨rfl,J,R,W⟩;exact v C J (by rw[J.size_eq];exact W) R
end
def aD:D->Int
 | .int i=>abI i
 |_=>0
def isI:D->Bool
 | .int _=>true
 |_=>false
def ltA(x y:D):Bool:=decide (aD x<aD y)
def vC:D->Option (D×Bool)
 | .lst l=>if l.all isI=true/\(l.map aD).Nodup/\l.length<64 then some (.lst (lR ltA l),true) else none
 |_=>none
theorem DG{x:D}: ∀{l:List D},l.Pairwise (λa b=>aD a<=aD b)->(Ce ltA x l).Pairwise λa b=>aD a<=aD b
 |[],_=>by simp[Ce]
 |y::l,h=>by
  obtain⟨h1,e⟩:=Gn.mp h;unfold Ce;by_cases d:aD y<aD x
  ·rw[gF (by simpa[ltA] using d)];refine Gn.mpr ⟨λz c=>?_,DG e⟩;rcases jM.mp ((qU ltA x l).mem_iff.mp c) with rfl|c
   ·omega
   ·exact h1 z c
  ·rw[hJ (by simpa[ltA] using d)];refine Gn.mpr ⟨λz c=>?_,h⟩;rcases jM.mp c with rfl|c
   ·omega
   ·have:=h1 z c;omega
theorem vh: ∀l:List D,(lR ltA l).Pairwise λa b=>aD a<=aD b
 |[]=> .nil
 |_::l=>DG (vh l)
theorem An: ∀{l:List D},(l.map aD).Nodup-> ∀a∈l,∀b∈l,aD a=aD b->a=b
 |x::l,h,a,d,b,f,e=>by
  rw[jw,wJ] at h;rcases jM.mp d with h1|h1<;>rcases jM.mp f with c|c
  ·rw[h1,c]
  ·exact absurd (h1▸e▸xm c) h.1
  ·exact absurd (c▸e▸xm h1) h.1
  ·exact An h.2 a h1 b c e
def Kd{l m:List D}(c:m.Perm l)(g:m.Pairwise λa b=>aD a<=aD b)(f:(l.map aD).Nodup):m=lR ltA l:=by
 refine(c.trans (jv ltA l).symm).eq_of_pairwise (le:=λa b=>aD a<=aD b) (λa b d e x y=>An f a (c.mem_iff.mp d) b ((jv ltA l).mem_iff.mp e) (by omega)) g (vh l)
section
variable {X:Cx}{f:hG}{g:L2.St}{H:Hp}{s:gu}
theorem Qm{O:AP'}: ∀{l:List D} {j:List V} {c:ik},l.all isI=true->RepL X.K H O l j->Vals j c-> ∃e:List Int,l=e.map .int/\IntsAre c e
 |[],j,c,_,r,v=>by
  rw[RepL] at r;subst r;cases v;exact⟨[],rfl,.nil⟩
 |d::l,j,c,h,r,v=>by
  rw[RepL] at r;obtain⟨x,o,rfl,m,n⟩:=r;rw[List.all_cons,kZ] at h
  cases d with
  |int i=>
   cases v with
   |cons a b=>
    obtain⟨e,rfl,k⟩:=Qm h.2 n b;rw[gY (.inl m)] at a;obtain⟨t,rfl⟩:=a;exact⟨i::e,rfl,.cons _ _ k⟩
  |_=>exact absurd h.1 (by simp[isI])
theorem Ta: ∀{l:List D} {a:gC} {xs:List V} {its:ik},l=a.map .int->xs.length=l.length->its.length=l.length->(a.map abI).zip its=(l.zip (xs.zip its)).map λt=>(aD t.1,t.2.2)
 |[],[],_,_,_,_,_=>by simp
 |d::l,i::a,x::xs,u::its,h,h1,b=>by
  obtain⟨rfl,c⟩:=uK h;have:=Ta (xs:=xs) (its:=its) c (by simpa using h1) (by simpa using b);simp only[jw,List.zip_cons_cons,this];rfl
def Fc{u:gz}{Q:VK}{O:AP'}{d:D}{z:D×Bool}{x:V}(I:Inv X f g H s)(ru:RelV x u)(np: ∀p,¬Ow (H p)-> ¬O p)(hd:jq X.K H O d x)(T:vC d=some z)(G:Gen X.K H O z Q):
  wpAny (model X.prog X.w) X.A (call (.builtin "sorted") [u] [(Str.ofString "key",.builtin "abs")]) (EP X f g Q) X.xe s:=by
 cases d with
 |lst l=>
  obtain⟨⟨hI,hn,hz⟩,rfl⟩:=hV T;obtain⟨p,xs,rfl,q,J⟩:=jD hd;cases ru;obtain⟨j,v,pl,_⟩:=I.list q;have e1:=J.length;have e2:=v.length;obtain⟨ns,S,r⟩:=Qm hI J v;have hl:j.length<=sizeLine:=by rw[iB];omega
  obtain⟨o,ho,hc,n,ef⟩:=pl.isList;refine call_function_entry_kw kind_sorted plain_sorted entry_sorted (ksk_s1 _ _) ?_;unfold Builtin.«sorted»;refine gq (m:=checkCount "sorted" 1 1 _) (gE ?_);refine gq (Ee p (.inl rfl) ho hc ef (λh1 k1=>?_) (by rw[je];omega));rw[List.toList_toArray];refine gq (AV ?_ hl);have M:(h1.push (seqObj "list" j.toArray 0)).get? h1.objs.size=some (seqObj "list" j.toArray 0):=jr _ rfl;have L:Inv X f g H {s with heap:=h1}:=I.kept k1;refine gq (lO (wpAny_call_entry_kw (s:={s with heap:=h1.push (seqObj "list" j.toArray 0)}) slot_list_sort ⟨_,M,rfl⟩ entry_list_sort ?body (ksk_l1 _ _)))
  case body=>
   show wpAny _ _ (Builtin.«list.sort» ⟨[.ref h1.objs.size],[(Str.ofString "key",.builtin "abs")]⟩) _ _ _;rw[ksk_t4];refine Kb (s:={s with heap:=h1.push (seqObj "list" j.toArray 0)}) M r (by omega) λh' tk E c k2 k3 ko=>⟨_,rfl,gE ⟨_,rfl,?_⟩⟩
   obtain⟨ps,Y,k,F⟩:=ko;rw[Ta S (by omega) (by omega)] at Y;obtain⟨a,P,rfl⟩:=zy _ Y _ rfl;rw[ir] at k
   have B: ∀t∈a,Rep X.K H O t.1 t.2.1/\RelV t.2.1 t.2.2:=λt hm=>by
    obtain⟨i,hi⟩:=List.getElem?_of_mem (P.mem_iff.mp hm);obtain⟨Z,W⟩:=Gp.mp hi;obtain⟨y,C⟩:=Gp.mp W;obtain⟨w,R,w2⟩:=v.get y;rw[C] at R;cases R;exact⟨J.views Z y,w2⟩
   have N:a.map (·.1)=lR ltA l:=by
    refine Kd ?_ (by rw[oi] at F ⊢;exact F.imp λh=>by simpa using h) hn;have:=P.map (·.1)
    rwa [List.map_fst_zip (by simp;omega)] at this
   have hR: ∀a:List (D×V×Value),(∀t∈a,Rep X.K H O t.1 t.2.1/\RelV t.2.1 t.2.2)->RepL X.K H O (a.map (·.1)) (a.map (·.2.1))/\Vals (a.map (·.2.1)) (a.map (·.2.2)):=λa=>by
    induction a with
    |nil=>exact λ_=>⟨.nil,.nil⟩
    |cons t a ih=>
     intro h;obtain⟨i1,i2⟩:=ih λx hx=>h x (jA _ hx);exact⟨.cons (h t jB).1 i1,.cons (h t jB).2 i2⟩
   obtain⟨r1,r2⟩:=hR a B;have keep: ∀b o,h1.get? b=some o->h'.get? b=some o:=λb o e=>k2 b o (iP (iJ e)) (iA _ e);have U:a.length=l.length:=by have:=lP List.length N;rw[(jv ltA l).length_eq,jm] at this;exact this
   refine⟨.ref h1.objs.size,_,L.laid (t':=tk) keep (iY _) (show ObjOk X.prog X.w _ _ _ (.lst (a.map (·.2.1))) from⟨by rw[jm,iB];omega,E.toList,c,?_,?_⟩),rfl,?_⟩
   ·rw[k];exact r2
   ·rw[Ja];exact k3
   ·refine G.lst L.fresh ?_;rw[<-N];exact r1
 |_=>cases T
def K5{a:gw}{i:TA}{p b w v:Pos}(c:Gl X "sorted")(r:X.mg "sorted"=none)(j:Gl X "abs")(l:X.mg "abs"=none)(n:PA X [a] i)
  (o:backTo b (starEach [a] X.env)=(false,eval a X.env)::backTo b (starEach [] X.env))(m:(backTo b (starEach [a] X.env)).any (·.1)=false):
  PE X (.Call (.Name "sorted" p) [a] [⟨some "key",.Name "abs" w,v⟩] b) (tCB (rDn X.K (g1 vC)) i):=by
 intro f s g H Q I h;refine vQ (pk I c r IL (callWith_kw (thn (n b f s g H _ I h) λC s1 ⟨E,B,e,y,t⟩=>kws_cons (pk e j l SM (kws_nil ?_))) o m rfl rfl));obtain⟨O,k,z,np,q,hv,c,G⟩:=t
 match k,c with
 |[d],c=>
  obtain⟨x,rfl⟩:=G8 q rfl;obtain⟨u,rfl,A⟩:=pP y;exact Fc e A np (hv 0 d x rfl rfl) c G
def Kt{a:gw}{c:FO}{p b n m:Pos}(k:Gl X "sorted")(l:X.mg "sorted"=none)(d:Gl X "abs")(e:X.mg "abs"=none)(i:PA X [a] (tA X.K [c]))
  (j:backTo b (starEach [a] X.env)=(false,eval a X.env)::backTo b (starEach [] X.env))(h:(backTo b (starEach [a] X.env)).any (·.1)=false):
  PX X (.Call (.Name "sorted" p) [a] [⟨some "key",.Name "abs" n,m⟩] b) (gJ (g1 vC) [c]):=pxn (K5 k l d e i j h)
end
section
variable {prog:gS}{w:gO}{A:gR}{E:hZ}{s:gu}
theorem NU:typeLookup (.type "list") "keys"=pure none:=by rw[typeLookup_type,builtinLookup_eq_fast];kernel_rfl
def RX{a:gm}{o:Obj}{q:lA}{k:Nat}{Q:CC}(n:s.heap.get? a=some o)(m:o.cls= .type "list")(f:o.data= .seq q k)(hd:o.dict=none)(t:A.handled=none)
  (h: ∀b p e,Heap.NewExcOf s.heap b e "AttributeError"->Q none {s with heap:=b,toks:=p}):wpAny (model prog w) A (getAttr? (.ref a) "keys") Q E s:=by
 obtain⟨c,dct,r,v⟩:=o;simp only at m f hd;subst m f hd;obtain⟨u,g,d,p,os⟩:=s;have l: ∀j,(⟨u,g,d,j,os⟩:Shared).TypeIs (.ref a) "list":=λ_=>⟨_,n,rfl⟩
 have f1:=sub_AttributeError;have x:=MA.lookup;have y:=MA.bind (.ref a);have z:=am_list_getattr_none;unfold getAttr? getAttrBy? getAttrBy
 repeat (any_goals (first|assumption|exact l _|((with_reducible show wpAny _ _ (call (Value.builtin "list.__getattribute__") _ _) _ _ _);refine vO MA (l _) am_entry_list_getattribute (F.args_list_getattribute_2 _ _) (meets_getattribute_miss_list a q k v "keys" _ NU (by decide+kernel)) ⟨n,t,λb j e i=>?_⟩)|wp_step))
 obtain⟨C,G,B⟩:=i.there;show wpAny _ _ (getattributeRaised _ _ _ _ _ _ _) _ _ _;unfold getattributeRaised
 repeat (any_goals (first|assumption|wp_step))
 exact h _ _ _ i.of
end
def fPop(i:Nat):F:=λa=>match a[i]? with
 |some (some (.lst l,true))=>(l[l.length-1]?).bind λd=>some ((d,false),a.set i (some (.lst l.dropLast,true)))
 |_=>none
def RepL.dropLast{K H}{O:AP'}{l:List D}{a:List V}(r:RepL K H O l a):RepL K H O l.dropLast a.dropLast:=by
 rw[I9,I9,r.length];exact r.take _
section
variable {X:Cx}{x:Str}{i:Nat}{f c g:Pos}
def QK(hv:PO X (.Name x f) (gk i))(B:attributeBase (.Name x f) "pop" X.env (eval (.Name x f) X.env)=eval (.Name x f) X.env)(A:(c.endLine==g.line)=true):
  PX X (.Call (.Attribute (.Name x f) "pop" c) [] [] g) (fPop i):=
 PX.imp (RA Bg Js Jr RW hv B A) λM H Q y=>by
 obtain⟨r,T,L,I,E,e,k⟩:=y;unfold fPop at e;split at e
 ·rename_i l m;obtain⟨d,hd,e⟩:=gh e;obtain⟨rfl,rfl⟩:=gM e;refine⟨r,T,.slot i,r,E,by unfold gk;rw[m],λv J P=>?_⟩;obtain⟨t,p,h⟩:=P;obtain⟨a,g1,q,g2,g3⟩:=p.own i _ m;rw[h] at g1;cases g1;obtain⟨w,C,G⟩:=g3.get hd;have u:=g3.length;obtain⟨s,j⟩:=p.write m h (RepL.dropLast g3);refine⟨.inl ⟨rfl,q,SqL.of g2⟩,_,q,w,rfl,rfl,g2,by rw[u];exact C,?_⟩;exact k _ _ (Post.val (t.trans j) s (Rep.mono (λb o e n=>j.kp b o e λz=>n (.inl z)) (λb _ z=>z.imp (j.ow b) id) G))
 ·cases e
end
def Sg:=gI λi j=>if qy i j then some (.int (i*2^j.toNat)) else none
def Sf:=gI λi j=>if 0<=j then some (.int (i / 2^j.toNat)) else none
def L0:=gI λi j=>some (.int (Builtin.bitAnd i j))
section
variable {X:Cx}
def NL:OpR X (binaryOp .LShift) (rD X.K Sg):=qR RG
def NK:OpR X (binaryOp .RShift) (rD X.K Sf):=qR RF
def NM:OpR X (binaryOp .BitAnd) (rD X.K L0):=Dl RN
variable {a:gw}{e:FO}{p b f g d c:Pos}{x:Str}{i:Nat}
def xSA(T:Tx X.mg)(k:QA X [a] [e])(m:Gl X "sorted":=by rfl)(j:Gl X "abs":=by rfl)(l:backTo b (starEach [a] X.env)=(false,eval a X.env)::backTo b (starEach [] X.env):=by rfl)(n:BA X b [a]:=by rfl):
  QX X (.Call (.Name "sorted" p) [a] [⟨some "key",.Name "abs" f,g⟩] b) (gJ (g1 vC) [e]):=⟨Kt m (btM T (z:="sorted") rfl) j (btM T (z:="abs") rfl) k.h l n⟩
def Tf(hv:QO X (.Name x d) (gk i))(k:attributeBase (.Name x d) "pop" X.env (eval (.Name x d) X.env)=eval (.Name x d) X.env:=by rfl)(j:(c.endLine==b.line)=true:=by rfl):
  QX X (.Call (.Attribute (.Name x d) "pop" c) [] [] b) (fPop i):=⟨QK hv.h k j⟩
end
section
variable {X:Cx}{a:hG}{b:L2.St}{H:Hp}{s:gu}
theorem GK{K:gK}{O:AP'}: ∀(c:List Key),RepL K H O (c.map iV) (c.map kV)
 |[]=>RepL.nil
 |k::c=>by
  refine RepL.cons ?_ (GK c)
  cases k with
  |inl i=>exact Rep.mkInt
  |inr x=>exact Rep.mkStr
theorem sj{K:gK}{O:AP'}(np: ∀p,¬Ow (H p)-> ¬O p): ∀{c:List (List Key×V)} {d:List (List Key×Addr×Value)},L2.KT H c d->RepL K H O (c.map λp=> .tup (p.1.map iV)) (d.map λx=>V.ref x.2.1)
 |_,_,.nil=>RepL.nil
 |_,_,.cons h t=>by
  refine RepL.cons (Rep.mkTup ⟨h.2.1,np _ λz=>z.nt _ h.2.1⟩ (GK _)) (sj np t)
def yc{P:gS}{w:gO}(c:List (List Key×Addr×Value)):Vals (c.map λx=>V.ref x.2.1) ((c.map (entryOfKey (tupleKind (jc P w)))).map (·.key)):=by
 induction c with
 |nil=>exact .nil
 |cons x c d=>exact .cons rfl d
end
def Ci(d:D):Option (D×Bool):=match d with
 | .oth .dct a _=>some (.lst a,true)
 |_=>wd d
def J9{b:gS}{w:gO}{a:gm}{c:Array DictEntry}{d:Nat}(hd:(a==sysModules)=false):PySem.W.KdlSrc b w "dict" a a c.size (λi v=> ∃e,c[i]?=some e/\v=e.key) (λh=>TT.DRaw h a c d) where
 type:=λs x=>x.typeIs
 there:=λh x=>let⟨_,h1,_⟩:=x.at_;⟨iJ h1,iJ h1⟩
 keep:=λh j x k=>x.stay λo e=>k a (.inl rfl) o e
 notList:=by decide
 notTuple:=by decide
 hint:=λA E s Q x h=>PySem.W.kdl_hint_dict x.typeIs h
 iter:=λA s g x=>by
  have f:a<s.heap.objs.size:=let⟨_,h1,_⟩:=x.at_;iJ h1;exact⟨_,_,λE Q h=>TT.Hk hd x h,TT.D5 g s.heap.objs.size a (mH f) c d,⟨⟨_,jr _ rfl,rfl,rfl⟩,x.stay λo e=>iA _ e⟩⟩
section
variable {X:Cx}{b:hG}{f:L2.St}{H:Hp}{s:gu}
def ud(p:X.A.handled=none)(I:Inv X b f H s){a:gm}{g:Array DictEntry}{n:Nat}{O:AP'}{k:List D}{j:List V}{Q:VK}(hd:(a==sysModules)=false)(S:TT.DRaw s.heap a g n)(l:g.size<=sizeLine)
  (x:RepL X.K H O k j)(v:Vals j (g.toList.map (·.key)))(G:Gen X.K H O (.lst k,true) Q):wpAny (model X.prog X.w) X.A (call (.type "list") [.ref a]) (EP X b f Q) X.xe s:=by
 refine PySem.W.kdl_call (J9 hd) p S l λz y d c t r m=>?_
 have o:d.toList=g.toList.map (·.key):=by
  apply uO;intro i;rw[uV,jL,uV]
  cases h:d[i]? with
  |some u=>
   obtain⟨e,h1,rfl⟩:=m.2 i u h;rw[h1];rfl
  |none=>
   have:=S8.mp h;rw[S8.mpr (by rw[<-m.1];exact this)];rfl
 have q:=v.length;refine⟨.ref s.heap.objs.size,_,I.laid (t':=y) t (iY _) (show ObjOk X.prog X.w _ _ _ (.lst j) from⟨by rw[q,jm,ni];exact l,d.toList,c,by rw[o];exact v,by rw[Ja];exact r⟩),rfl,?_⟩;exact G.lst I.fresh x
def F9(N:X.calm=true):ju X (.type "list") (rDn X.K (g1 Ci)):=nG λb s f H x u Q O d z I B np hd t G=>by
 by_cases y: ∃m C,d= .oth .dct m C
 ·obtain⟨m,C,rfl⟩:=y;cases(show some (D.lst m,true)=some z from t);obtain⟨a,P,rfl,q,r⟩:=nk hd;cases B;have v:X.A.handled=none:=I.ok.hd N;rcases q with⟨h,e,rfl,rfl⟩|⟨h,e,rfl,rfl⟩
  ·obtain⟨U,i,T,c,o,n,L,h1,g,k,l,p,M⟩:=Hw I.hok e;have E:=vg p c;have w:=E.length;simp only[jm,ni] at w;exact ud v I i ⟨o,h1,g,k⟩ (by omega) (vp h) E G
  ·obtain⟨U,i,J,c,o,n,L,h1,g,k,l,p,M⟩:=Mj I.hok e;have w:=uZ c;have F:n.size=J.length:=size_of_entries l;exact ud v I i ⟨o,h1,g,k⟩ (by omega) (sj np c) (by rw[l];exact yc J) G
 ·have:Ci d=wd d:=by
   unfold Ci;split
   ·exact absurd ⟨_,_,rfl⟩ y
   ·rfl
  exact sM b s f H [x] [u] Q I (.cons B .nil) ⟨O,[d],z,np,rfl,λj Y R h1 g=>by
   cases j with
   |zero=>cases h1;cases g;exact hd
   |succ j=>simp at h1,by show wd d=some z;rw[<-this];exact t,G⟩
end
def DJ(d e:D):Option (D×Bool):=match d,e with
 | .lst l,.int k=>if 0<=k/\k<1000/\l.length*k.toNat<=sizeLine then some (.lst (List.replicate k.toNat l).flatten,true) else none
 |_,_=>nD d e
theorem RepL.rep{K H}{O:AP'}{l:List D}{a:List V}(r:RepL K H O l a): ∀n:Nat,RepL K H O (List.replicate n l).flatten (List.replicate n a).flatten
 |0=>RepL.nil
 |n+1=>by rw[tf,tf,uW,uW];exact r.append (RepL.rep r n)
section
variable {X:Cx}
def Lh:OpR X (binaryOp .Mult) (rD X.K DJ):=by
 intro j s σ H x y v u Q I Y o h;obtain⟨O,d,e,z,np,h1,C,E,G⟩:=h;by_cases J: ∃l k,d= .lst l/\e= .int k
 ·obtain⟨l,k,rfl,rfl⟩:=J;obtain⟨⟨W,Z,L⟩,rfl⟩:=hV (show(if 0<=k/\k<1000/\l.length*k.toNat<=sizeLine then some (D.lst (List.replicate k.toNat l).flatten,true) else none)=some z from E);obtain⟨p,xs,rfl,q,r⟩:=jD h1;cases Y;rw[gY C] at o;obtain⟨t,rfl⟩:=o;obtain⟨b,N,pl,_⟩:=I.list q;obtain⟨⟨S,dd,w,P⟩,n,e,M,_,B⟩:=pl;simp only at M B;subst M B;have A:=r.length;have V:=N.length;have i:b.toArray.size*k.toNat<=sizeLine:=by rw[je,<-V,A];exact L
  have f: ¬b.toArray.size*k.toNat>(2^63-1) / 8:=by
   have:(sizeLine:Nat)<=(2^63-1) / 8:=by decide
   omega
  have g: ¬(!Builtin.List.listFitsIndex k)=true:=by rw[fitsIndex_both (by omega) (by omega)];exact jT
  have c: ¬Builtin.List.listTooLong (b.toArray.size*k.toNat)=true:=by rw[Lm i];exact jT
  have R:List.foldl (λx1 x2=>x1++x2) #[] (List.replicate (if b.toArray.isEmpty=true then 0 else k.toNat) b.toArray)=(List.replicate k.toNat b).flatten.toArray:=by
   have f0: ∀m:Nat,List.foldl (λx1 x2=>x1++x2) #[] (List.replicate m b.toArray)=(List.replicate m b).flatten.toArray:=λm=>by
    have:=Ax b m []
    rwa [rB] at this
   rw[f0]
   cases b with
   |nil=>simp
   |cons a r'=>rw[hJ (by simp)]
  refine wpAny_binaryOp_repeat_ref (T:="list") (U:="int") (by decide) ⟨_,e,rfl⟩ (λs'=>typeIs_int s' k t) noFill_list_mul F.fills_int_mul F.slot_int_rmul repeat_list F.slot_int_index.lookup
   (vO F.slot_int_rmul (typeIs_int s k t) F.entry_int_rmul (F.args_int_rmul_2 _ _) (lm_int_rmul_list_any k t p b.toArray n dd P)
    ⟨e,rfl,⟨_,e,rfl⟩,vO F.slot_list_mul ⟨_,e,rfl⟩ F.entry_list_mul (F.args_list_mul_2 _ _) (lm_list_mul_any p b.toArray n dd P k t g f c) ⟨e,?_⟩⟩)
  rw[R];exact⟨.ref _,_,I.lnew (t':=s.toks) (N.rep k.toNat) (by rw[NZ,Nat.mul_comm,A];exact L),rfl,G.lst I.fresh (r.rep k.toNat)⟩
 ·have:DJ d e=nD d e:=by
   unfold DJ;split
   ·exact absurd ⟨_,_,rfl,rfl⟩ J
   ·rfl
  exact mn j s σ H x y v u Q I Y o ⟨O,d,e,z,np,h1,C,by rw[<-this];exact E,G⟩
end
section
variable {a:gS}{w:gO}{A:gR}{E:hZ}{I:gm}{c b:ji}{n:Nat}{P:Nat->Value->Prop}{St:Nat->Heap->Prop}
end
section
variable {X:Cx}{A:iK}{a:Pos}{c:iO}{b:List Tg}
end
section
variable {X:Cx}{A:iK}{a b:gw}{g:Pos}
variable {e j:gw}{f:F}{x z:Str}{p o l m:Pos}{i k:Nat}{L:iK}{q:Hp}
def xLS{c:pM}{scope:iq}{w:FIt}{tt:Tg}{y:FT}{r:iI}{N':iw}{s:Pos}(T:Tx X.mg)(C:CompOk X N' scope r k)(J:N'.Nodup)(M:QI X (λi=>i∉r) c.target c.iter w)
  (O: ∀(cl:jy) (C:gm) (v:gu) (t:Hp) (u:ji) (n:hG),(X.comp N' scope cl C v t u n).N.Nodup->
   QG (X.comp N' scope cl C v t u n) (λi=>r.length<=i) c.target tt/\QF (X.comp N' scope cl C v t u n) c.ifs y/\QX (X.comp N' scope cl C v t u n) j f)
  (E:X.calm=true:=by rfl)(B:c.is_async=0:=by rfl)(H: ∀x,foldedSetIterable c.iter X.env x=pure x:=by intro _;rfl)(G:Gl X "len":=by rfl)
  (h1:starEach [.SetComp j [c] scope g] X.env=(false,eval (.SetComp j [c] scope g) X.env)::starEach [] X.env:=by rfl)(I:(backTo s (starEach [] X.env)).any (·.1)=false:=by rfl):
  QX X (.Call (.Name "len" p) [.SetComp j [c] scope g] [] s) (qY r k w tt y (zg f)):=
 ⟨HU C E B (by intro Q h;cases h) H M.h (λcl C v t u n=>let⟨a,b,c⟩:=O cl C v t u n J;⟨a.h,b.h,λd=>Ih rfl c.h⟩) G T.n_len SJ (by decide) (by decide) h1 I⟩
def iE1{B:SB}{d:iO}{w:Nat}{y:Pos}{c:Int}{n:Nat}(T:Tx X.mg)(r:QX X a f)(s:Builtin.SmallTypes.fitsIndex c=true:=by decide)(u:Gl X "enumerate":=by rfl)(s0:SE X a []:=by rfl)
  (t:backTo g (starEach [a] X.env)=(false,eval a X.env)::backTo g (starEach [] X.env):=by rfl)(v:(backTo g (starEach [a] X.env)).any (·.1)=false:=by rfl):
  QI X B (.Tuple d w y) (.Call (.Name "enumerate" p) [a] [⟨some "start",.Constant (.int c) n l,m⟩] g) (Cd c f):=⟨Ic u T.n_enumerate r.h s s0 t v⟩
end
def nB(d:D):Option (D×Bool):=match d with
 | .oth .dct a _=>kH a
 |_=>none
def qW(d e:D):Option (D×Bool):=match e with
 | .oth .dct a b=>if oJ a d=true then some (.bl (!(kc a b d).isSome),false) else none
 |_=>none
section
variable {X:Cx}{b:hG}{c:L2.St}{H:Hp}{s:gu}
def Fu(o:X.A.units+62<cLine):OpR X (compareOp .NotIn) (rD X.K qW):=by
 intro b s c H x y v u Q I m n h;obtain⟨O,d,e,z,np,h1,l,f,G⟩:=h;by_cases j: ∃g i,e= .oth .dct g i
 ·obtain⟨g,i,rfl⟩:=j;obtain⟨hk,rfl⟩:=hV (show(if oJ g d=true then some (D.bl (!(kc g i d).isSome),false) else none)=some z from f);obtain⟨a,t,rfl,q,r⟩:=nk l;cases n;exact UC (by omega) I q r hk h1 m true λp k=>⟨.bl _,H,k,by simp[L2.RelV],G.bl⟩
 ·unfold qW at f;split at f
  ·exact absurd ⟨_,_,rfl⟩ j
  ·cases f
def uu(hc:X.calm=true)(N:X.A.units+62<cLine):ju X (.builtin "sorted") (rDn X.K (g1 nB)):=nG λb s c H x u Q O d z I W np hd h G=>by
 by_cases M: ∃v T,d= .oth .dct v T
 ·obtain⟨v,T,rfl⟩:=M;have B:kH v=some z:=h;obtain⟨a,us,rfl,q,r⟩:=nk hd;cases W;have J:X.A.handled=none:=I.ok.hd hc;rcases q with⟨g,e,rfl,rfl⟩|⟨g,e,rfl,rfl⟩
  ·obtain⟨zl,i,Z,f,o,C,S,h1,m,n,p,E,V⟩:=Hw I.hok e;have U:=vg E f;have L:=U.length;simp only[jm,ni] at L;exact qF N I (vp (O:=O) g) U B G λR F D j t=>TT.Mn i (by rw[j];exact J) ⟨o,h1,m,n⟩ (by omega) λl y k=>t l y k
  ·obtain⟨zl,i,Y,f,o,C,S,h1,m,n,p,E,V⟩:=Mj I.hok e;have L:=uZ f;have hz:C.size=Y.length:=size_of_entries p;refine qF N I (sj np f) (yc (P:=X.prog) (w:=X.w) Y) B G λR F D j t=>TT.Mn i (by rw[j];exact J) ⟨o,h1,m,n⟩ (by omega) λl y k=>?_;rw[p];exact t l y k
 ·unfold nB at h;split at h
  ·exact absurd ⟨_,_,rfl⟩ M
  ·cases h
end
end PX
namespace TT
open PySem PyProof.Rows PySem.SeqAt
def AA:entryFor table "dict.update.loop"=some Builtin.«dict.update.loop»:=entryFor_of_tree (by kernel_rfl)
theorem qP:plainId "dict.update.loop"=true:=by decide+kernel
section
variable {prog:gS}{w:gO}{A:gR}{R:Result->Shared->Prop}{I:gm}{c a:ji}{G:Array GenState->Array GenState->Prop}{n:Nat}{P:Nat->Value->Prop}{St:Nat->Shared->Prop}
def ID(W:WalksS prog w A.in1 I c a G n P St)(S:gm)(N:S∉c)(s0:gu)(j:Nat->Heap->Prop)(stay: ∀i h f,j i h->(∀o,h.get? S=some o->f.get? S=some o)->j i f)
  (step: ∀i v (d:gu),i<n->P i v->j i d.heap->Moved (S::a) G s0 d-> ∃p k x,v= .ref p/\d.heap.IsTuple p #[k,x]/\ ∀(Q:Unit->Shared->Prop) (E:hZ),(∀f L,d.toks<=L->Heap.SameBut S d.heap f->j (i+1) f->Q () {d with heap:=f,toks:=L})->wpAny (model prog w) A.in1 (dictSet S k x) Q E d):
  ∀(k i:Nat) (s:gu),n-i=k->i<=n->St i s->j i s.heap->Moved (S::a) G s0 s->(∀d,Moved (S::a) G s0 d->j n d.heap->R (.ok (.ret .none)) d)->
   codeAny (model prog w) A (.builtin "dict.update.loop" ⟨[.ref S,.ref I,rawInt i,.none],[]⟩) R s:=by
 have l:S∉a:=λh=>N (W.sub _ h);have Y: ∀b∈a,b∈S::a:=λb m=>jA _ m;intro k
 induction k with
 |zero=>
  intro i s hk X J B y z;have H:i=n:=by lia
  subst H;refine sU AA ?_;rw[xb qP _];show wpAny _ A.in1 (pyNext (.ref I)>>=_) _ _ s;refine gq (W.done s _ _ J λd q=>?_);show wpAny _ A.in1 (Builtin.Dict.addKeywords S []>>=λ_=>ret Value.none) _ _ d;exact gq (gE (gE (z d (Moved.trans W.gtrans y (q.mono Y)) (stay _ _ _ B λo e=>q.heap S o l e))))
 |succ k ih=>
  intro i s hk X J B y z;have M:i<n:=by lia
  refine sU AA ?_;rw[xb qP _];show wpAny _ A.in1 (pyNext (.ref I)>>=_) _ _ s;refine gq (W.item i s _ _ M J λv d F t q=>?_);have r:=Moved.trans W.gtrans y (q.mono Y);obtain⟨p,T,x,rfl,Z,g⟩:=step i v d M F (stay _ _ _ B λo e=>q.heap S o l e) r;show wpAny _ A.in1 (holding [.ref p] _>>=_) _ _ d;refine gq (lO ?_);obtain⟨o,O,V,n',D⟩:=Z;have K:d.TypeIs (.ref p) "tuple":=⟨o,O,V⟩
  refine gq (wpAny_tryCatch ?_);unfold Builtin.Dict.pairItems;refine gq (tm K ?_);show wpAny _ _ (seqItems? (.ref p)>>=_) _ _ _;refine gq (uL O D ?_);refine gE ?_;show wpAny _ _ (holding [T,x] (dictSet S T x)) _ _ _;refine lO (g _ _ λf L u U C=>?_);refine gE ⟨uM qP _,ih (i+1) _ (by lia) M (W.frame _ d _ _ t u λb m o e=>?_) C (r.then_heap u λb o m e=>?_) z⟩
  ·rw[U.2 b (λh:b=S=>N (by rw[<-h];exact m))];exact e
  ·rw[U.2 b (λh:b=S=>m (by rw[h];exact jB))];exact e
end
section
variable {prog:gS}{w:gO}{A:gR}{E:hZ}{s:gu}
abbrev D6:Obj:={cls:= .type "dict",data:= .dict #[]}
def PC{l:gm}{a:lA}{n:Nat}{r:Obj}{Q:hZ}(T:A.handled=none)(U:s.heap.get? l=some r)(y:r.cls= .type "list")(J:r.data= .seq a n)(eU:r.dict=none)(j:Nat->Heap->Prop)
  (stay: ∀i h d,j i h->(∀o,h.get? s.heap.objs.size=some o->d.get? s.heap.objs.size=some o)->j i d)
  (mY: ∀d,d.get? s.heap.objs.size=some D6->j 0 d)
  (step: ∀i v (c:gu) (B:gR),B.units<=A.units+20->a[i]?=some v->j i c.heap->(∀b o,s.heap.get? b=some o->c.heap.get? b=some o)->c.gens=s.gens->c.drawn=s.drawn->c.os=s.os->
   ∃p k x,v= .ref p/\c.heap.IsTuple p #[k,x]/\ ∀(Q:Unit->Shared->Prop) (E:hZ),(∀d t,c.toks<=t->Heap.SameBut s.heap.objs.size c.heap d->j (i+1) d->Q () {c with heap:=d,toks:=t})->wpAny (model prog w) B (dictSet s.heap.objs.size k x) Q E c)
  (h: ∀(d:gL) (t:Nat),j a.size d->(∀b o,s.heap.get? b=some o->d.get? b=some o)->Q (.ref s.heap.objs.size) {s with heap:=d,toks:=t}):
  wpAny (model prog w) A (call (.type "dict") [.ref l]) Q E s:=by
 refine callType_codes (Q₁:=λobj g=>obj= .ref s.heap.objs.size/\g={s with heap:=s.heap.push D6}) F.kt_called_dict (F.kt_typeCall_dict_1 _) F.entry_dict_init (kt_code_dict_new _ ⟨rfl,rfl⟩) ?_;rintro obj g ⟨rfl,rfl⟩;have M:(s.heap.push D6).get? s.heap.objs.size=some D6:=jr _ rfl;have O:Shared.TypeIs {s with heap:=s.heap.push D6} (.ref s.heap.objs.size) "dict":=⟨_,M,rfl⟩
 have u:(s.heap.push D6).get? l=some r:=iA _ U;have H:Shared.TypeIs {s with heap:=s.heap.push D6} (.ref l) "list":=⟨_,u,y⟩
 refine⟨O,F.args_dict_init_2 _ _,?_⟩;unfold Builtin.«dict.__init__»;refine gq ?_;unfold Builtin.Dict.selfAndRest;refine gq (Jf O ?_);show wpAny _ _ (pure (s.heap.objs.size,[Value.ref l])) _ _ _;refine gE ?_;show wpAny _ _ (Builtin.Dict.updateFrom "dict.__init__" s.heap.objs.size (.ref l) [] .none) _ _ _;unfold Builtin.Dict.updateFrom;refine gq (tm H ?_);rw[gF (by decide)];refine gq (PX.RX u y J eU (by simp[T]) λh1 tk1 e1 z=>?_);have m:h1.IsList l a:=⟨_,z.keeps _ _ u,y,n,J⟩
 have L:=z.keeps _ _ M;have hlS:l<s.heap.objs.size:=iJ U;have N:s.heap.objs.size<h1.objs.size:=iJ L;have q:l≠h1.objs.size:=by lia
 have V:s.heap.objs.size∉[h1.objs.size,l]:=by simp only[jM,kx,lD,pX];lia
 have I:A.in1.in1.handled=none:=by simp[T]
 have W:=Walks.list (prog:=prog) (w:=w) I h1.objs.size l q a;show wpAny _ _ (rule _>>=λ_=>pyIter (.ref l)>>=λit=>again (.builtin "dict.update.loop" ⟨[.ref s.heap.objs.size,it,rawInt 0,.none],[]⟩)) _ _ _;refine gq (rJ ?_);refine gq (Br m ?_);refine gE ⟨uM qP _,?_⟩
 have ext: ∀{G:Array GenState->Array GenState->Prop} {s0 c:gu},(∀b o,h1.get? b=some o->s0.heap.get? b=some o)->Moved (s.heap.objs.size::[h1.objs.size]) G s0 c-> ∀b o,s.heap.get? b=some o->c.heap.get? b=some o:=λ{G s0 c} h0 f b o e=>by
  have hb:=iJ e;exact f.heap b o (by simp only[jM,kx,lD,pX];lia) (h0 _ _ (z.keeps _ _ (iA _ e)))
 refine ID W.toS s.heap.objs.size V _ j stay ?st (a.size-0) 0 _ (by lia) (mF _) ⟨⟨_,jr _ rfl,rfl,rfl⟩,m.push _⟩ (mY _ (iA _ L)) (Moved.refl λ_=>rfl) ?hR
 case st=>exact λi v c hi hP C f=>step i v c _ (by show A.units+1+1<=A.units+20;lia) hP C (ext (λ_ _ e=>iA _ e) f) f.gens f.drawn f.os
 case hR=>
  intro c f Y;have ex:=ext (λ_ _ e=>iA _ e) f;obtain⟨d,Z,P,D,K⟩:=c;have S:Z=s.gens:=f.gens;have R:P=s.drawn:=f.drawn;have X:K=s.os:=f.os;subst S;subst R;subst X;exact⟨rfl,h d D Y ex⟩
end
end TT
namespace PX
open PySem PySem.Spec PyProof.Rows L2 PySem.SeqAt
def prD:D->Option (Int×Int)
 | .tup [.int k,.int x]=>some (k,x)
 |_=>none
def H9:List D->Option (List (Int×Int))
 |[]=>some []
 |d::l=>(prD d).bind λp=>(H9 l).map (p:: ·)
def yo(a:List (Int×Int))(p:Int×Int):List (Int×Int):=if(a.any λq=>decide (q.1=p.1))=true then a.map (λq=>if q.1=p.1 then(q.1,p.2) else q) else a++[p]
def nE(a:List (Int×Int)):List (Int×Int):=a.foldl yo []
def Cj:D->Option (D×Bool)
 | .lst l=>(H9 l).bind λa=>if a.length<=1000 then some (.oth .dct ((nE a).map λp=> .int p.1) ((nE a).map λp=> .int p.2),true) else none
 |_=>none
abbrev kvI(a:List (Int×Int)):List (Key×V):=a.map λp=>(.inl p.1,.int p.2)
theorem Rb(a:List (Int×Int))(p:Int×Int):kvI (yo a p)=mS (kvI a) (.inl p.1) (.int p.2):=by
 unfold yo mS
 have h:((kvI a).any λc=>decide (c.1= .inl p.1))=a.any λq=>decide (q.1=p.1):=by
  rw[Ea];congr 1;funext q;simp
 rw[h];split
 ·unfold kvI;rw[ir,ir];refine nh λq _=>?_;by_cases b:q.1=p.1<;>simp[b]
 ·simp
def Kx(a:List (Int×Int))(p:Int×Int):(yo a p).length<=a.length+1:=by unfold yo;split<;>simp
theorem yO: ∀(b a:List (Int×Int)),(b.foldl yo a).length<=a.length+b.length
 |[],a=>by simp
 |p::b,a=>by have:=yO b (yo a p);have:=Kx a p;simp only[xH,kT];lia
theorem Iz{a:List (Int×Int)}{i:Nat}{p:Int×Int}(h:a[i]?=some p):nE (a.take (i+1))=yo (nE (a.take i)) p:=by
 unfold nE;rw[Eh,h,List.foldl_append];rfl
theorem GV: ∀{l:List D} {a:List (Int×Int)},H9 l=some a->l.length=a.length/\ ∀(i:Nat) p,a[i]?=some p->l[i]?=some (.tup [.int p.1,.int p.2])
 |[],a,h=>by cases h;exact⟨rfl,λi p h=>by simp at h⟩
 |d::l,a,h=>by
  obtain⟨p,h1,h⟩:=gh h;obtain⟨g,f,rfl⟩:=ie h;obtain⟨c,e⟩:=GV f;refine⟨by simp[c],λi q b=>?_⟩
  cases i with
  |zero=>
   simp at b;subst b;unfold prD at h1;split at h1
   ·cases h1;rfl
   ·cases h1
  |succ i=>simpa using e i q (by simpa using b)
theorem Kk{K:gK}{H:Hp}{O:AP'}: ∀a:List (Int×Int),RepL K H O (a.map λp=> .int p.2) ((kvI a).map (·.2))
 |[]=>RepL.nil
 |_::a=>RepL.cons Rep.mkInt (Kk a)
section
variable {X:Cx}
def Gb(hc:X.calm=true):ju X (.type "dict") (rDn X.K (g1 Cj)):=nG λy s σ H x u Q O d z I ru np hd C G=>by
 cases d with
 |lst l=>
  obtain⟨b,N,C⟩:=gh C;obtain⟨hz,rfl⟩:=hV C;obtain⟨p,F,rfl,q,r⟩:=jD hd;cases ru;obtain⟨g,v,⟨ol,nn,eS,cb,eU,dX⟩,_⟩:=I.list q;obtain⟨e0,m⟩:=GV N;have e1:=r.length;have e2:=v.length;have hh:X.A.handled=none:=I.ok.hd hc;have P:=I.fresh
  refine TT.PC hh eS cb dX eU (λi h=> ∃j,KV (kvI (nE (b.take i))) j/\h.DictOf (jc X.prog X.w) s.heap.objs.size j)
   (λi h h' ⟨j,k,ob,L,J,e,c⟩ st=>⟨j,k,ob,L,J,st _ e,c⟩) (λh' e=>?_) (λi w s' B hB hi ⟨j,hk,hd⟩ E eg ed eo=>?_) (λh' tk ⟨j,hk,hd⟩ E=>?_)
  ·obtain⟨ob,L,J,R,c⟩:=(Heap.DictOf.new s.heap:(s.heap.push TT.D6).DictOf (jc X.prog X.w) s.heap.objs.size [])
   rw[jr _ rfl] at R;cases R;exact⟨[],.nil,_,L,J,e,c⟩
  ·have hil:i<g.length:=by
    have:=(SW.mp hi).1;simpa using this
   have hw:g[i]?=some w:=by simpa using hi
   have n:b[i]?=some b[i]:=iW (by lia);have t:F[i]?=some F[i]:=iW (by lia);obtain⟨w',W,Z⟩:=v.get t;rw[hw] at W;cases W;have o:Rep X.K H O (.tup [.int b[i].1,.int b[i].2]) F[i]:=r.views (m i _ n) t;obtain⟨h1,g1,dr1,D,os1⟩:=s';dsimp only at E eg ed eo hd;subst eg;subst ed;subst eo;have I':Inv X y σ H {s with heap:=h1,toks:=D}:=I.kept E;obtain⟨a,ys,ea,sq,f⟩:=lb (.inl o);rw[ea] at Z;cases Z;obtain⟨f7,v2,dI,_⟩:=I'.tuple sq;rw[RepL] at f;obtain⟨y1,r1,rfl,S,f⟩:=f;rw[RepL] at f;obtain⟨y2,r2,rfl,V,f⟩:=f;rw[RepL] at f;subst f;rw[Rep] at S V;subst S;subst V;obtain⟨u1,u2,rfl,U,Y⟩:=tL v2;obtain⟨t1,rfl⟩:=U;refine⟨a,_,_,rfl,dI,λQ' E' hq=>?_⟩;refine wpAny_dictSet_pairs (knd:=jc X.prog X.w) (k:= .inl b[i].1) (by simp[jc,wa,Value.isInt]) hd (λh2 M v5=>hq h2 _ (xJ _) v5 ⟨_,?_,M⟩) ?_
   ·rw[Iz n,Rb];exact hk.put _ Y
   ·have:=hk.length;have h1:=yO (b.take i) [];rw[<-this];unfold nE kvI;rw[jm,iB];simp only[rE,tD] at h1
    lia
  ·have T:g.toArray.size=b.length:=by simp;lia
   rw[T,List.take_length] at hk;have h1:=yO b [];refine⟨.ref s.heap.objs.size,upd H s.heap.objs.size (.dK (kvI (nE b))),I.laid E (iY _) ⟨?_,?_,j,hk,hd⟩,rfl,?_⟩
   ·unfold kvI nE;rw[jm,iB];simp only[rE] at h1
    lia
   ·have:=I.big;simp only[CF,ne_eq]
    lia
   ·refine G s.heap.objs.size _ P (ky P) ⟨(kvI (nE b)).map (·.2),.inl ⟨kvI (nE b),gU,?_,rfl⟩,?_⟩
    ·unfold kvI;rw[ir];rfl
    ·exact Kk _
 |_=>cases C
variable {a:gw}{f:FO}{p b:Pos}
def U6(i:X.mg "dict"=none)(c:QA X [a] [f])(d:X.calm=true:=by rfl)(g:Gl X "dict":=by rfl)(e:SE X a []:=by rfl)(j:BA X b []:=by rfl):QX X (.Call (.Name "dict" p) [a] [] b) (gJ (g1 Cj) [f]):=
 ⟨GO (Gb d) g i (by decide+kernel) c.h (by decide) (by decide) e j⟩
end
end PX
namespace L2
open PySem PySem.Spec PyProof.Rows PySem.W
def vB(q:Str):HO:= .tbl #[.str q 0]
structure OnlyT(TB:List (Addr×Str))(H:Hp):Prop where
 one: ∀b,H b=none\/(∃o xs,H b=some (.frz o (.lst xs)))\/ ∃q,(b,q)∈TB/\H b=some (vB q)
 all: ∀p∈TB,H p.1=some (vB p.2)
def Ip{P:gS}{w:gO}{K:gK}{C mb:jX}{CX:CXT}{k:Nat}{fa a:gm}{fd:kY}{x:Str}{sp:Sp}{c:gu}{J:ik}{L:gC}{TB:List (Addr×Str)}
  (KX:K.In c.heap)(aa:c.heap.Ns mainGlobals C)(g:c.heap.Ns builtinsNs mb)(hbb: ∀x:Str,x≠"__name__"->mb x=bootBuiltins x)(Y:c.heap.NoLimit)(hg:c.gens= #[])
  (Q: ∀p∈TB,c.heap.get? p.1=some (tabObj #[]))(ej: ∀p∈TB,K.lookup p.1=none)(ei: ∀p∈TB,isCodeTable c.heap p.1)(dw:(TB.map (·.1)).Nodup)(U: ∀p∈TB,c.heap.BuiltinsAt C p.1)
  (T:c.heap.get? a=some {cls:= .type "list",data:= .seq J.toArray})(hi:IntsAre J L)(hl:L.length<=sizeLine)(hr:Room k callerA)
  (F: ∀base:Heap,K.In base->base.Ns mainGlobals C->(∀p∈TB,base.BuiltinsAt C p.1)->FnOk P w K C base CX k fa fd [x] sp)(n4: ∀(s:gu) (u:gz),BindsTo s fd ⟨[u],[]⟩ [(x,u)])
  (bT: ∀H:Hp,OnlyT TB H->SqL K H a (L.map V.int)->sp [.ref a] H (λv H'=>v= .bl true/\ ∀p∈TB,H' p.1=some (vB p.2)) λ_ _ _=>False)
  (hCX: ∀H e j,CX [] H c (λ_ _ _=>False) e j->False):
  codeAny (model P w) callerA (.call (.ref fa) ⟨[.ref a],[]⟩) (λr j=>r= .ok (.ret (.bool true))/\OldK c.heap j.heap/\j.os=c.os/\AllBare j.gens) c:=by
 have rv:=zW hi;have R:=hi.length
 have Z: ∀p∈TB,p.1≠a:=λp f e=>by
  have:=Q p f;rw[e,T] at this;cases this
 have t: ∀H:Hp,OnlyT TB H->SqL K H a (L.map V.int)->HOk P w H c.heap->(∀b,H b≠none->b=a\/ ∃p∈TB,b=p.1)->(H a≠none->K.lookup a=none)->
   codeAny (model P w) callerA (.call (.ref fa) ⟨[.ref a],[]⟩) (λr j=>r= .ok (.ret (.bool true))/\OldK c.heap j.heap/\j.os=c.os/\AllBare j.gens) c:=by
  intro H hO hS D hA hK;have r8: ∀{b:gm} {o:Obj},c.heap.get? b=some o->H b=none->(zH c.heap H).get? b=some o:=λe n=>LQ e n
  have aO: ∀{b:gm} {o:Obj},c.heap.get? b=some o->(∀its n,o.data≠ .seq its n)->(∀G,o.data≠ .fields G)->H b=none:=λ{b o} e d d2=>by
   cases q:H b with
   |none=>rfl
   |some u=>
    rcases hA b (by rw[q];simp) with rfl|⟨p,f,rfl⟩
    ·rw[T] at e;cases e;exact absurd rfl (d _ _)
    ·rw[Q p f] at e;cases e;exact absurd rfl (d2 _)
  have X: ∀{b:gm} {m:jX},c.heap.Ns b m->(zH c.heap H).Ns b m:=λ{b m} ⟨o,es,ep,e,d,r⟩=>⟨o,es,ep,r8 e (aO e (λ_ _ z=>by rw[d] at z;cases z) λ_ z=>by rw[d] at z;cases z),d,r⟩
  have O:K.In (zH c.heap H):=λb o e=>r8 (KX b o e) (by
   cases q:H b with
   |none=>rfl
   |some u=>
    rcases hA b (by rw[q];simp) with rfl|⟨p,f,rfl⟩
    ·rw[hK (by rw[q];simp)] at e;cases e
    ·rw[ej p f] at e;cases e)
  have hBA: ∀p∈TB,(zH c.heap H).BuiltinsAt C p.1:=λp f=>by
   obtain⟨bm,o,h1,h2,h3,h4,h5,h6,h7,h8⟩:=U p f;exact⟨bm,o,h1,h2,h3,h4,r8 h5 (aO h5 (λ_ _ z=>by rw[h8] at z;cases z) λ_ z=>by rw[h8] at z;cases z),h6,h7,h8⟩
  have hM:Mod K C (zH c.heap H):=⟨O,X aa,⟨mb,X g,hbb⟩,let⟨mc,h1,h2⟩:=Y;⟨mc,X h1,h2⟩⟩
  have e0:Env0 P w K C (zH c.heap H) callerA [] c H:=⟨rfl,hM,λb o e=>NT e,Nat.le_of_eq (Iy _ _),trivial,λb g=>absurd (show b∈([]:List Addr) from g) (by simp),D,.of_eq hg⟩
  refine tE ((F _ O (X aa) hBA).run callerA [] c H ⟨[.ref a],[]⟩ [.ref a] [.ref a] _ _ hr e0 (n4 c (.ref a)) (.cons rfl .nil) (bT H hO hS)) λr j h=>?_
  cases r with
  |error e=>exact(hCX H e j h).elim
  |ok fl=>
   cases fl with
   |next=>exact False.elim h
   |brk=>exact False.elim h
   |cont=>exact False.elim h
   |ret u=>
    obtain⟨v,H',os,M,un,B,r',q,I⟩:=h;subst q;obtain rfl:u=Value.bool true:=r'
    have W: ∀p∈TB,∃G,j.heap.get? p.1=some (tabObj G):=λp f=>by
     obtain⟨_,_,G,_,e,_⟩:=(show ObjOk P w H' j.heap p.1 (.tbl #[.str p.2 0]) from B _ _ (I p f))
     exact⟨G,e⟩
    have keep: ∀b o,c.heap.get? b=some o->(∀p∈TB,b≠p.1)->j.heap.get? b=some o:=λb o e n=>by
     cases q:H b with
     |none=>exact un.keep b o e q (by intro z;exact absurd (show b∈([]:List Addr) from z) (by simp)) (by simp)
     |some u=>
      rcases hO.one b with z|⟨ob,xs,z⟩|⟨qq,hm,z⟩
      ·rw[q] at z;cases z
      ·have z2:=un.frzs b ob _ z;obtain⟨e1,_⟩:=D b _ z;obtain⟨N,_⟩:=B b _ z2;rw[e] at e1;cases e1;exact N
      ·exact absurd rfl (n _ hm)
    refine⟨rfl,⟨λb o e=>?_,λb o e=>?_⟩,os,M⟩
    ·by_cases g: ∃p∈TB,b=p.1
     ·obtain⟨p,f,rfl⟩:=g;obtain⟨G,N⟩:=W p f;rw[Q p f] at e;cases e;refine .inr (.inl ⟨ei p f,rfl,#[],G,rfl,?_⟩);rw[N];simp
     ·exact .inl (keep b o e λp f z=>g ⟨p,f,z⟩)
    ·by_cases g: ∃p∈TB,b=p.1
     ·obtain⟨p,f,rfl⟩:=g;obtain⟨G,N⟩:=W p f;exact⟨_,N⟩
     ·exact⟨o,keep b o e λp f z=>g ⟨p,f,z⟩⟩
 have A: ∀{b q},TB.lookup b=some q->(b,q)∈TB:=λh=>by
  revert h;generalize TB=l
  induction l with
  |nil=>intro h;simp at h
  |cons x l ih=>
   intro h;rw[mG] at h;split at h
   ·rename_i g;cases h;rw[OM.mp g];exact jB
   ·exact jA _ (ih h)
 have S: ∀p∈TB,TB.lookup p.1=some p.2:=by
  clear A t Z bT ej ei U F Q
  induction TB with
  |nil=>intro p f;simp at f
  |cons x l ih=>
   intro p f;rw[jw,wJ] at dw;rw[mG];rcases jM.mp f with rfl|f
   ·simp
   ·have:(p.1==x.1)=false:=by
     rw[CF];exact λe=>dw.1 (e▸xm f)
    rw[this];exact ih dw.2 p f
 have E: ∀(H:Hp) (b:gm) (q:Str),(b,q)∈TB->ObjOk P w H c.heap b (vB q):=λH b q hm=>⟨q,0,#[],rfl,Q _ hm,trivial,λpos cv z=>by simp[codeAmong] at z⟩
 cases hk:K.lookup a with
 |some o=>
  have e:=KX a o hk;rw[T] at e;cases e;refine t (λb=>(TB.lookup b).map vB) ⟨λb=>?_,λp f=>by rw[S p f];rfl⟩ (.inr ⟨_,J.toArray,_,hk,rfl,rfl,rfl,by rw[je,R];exact hl,by simpa using rv⟩) (λb u z=>?_) (λb z=>?_) (λz=>?_)
  ·cases q:TB.lookup b with
   |none=>exact .inl rfl
   |some y=>exact .inr (.inr ⟨y,A q,rfl⟩)
  ·have i:(TB.lookup b).map vB=some u:=z
   cases q:TB.lookup b with
   |none=>rw[q] at i;cases i
   |some y=>rw[q] at i;cases i;exact E _ b y (A q)
  ·have i:(TB.lookup b).map vB≠none:=z
   cases q:TB.lookup b with
   |none=>rw[q] at i;exact absurd rfl i
   |some y=>exact .inr ⟨_,A q,rfl⟩
  ·have i:(TB.lookup a).map vB≠none:=z
   cases q:TB.lookup a with
   |none=>rw[q] at i;exact absurd rfl i
   |some y=>exact absurd rfl (Z _ (A q))
 |none=>
  have hat: ∀p∈TB,(if p.1=a then some (HO.frz {cls:= .type "list",data:= .seq J.toArray} (.lst (L.map V.int))) else(TB.lookup p.1).map vB)=some (vB p.2):=λp f=>by rw[hJ (Z p f),S p f];rfl
  refine t (λb=>if b=a then some (.frz {cls:= .type "list",data:= .seq J.toArray} (.lst (L.map V.int))) else(TB.lookup b).map vB) ⟨λb=>?_,hat⟩ (.inl (.inr ⟨{cls:= .type "list",data:= .seq J.toArray},gF rfl⟩)) (λb u z=>?_) (λb z=>?_) λ_=>hk
  ·by_cases g:b=a
   ·exact .inr (.inl ⟨_,_,gF g⟩)
   ·cases q:TB.lookup b with
    |none=>exact .inl (by simp[g,q])
    |some y=>exact .inr (.inr ⟨y,A q,by simp[g,q]⟩)
  ·by_cases g:b=a
   ·have i:=(gF g).symm.trans z;cases i;subst g;exact⟨T,by rw[jm];exact hl,J,_,rv,T⟩
   ·have i:=(hJ g).symm.trans z
    cases q:TB.lookup b with
    |none=>rw[q] at i;cases i
    |some y=>rw[q] at i;cases i;exact E _ b y (A q)
  ·by_cases g:b=a
   ·exact .inl g
   ·cases q:TB.lookup b with
    |none=>exact absurd (by simp[g,q]) z
    |some y=>exact .inr ⟨_,A q,rfl⟩
end L2
namespace PX
open PySem PySem.Spec PyProof.Rows L2
def N3{TB:List (Addr×Str)}{K:gK}{k:EvF}{H:Hp}{a:gm}{f:gC}(m: ∀p∈TB,H p.1=some (vB p.2))(l:SqL K H a (f.map V.int)){o:Bool}{c:Dn}(h:k [(.lst (f.map .int),false)]=some ((.bl true,o),c)):spF K k [.ref a] H (λv g=>v= .bl true/\ ∀p∈TB,g p.1=some (vB p.2)) λ_ _ _=>False:=by
 have no: ∀b,¬OwnA [some (V.ref a)] [some (D.lst (f.map .int),false)] b:=λb ⟨i,d,h1,q⟩=>by
  cases i with
  |zero=>simp at h1
  |succ i=>simp at h1
 refine⟨λ_=>False,[(.lst (f.map .int),false)],_,c,⟨rfl,λi d hd=>?_,λi d hd=>?_,λi j d e b h1=>?_,λb z=>absurd z (no b),λb z=>z.elim⟩,h,λv g P=>?_⟩
 ·cases i with
  |zero=>
   simp at hd;subst hd;refine⟨_,rfl,Rep.mkLst (a:=a) (xs:=f.map V.int) ?_ (Af f)⟩;exact l.imp (λz=>⟨z,λz=>z.elim (no a) id⟩) id
  |succ i=>simp at hd
 ·cases i with
  |zero=>simp at hd
  |succ i=>simp at hd
 ·cases i with
  |zero=>simp at h1
  |succ i=>simp at h1
 ·refine⟨?_,λp n=>P.1.kp _ _ (m p n) (no _)⟩
  cases o with
  |false=>exact P.2.2.bl
  |true=>
   obtain⟨p,_,_,_,ok⟩:=P.2;exact ok.elim
end PX
namespace L2
open PySem PySem.Spec PyProof.Rows PySem.W
structure Fly(P:gS)(w:gO)(outer:List Env)(H:Hp)(s:gu)(C:gm)(H':Hp)(ea:gm)(s':gu)(h0 B:gL)(F:ji):Prop where
 os:s'.os=s.os
 bare:AllBare s'.gens
 un:Un (frs outer) [] H H' s.heap h0
 hok:HOk P w H' h0
 fr: ∀b∈F,H' b=none/\(b∈frs outer\/s.heap.objs.size<=b)
 st: ∀b o,h0.get? b=some o->b∉F->B.get? b=some o
 fl: ∃a0,Heap.FlyingW B outer ea (.ref C) a0 s'.heap
 up:h0.UpToSlots s'.heap
 ne:h0.get? ea=none
def CXx(P:gS)(w:gO):CXT:=λa H s E e f=> ∃C b c d B F,e= .ref c/\Fly P w a H s C b c f d B F/\E (.ref C) none b
section
variable {P:gS}{w:gO}{c:List Env}{H h:Hp}{s s':gu}{C i:gm}{g B d:gL}{F:ji}
def Fly.end(f:Fly P w c H s C h i s' g B F)(t: ∀b∈frs c,∃o,s.heap.get? b=some o/\(∀J,o.data≠ .fields J)/\H b=none)(E:B.StaysIn d)(v:g.UpToSlots d):Un (frs c) [] H h s.heap d/\HOk P w h d:=by
 have keep: ∀b o,g.get? b=some o->b∉F->d.get? b=some o:=λb o e n=>E b o (f.st b o e n)
 have y: ∀b o,s.heap.get? b=some o->b∉frs c->b∉F:=λb o e n z=>by
  rcases(f.fr b z).2 with q|q
  ·exact n q
  ·exact absurd (iJ e) (MF.mpr q)
 refine⟨⟨λb o e n j k=>keep b o (f.un.keep b o e n j k) (y b o e j),λb o e n j k=>?_,f.un.free,λb o e k=>?_,f.un.tups,f.un.frzs,f.un.tbls⟩,λa o e=>?_⟩
 ·obtain⟨G,m,r,_⟩:=t b j;rw[e] at m;cases m;obtain⟨I,l⟩:=f.un.slot b o e n j k;obtain⟨x,p⟩:=v b _ l r;exact⟨x,p⟩
 ·by_cases j:b∈frs c
  ·obtain⟨G,m,r,n⟩:=t b j;rw[e] at m;cases m;obtain⟨I,l⟩:=f.un.slot b o e n j k;obtain⟨x,p⟩:=v b _ l r;exact⟨_,p⟩
  ·obtain⟨A,l⟩:=f.un.there b o e k;exact⟨A,keep b A l (y b o e j)⟩
 ·refine(f.hok a o e).stay (λb u j q=>keep b u q λz=>?_) (λ_ q=>q) λ_ _ q=>q;have:=(f.fr b z).1;rcases j with rfl|j
  ·rw[e] at this;cases this
  ·rw[j] at this;cases this
end
section
variable {X:Cx}{g:hG}{k:St}{H:Hp}{s s':gu}{C j:gm}
def Inv.frsOk(I:Inv X g k H s): ∀b∈frs X.stack,∃o,s.heap.get? b=some o/\(∀d,o.data≠ .fields d)/\H b=none:=λb a=>by
 obtain⟨_,o,c,hd⟩:=I.stack.mem a;exact⟨o,c,hd,I.stkFree b a⟩
def XeOk(X:Cx)(P:gS)(w:gO)(d:List Env)(i:Hp)(s0:gu)(E:XK):Prop:=X.prog=P/\X.w=w/\X.stack=X.env::d/\X.outer=d/\X.H₀=i/\X.s₀=s0/\X.ex=[]/\X.env.frame=some X.env.locals/\
 ∀e s',wpAny (model P w) X.A (leaving X.env e) (λ_ a=>CXx P w d i s0 E e a) (λb a=>CXx P w d i s0 E b a) s'->X.xe e s'
def mX{P:gS}{w:gO}{K:gK}{a:jX}{base:gL}{N:iw}{qual:Str}{scope:iq}{f:gm}{cd:gz}{A:gR}{d:List Env}{s:gu}{H:Hp}{E:XK}:
  XeOk (nY (CXx P w) P w K a base N qual scope f cd A d s H E) P w d H s E:=⟨rfl,rfl,rfl,rfl,rfl,rfl,rfl,rfl,λ_ _ h=>h⟩
variable {P:gS}{w:gO}{d:List Env}{i:Hp}{s0:gu}{E:XK}
def HH{r:Hp}{u:gL}{L:gm}(a:Un (frs d) [] i H s0.heap s.heap)(b:Un (L::frs d) [] H r s.heap u)(A:s0.heap.objs.size<=L):Un (frs d) [] i r s0.heap u where
 keep:=λc o q n h e=>b.keep c o (a.keep c o q n h e) (a.free c o q n e) (λz=>(jM.mp z).elim (λz=>by subst z;exact absurd (iJ q) (MF.mpr A)) h) e
 slot:=λc o q n h e=>by
  obtain⟨J,f⟩:=a.slot c o q n h e;obtain⟨y,m⟩:=b.slot c _ f (a.free c o q n e) (jA _ h) e;exact⟨y,m⟩
 free:=λc o q n e=>by
  obtain⟨p,f⟩:=a.there c o q e;exact b.free c p f (a.free c o q n e) e
 there:=λc o q e=>by
  obtain⟨p,f⟩:=a.there c o q e;exact b.there c p f e
 tups:=λc l q=>b.tups c l (a.tups c l q)
 frzs:=λc o l q=>b.frzs c o l (a.frzs c o l q)
 tbls:=λc I q=>by
  obtain⟨B,f⟩:=a.tbls c I q;obtain⟨G,m⟩:=b.tbls c _ f;exact⟨B++G,by rw[m,ES]⟩
theorem yN{a:Env}{L:gm}(h:a.frame=some L):frs (a::d)=L::frs d:=by unfold frs;rw[Bt,h]
def XeOk.made(x:XeOk X P w d i s0 E)(I:Inv X g k H s){r:gL}{f:ik}(p:Heap.MadeExcOf s.heap r j (.ref C) f)(q:E (.ref C) none H):X.xe (.ref j) {s with heap:=r}:=by
 obtain⟨rfl,rfl,c,B,rfl,rfl,hex,u,v⟩:=x;refine v _ _ (wpAny_leaves_madeW (base:=hideAll s.heap (frs X.stack)) (h:=s.heap) (L:=X.env.locals) (I.ok.frames.trans (by rw[c])) u (λb o e=>of_hideAll _ e) ?_ p λG t y _ _ up=>?_)
 ·rw[<-c];exact funFrames_hide I.stack λm A a z=>SY.mpr ⟨m,A,z⟩
 ·refine⟨C,H,j,s.heap,_,frs X.stack,rfl,⟨I.os,I.bare,?_,I.hok,λb l=>⟨I.stkFree b l,?_⟩,λb o e n=>hideAll_get _ e n,⟨_,y⟩,(Heap.UpToSlots.of_keeps p.keeps).trans up,p.new⟩,q⟩
  ·have:=I.base;unfold Cx.fs at this
   rwa [B,hex] at this
  ·rw[c,yN u] at l;rcases jM.mp l with rfl|l
   ·exact .inr I.ok.above
   ·exact .inl l
def XeOk.pass(x:XeOk X P w d i s0 E):Cz (CXx P w) X E:=λg k H s e s' I h=>by
 obtain⟨rfl,rfl,c,v,rfl,rfl,hex,l,t⟩:=x;obtain⟨C,o,j,u,B,F,rfl,f,q⟩:=h;obtain⟨p,m⟩:=f.fl;rw[c] at m;refine t _ _ (wpAny_leaves_onW (L:=X.env.locals) (I.ok.frames.trans (by rw[c])) l m λy r up=>?_);refine⟨C,o,j,u,B,F,rfl,⟨f.os.trans I.os,f.bare,?_,f.hok,λb n=>⟨(f.fr b n).1,?_⟩,f.st,⟨p,r⟩,f.up.trans up,f.ne⟩,q⟩
 ·have a:=I.base;unfold Cx.fs at a;rw[v,hex] at a;have b:=f.un;rw[c,yN l] at b;exact HH a b I.ok.above
 ·rcases(f.fr b n).2 with z|z
  ·rw[c,yN l] at z;rcases jM.mp z with rfl|z
   ·exact .inr I.ok.above
   ·exact .inl z
  ·exact .inr (mw I.sz z)
end
abbrev veB:List Value:=[.type "ValueError",.type "Exception",.type "BaseException",.type "object"]
def Oo{K:Frag}{h:gL}{C:gm}{b:ik}{e:String}(c:K.In h)(q:excIn K C b e=true):
  ∃a N nm g bs hd sn sub ab col dd k0 k1 k2 k3 k5 j,h.get? C=some (excClassObj nm g C N bs a hd sn sub ab col dd k0 k1 k2 k3 k5 e)/\h.Ns N j/\j "__init__"=none/\OwnTail h b a:=by
 unfold excIn at q;split at q
 case h_2=>cases q
 rename_i dd cd i lk;split at q
 case h_2=>cases q
 rename_i y a k0 k1 k2 k3 n k5 p r;rw[kZ,kZ,kZ,kZ,kZ] at q;obtain⟨⟨⟨⟨⟨t,u⟩,v⟩,w⟩,k⟩,x⟩:=q;cases OM.mp t;cases OM.mp u;obtain⟨nm,bs,f,s,g,hd,sn,sub,ab,col,d⟩:=cd;have l:f= .ref C::a:=p;have m:d=false:=by simpa using v
 obtain⟨i⟩:=i;have o:i=[k0,k1,k2,k3,some (.builtin e),k5]:=r;subst l m o;exact⟨a,s,nm,g,bs,hd,sn,sub,ab,col,dd,k0,k1,k2,k3,k5,_,c _ _ lk,.of_isNs (isNs_of_in c k),nsMap_none_of_in c k (OM.mp x),tail_of_in c w⟩
section
variable {X:Cx}{P:gS}{w:gO}{b:List Env}{g:Hp}{s0:gu}{E:XK}{x:Str}{C:gm}{a:gw}{d:TE}{np f c:Pos}
def KI(M:XeOk X P w b g s0 E)(z:X.calm=true)(t:excIn X.K C veB "ValueError.__new__"=true)(B:X.mg x=some (.ref C))(A:Gl X x)(y:PE X a d)(hd:(x==("__debug__":Str))=false)
  (n:starEach [a] X.env=[(false,eval a X.env)]):PS X (.Raise (some (.Call (.Name x np) [a] [] f)) none c) (λD k H=>d k H λ_ l=>E (.ref C) none l):=by
 intro i s k H D I h;obtain⟨O,N,nm,L,bs,o,sn,sub,ab,col,dd,k0,k1,k2,k3,k5,T,h1,p,r,m⟩:=Oo I.ok.mod.kin t;have G:(backTo f (starEach [a] X.env)).any (·.1)=false:=by rw[n];rfl
 refine wpAny_Raise_call_subT (nm:=nm) (q:=L) (N:=N) (bs:=bs) (hdct:=o) (sn:=sn) (sub:=sub) (ab:=ab) (col:=col) (dd:=dd) (k0:=k0) (k1:=k1) (k2:=k2) (k3:=k3) (k5:=k5) PySem.F.excBase_ValueError (m.hasType (by decide)) (I.ok.hd z) G r (ug I A B ⟨rfl,?_⟩ hd);rw[n];refine Jx (EK (thn (y i s k H _ I h) λu s1 ⟨v,l,j,U,J⟩=>EL ⟨rfl,(show 1<=sizeLine by decide),j.bk _ _ h1,p.keeps j.bk,m.keeps j.bk,λQ e mk=>M.made j mk J⟩))
end
theorem tM{a b:Int}{t u:Nat}{c:gz}: ∀l:List Value,TriplesOk l->TriplesOk (l++[.int a t,.int b u,c])
 |[],_=>trivial
 | .int _ _:: .int _ _::_::iu,h=>tM iu h
theorem zi{a b:Int}{t u:Nat}{e:Pos}{c f:gz}: ∀l:List Value,TriplesOk l->codeAmong e (l++[.int a t,.int b u,c])=some f->codeAmong e l=some f\/f=c
 |[],_,h=>by
  simp only[rB,codeAmong] at h;split at h
  ·exact .inr (js h).symm
  ·cases h
 | .int i _:: .int j _::d::iu,h0,h=>by
  simp only[sd,codeAmong] at h ⊢;split at h
  ·rename_i q;rw[gF q];exact .inl h
  ·rename_i q;rw[hJ q];exact zi iu h0 h
structure LamAt(q:Str)(params:Arguments)(body:gw)(scope:iq)(b9:jy)(H:Hp)(h:gL)(fl:gm):Prop where
 fn: ∃pm c' n5,h.get? fl=some (kla_obj "<lambda>" q params body scope b9 pm c' n5)/\ ∃ob u vs t,H c'=some (.frz ob u)/\ob.data= .fields vs/\vs[1]?=some (.str q t)
 un:H fl=none
section
variable {X:Cx}{i:hG}{m:St}{H:Hp}{s:gu}{P c:gm}{f:Arguments}{g:gw}{scope:iq}{j:jy}{l:Pos}
def Pg{h:gL}{a:gm}(e:h.objs.size<=a):h.get? a=none:=by
 cases q:h.get? a with
 |none=>rfl
 |some o=>exact absurd (iJ q) (MF.mpr e)
def LD{M:Model}{A:gR}{E:hZ}{Q:hZ}(I:Inv X i m H s){more:lA}(T:H P=some (.tbl (#[.str (X.env.qual++"<lambda>") 0]++more)))(hc:X.env.code= .ref c)(C:CodeHd X.base c P)(hB:X.base.BuiltinsAt X.mg P)(fk:mainGlobals≠P)
  (m7:closureFor scope X.env=pure j)(aB:defaultsOf f X.env=([],[]))
  (k: ∀s1 L fl,Inv X i m L s1->(∀b o,H b=some o->L b=some o)->LamAt (X.env.qual++"<lambda>") f g scope j L s1.heap fl->(∀b o,s.heap.get? b=some o->H b=none->s1.heap.get? b=some o)->(∀b o,s.heap.get? b=some o->H b=none->L b=none)->s.heap.get? fl=none->Q (.ref fl) s1):
  wpAny M A (eval (.Lambda f g scope l) X.env) Q E s:=by
 refine kla_eval aB ?_;obtain⟨qq,tq,ps,O,B,Y,hm⟩:=(show ObjOk X.prog X.w H s.heap P (.tbl (#[.str (X.env.qual++"<lambda>") 0]++more)) from I.hok P _ T)
 have W:qq=X.env.qual++"<lambda>":=by
  rw[Array.getElem?_append_left (by simp)] at O;simp at O;exact O.1.symm
 subst W;have n8:s.heap.BuiltinsAt X.mg P:=let⟨bm,o,h1,F,K,R,h5,h6⟩:=hB;⟨bm,o,h1,F,K,R,I.bk _ _ h5,h6⟩
 have hg:s.heap.Ns mainGlobals X.mg:=I.ok.mod.glob.keeps I.bk
 cases S:codeAmong l ps.toList with
 |some cv=>
  refine kla_makeFunctionHit m7 I.ok.glob hg hc (C.keeps I.bk) B Y S n8 λh v D p sz=>?_;obtain⟨a,ob,u,vs,t,rfl,F,K,R⟩:=hm l cv S;have aZ: ∀b o,s.heap.get? b=some o->(v.push (kla_obj "<lambda>" (X.env.qual++"<lambda>") f g scope j ((X.mg "__name__").getD .none) a h)).get? b=some o:=λb o e=>iA _ (p b o e);exact k _ H _ (I.kept (t':=D) aZ) (λ_ _ e=>e) ⟨⟨_,a,h,jr _ rfl,ob,u,vs,t,F,K,R⟩,I.hok.fresh sz⟩ (λb o e _=>aZ b o e) (λ_ _ _ n=>n) (Pg sz)
 |none=>
  refine kla_makeFunction m7 I.ok.glob hg hc (C.keeps I.bk) B Y S fk n8 λa h v D ex N x cr tb=>?_;obtain⟨c0,r,vs,t,ec,de,cJ,hq⟩:=cr;cases ec;have nc:H a=none:=I.hok.fresh N;have p: ∀b o,b≠P->s.heap.get? b=some o->(v.push (kla_obj "<lambda>" (X.env.qual++"<lambda>") f g scope j ((X.mg "__name__").getD .none) a h)).get? b=some o:=λb o n e=>iA _ (ex b o n e);have up: ∀b o,H b=some o->upd H a (.frz r (.own 0)) b=some o:=λb o e=>by rw[gQ (jS e nc)];exact e
  have Z: ∀b,H b=none->b≠P:=λb n z=>by rw[z,T] at n;cases n
  have y:=iA (kla_obj "<lambda>" (X.env.qual++"<lambda>") f g scope j ((X.mg "__name__").getD .none) a h) tb
  have un:Un (frs X.stack) [] H (upd H a (.frz r (.own 0))) s.heap (v.push (kla_obj "<lambda>" (X.env.qual++"<lambda>") f g scope j ((X.mg "__name__").getD .none) a h)):=
   ⟨λb o e n _ _=>p b o (Z b n) e,λb o e n _ _=>⟨o.slots,p b o (Z b n) e⟩,λb o e n _=>by rw[gQ (iP (mx (iJ e) N))];exact n,λb o e _=>by
    by_cases z:b=P
    ·subst z;exact⟨_,y⟩
    ·exact⟨o,p b o z e⟩,λb xs e=>up b _ e,λb o xs e=>up b _ e,λb ps e=>⟨#[],by rw[up b _ e];simp⟩⟩
  have V:HOk X.prog X.w (upd H a (.frz r (.own 0))) (v.push (kla_obj "<lambda>" (X.env.qual++"<lambda>") f g scope j ((X.mg "__name__").getD .none) a h)):=λb u e=>by
   by_cases U:b=a
   ·subst U;rw[gU] at e;cases e;exact⟨iA _ de,⟨r,iA _ de⟩⟩
   ·rw[gQ U] at e;by_cases G:b=P
    ·subst G;rw[T] at e;cases e;refine⟨_,tq,_,O,y,?_,λJ cv z=>?_⟩
     ·rw[IZ];exact tM _ Y
     ·rw[IZ] at z;rcases zi _ Y z with z|z
      ·obtain⟨x,ob,u,vs,t,r1,r2,r3,r4⟩:=hm J cv z;exact⟨x,ob,u,vs,t,r1,up _ _ r2,r3,r4⟩
      ·exact⟨a,r,_,vs,t,z,gU,cJ,hq⟩
    ·refine(I.hok b u e).stay (λd w hd q=>p d w (λz=>?_) q) (λd q=>up d _ q) (λd xs q=>up d _ q) λd _ _ q=>up d _ q;subst z;rcases hd with z|z
     ·exact G z.symm
     ·rw[T] at z;cases z
  have I1:Inv X i m (upd H a (.frz r (.own 0))) {s with heap:=v.push (kla_obj "<lambda>" (X.env.qual++"<lambda>") f g scope j ((X.mg "__name__").getD .none) a h),toks:=D}:=I.call (g':=s.gens) (d':=s.drawn) (t':=D) un V I.bare λb U=>absurd U (by simp);refine k _ _ _ I1 up ⟨⟨_,a,h,jr _ rfl,r,_,vs,t,gU,cJ,hq⟩,?_⟩ (λb o e n=>p b o (Z b n) e) (λb o e n=>un.free b o e n (by simp)) (Pg (xi (D9 N x)));rw[gQ (mH x)];exact I.hok.fresh (xi (D9 N x))
end
def yU(q:Str)(scope:iq)(L fl:gm)(cd:gz)(a:jy):Env:=
 newEnv scope L mainGlobals a (q++".<locals>.") (some fl) cd none builtinsNs
def qw(CX:CXT)(P:gS)(w:gO)(K:Frag)(d:jX)(base:gL)(N:iw)(q:Str)(scope:iq)(fl:gm)(cd:gz)(b:jy)(A:gR)(a:List Env)(s:gu)(H:Hp)(E:XK):Cx where
 prog:=P
 w:=w
 K:=K
 mg:=d
 base:=base
 A:=A.deeper (yU q scope s.heap.objs.size fl cd b)
 N:=N
 s₀:=s
 H₀:=H
 env:=yU q scope s.heap.objs.size fl cd b
 outer:=a
 stack:=yU q scope s.heap.objs.size fl cd b::a
 ex:=[]
 calm:=true
 fn:=λ_=>false
 pn:=[]
 xe:=λe h=>wpAny (model P w) (A.deeper (yU q scope s.heap.objs.size fl cd b)) (leaving (yU q scope s.heap.objs.size fl cd b) e) (λ_ c=>CX a H s E e c) (λg c=>CX a H s E g c) h
structure LamScope(scope:iq):Prop where
 kind:scope.kind= .function
 co:scope.isCoroutine=false
 gen:scope.isGenerator=false
 cell: ∀y∈scope.names,y.2≠ .cell
structure LamCells(N:iw)(scope:iq)(b9:jy)(σ:St)(H:Hp)(h:gL):Prop where
 inj: ∀x y c,b9.lookup x=some c->b9.lookup y=some c->x=y
 has: ∀x,scope.names.lookup x=some .free-> ∃c,b9.lookup x=some c
 cell: ∀x c,b9.lookup x=some c->(∃v,h.IsCell c v)/\H c=none
 val: ∀(i:Nat) (x:Str) (v:V),N[i]?=some x->σ[i]?=some (some v)->scope.names.lookup x=some .free/\ ∃c u,b9.lookup x=some c/\h.IsCell c (some u)/\RelV v u
 len:σ.length=N.length
section
variable {CX:CXT}{P:gS}{w:gO}{K:Frag}{g:jX}{base:gL}{N:iw}{q:Str}{scope:iq}{fl:gm}{cd:gz}{d:jy}{A:gR}{a:List Env}{s:gu}{H:Hp}{E:XK}{f:St}
def N9(S:LamScope scope)(hd:A.handled=none)(e:Env0 P w K g base A a s H)(C:LamCells N scope d f H s.heap){h1:gL}{t1:Nat}(l:h1.Ns s.heap.objs.size (λ_=>none))(hk: ∀b o,s.heap.get? b=some o->h1.get? b=some o):
  Inv (qw CX P w K g base N q scope fl cd d A a s H E) [] f H {s with heap:=h1,toks:=t1}:=by
 have k: ∀b:Addr,b∉(qw CX P w K g base N q scope fl cd d A a s H E).ex:=λb z=>absurd (show b∈([]:List Addr) from z) (by simp)
 refine⟨⟨e.mod,S.kind,rfl,rfl,iY _,C.inj,λy j=>?_,λy c z _=>absurd z (by simp[qw]),λ_=>hd,JD e.frames,.inr ⟨rfl,rfl⟩,λb z=>absurd z (k b),e.bs,e.bsz,λb _ _=>k b,λb z=>absurd z (k b),e.funs,e.frf⟩,
  rfl,e.bare,Un.kept hk,⟨_,l,λi y v h1 m _=>?_⟩,λy c h=>?_,e.hok.fresh (iY _),λy c h=>(C.cell y c h).2,λp x=>absurd (show p∈([]:List (Addr×Obj)) from x) (by simp),e.hok.kept hk,C.len⟩
 ·have j:scope.names.lookup y=some .cell\/scope.names.lookup y=some .free:=j;rcases j with j|j
  ·exact absurd rfl (S.cell _ (oq j))
  ·exact C.has y j
 ·obtain⟨t,c,u,n,B,r⟩:=C.val i y v h1 m;exact⟨u,r,.inr ⟨.inr t,c,n,B.keeps hk⟩⟩
 ·obtain⟨⟨v,hv⟩,_⟩:=C.cell y c h;exact⟨v,hv.keeps hk⟩
def N4{h:Arguments}{c:gw}{k:Nat}{t:TE}{Q:VK}(S:LamScope scope)(n:Room (k+1) A)(m:Env0 P w K g base A a s H)(C:LamCells N scope d f H s.heap)(L:LamAt q h c scope d H s.heap fl)
  (n4: ∀B i z,bindArgs (kla_fn "<lambda>" q h c scope d B (.ref i) z) ⟨[],[]⟩=pure [])
  (Y: ∀i:Addr,Room k (A.deeper (yU q scope s.heap.objs.size fl (.ref i) d))->PE (qw CX P w K g base N q scope fl (.ref i) d A a s H E) c t)(ht:t f H Q):
  codeAny (model P w) A (.call (.ref fl) ⟨[],[]⟩) (CR CX a P w H s Q E) s:=by
 obtain⟨B,i,z,D,V,u,vs,tk,h1,T,U⟩:=L.fn;have R:s.heap.CodeRec (.ref i) q:=⟨i,V,vs,tk,rfl,(m.hok i _ h1).1,T,U⟩
 have r:s.heap.NoLimit:=m.mod.nolimit.keeps λb o e=>(m.bs b o e).1;refine kla_callFunE n.depth D rfl S.co S.gen rfl R ?_;rw[n4];refine gE (wpAny_newFunctionEnv S.cell (by intro y F;simp at F) (λl O G=>⟨r.fresh _ G,?_⟩) S.kind);show codeAny _ _ (.expr c (yU q scope s.heap.objs.size fl (.ref i) d)) _ _;have j: ∀b o,s.heap.get? b=some o->l.get? b=some o:=λb o e=>G.extBut b o (iP (iJ e)) (iA _ e);have I:=N9 (CX:=CX) (q:=q) (fl:=fl) (cd:= .ref i) (E:=E) (t1:=s.toks+([]:List (Str×Value)).length) S n.hd m C (by simpa using O) j;refine kla_codeExpr (lQ (Y i (n.deeper _) [] _ f H Q I ht) (λv Z p=>?_) λe Z p=>p);obtain⟨x,M,J,X,W⟩:=p;exact⟨x,M,J.os,J.bare,J.base,J.hok,X,W⟩
end
open PySem.Calls Builtin Builtin.ObjectAttr Builtin.Getset_descriptor
structure ExcK(K:Frag)(C:gm):Prop where
 ga:findIn K (.ref C) "__getattribute__"=some (some (.builtin "BaseException.__getattribute__"))
 gb:findIn K (.ref C) "__getattr__"=some none
 mrB:mroIn K C (.type "BaseException")=some true
 dct:hasDictIn K C=true
 fnd:findIn K (.ref C) "__class__"=some (some (.builtin "object.__class__"))
 spc:specialIn K (.builtin "object.__class__") "__get__"=some (some (.builtin "getset_descriptor.__get__"))
 tks:takesIn K (.builtin "object.__class__")=some true
 mro:mroIn K C (.type "object")=some true
section
variable {K:Frag}{C x:gm}{o:Obj}
def L9{M:Model}{h:gL}(Z:ExcK K C)(X:K.In h):Looks M h (find (.ref x) (.ref C) "__class__") (.bind (.builtin "getset_descriptor.__get__") (.builtin "object.__class__")):=by
 have a:=looks_takesIn (M:=M) X Z.tks;exact(looks_findIn X Z.fnd).andThen ((show Looks M h (getOf (some (.builtin "object.__class__"))) _ from looks_specialIn X Z.spc).andThen ((show Looks M h (dataDescriptor? (some (.builtin "object.__class__")) (some (.builtin "getset_descriptor.__get__"))) (some (.builtin "getset_descriptor.__get__",.builtin "object.__class__")) from a.andThen .now).andThen (Looks.tag .now)))
def LF(Z:ExcK K C)(v:o.cls= .ref C):KitX K (.ref x) (.ref C) λh=>h.get? x=some o:=by
 have ty: ∀(M:Model) (h:gL),h.get? x=some o->Looks M h (typeOf (.ref x)) (.ref C):=λM h e=>v▸(Looks.ld e).andThen .now;obtain⟨u,f,_⟩:=any_some Z.dct;unfold clsIn at f;split at f
 case h_2=>cases f
 rename_i U Y r D j;refine⟨λM h _ e=>ty M h e,λM h X _=>?_,λh H dd B n S X p=>?_,λ{a w A E Q s} X e k=>?_⟩
 ·intro I T J R G q;unfold isType loadHead;exact gq (wpAny_loadPart (G _ _ (X _ _ j)) (gE q))
 ·refine Bool.eq_false_iff.mpr λq=>?_;have e:C=H:=Value.ref.inj (OM.mp q);subst e;have z:=(X _ _ j).symm.trans p;cases z
 ·obtain⟨y,g,d,t,os⟩:=s;have T0:=ty (model a w) y e;have l:=looks_findIn (M:=model a w) X Z.ga;have m:=looks_findIn (M:=model a w) X Z.gb;have L:=L9 (x:=x) (M:=model a w) Z X;have N:=looks_mroIn (M:=model a w) X Z.mro;unfold getAttr? getAttrBy? getAttrBy;refine gq (wpAny_mkText (gq (sQ (lO (gq (T0.at (gq (l.at ?_))))))));have O:=looks_mroIn (M:=model a w) X Z.mrB;have i:(Value.builtin "BaseException.__getattribute__"==Value.builtin "object.__getattribute__")=false:=by decide+kernel
  show wpAny _ _ (if onTheHeap (Value.ref C)&&Value.builtin "BaseException.__getattribute__"==Value.builtin "object.__getattribute__" then _ else getAttrByItsOwn _ _ _ _ _ _) _ _ _;rw[hJ (by rw[i];simp)];unfold getAttrByItsOwn;refine gq ((show Looks _ _ (hookBefore (.ref C)) none from m).at (gq (sQ (lO ?_))));show wpAny _ _ (boundAndCalled (.builtin "BaseException.__getattribute__") (.ref x) (.str "__class__" _)) _ _ _;unfold boundAndCalled;rw[show bindSpecial (.builtin "BaseException.__getattribute__") (.ref x)=pure (.builtin "BaseException.__getattribute__",[.ref x]) from S7.ga.bind _];refine gq (gE (xQ (A7 S7.ga.plain F.entry_bexc_ga ?_)));have hk:builtinKind "BaseException.__getattribute__"=some .slot:=by decide+kernel
  have b:splitId "BaseException.__getattribute__"=some ("BaseException","__getattribute__"):=by decide+kernel
  have P:=F.args_bexc_ga (.ref x) (.str "__class__" t);simp only[checkBuiltinCall,hk,b];refine gq ?_;unfold isInstance
  repeat lk
  refine wpAny_run (h:=none) (c:= .call (.builtin "getset_descriptor.__get__") ⟨[.builtin "object.__class__",.ref x,.ref C],[]⟩) ?_;refine A7 KF.slot_gs.plain KF.entry_gs (KF.slot_gs.check _ _ _ _ _ _ _ _ (show Shared.TypeIs _ (.builtin "object.__class__") "getset_descriptor" from KF.type_class) (KF.args_gs _ _ _) ?_);unfold Builtin.«getset_descriptor.__get__» descrGet;rw[dga_obj];refine gq (gE ?_);unfold descrGetter descrCheckInstance descrNameAndClass isInstance;simp only[KF.owner_class]
  repeat lk
  refine⟨Code.quiet_builtin _ (by decide+kernel),sU KF.entry_class ?_⟩;unfold Builtin.«object.__class__» shownTypeOf
  repeat lk
  exact k
end
section
variable {X:Cx}{f:hG}{h g:St}{H:Hp}{s:gu}{a:gm}{o:Obj}{h':gL}
def Inv.track(I:Inv X f h H s)(E:H a=none)(A:X.s₀.heap.get? a=none)(l:s.heap.get? a=some o)(B: ∀v,o.data≠ .cell v)(C:a≠X.env.locals)(G: ∀p∈X.pn++f,p.1≠a):Inv X f h (upd H a (.frz o (.own 0))) s:=by
 have up: ∀b u,H b=some u->upd H a (.frz o (.own 0)) b=some u:=λb u e=>by rw[gQ (jS e E)];exact e
 refine⟨I.ok,I.os,I.bare,⟨I.base.keep,I.base.slot,λb j e n i=>?_,I.base.there,λb w e=>up _ _ (I.base.tups b w e),λb j u e=>up _ _ (I.base.frzs b j u e),λb J e=>?_⟩,I.loc,I.cell,?_,λx c i=>?_,λp t=>?_,λb u e=>?_,I.len⟩
 ·rw[gQ (λz=>by subst z;rw[A] at e;cases e)];exact I.base.free b j e n i
 ·obtain⟨m,d⟩:=I.base.tbls b J e;exact⟨m,up _ _ d⟩
 ·rw[gQ (mJ C)];exact I.free
 ·rw[gQ (λz=>?_)];exact I.freeC x c i;obtain⟨v,j,d,k⟩:=I.cell x c i;subst z;rw[l] at d;cases d;exact B v k
 ·obtain⟨d,k,y⟩:=I.pin p t;exact⟨d,by rw[gQ (G p t)];exact k,y⟩
 ·by_cases r:b=a
  ·subst r;rw[gU] at e;cases e;exact⟨l,⟨o,l⟩⟩
  ·rw[gQ r] at e;exact(I.hok b u e).stay (λ_ _ _ q=>q) (λc q=>up c _ q) (λc w q=>up c _ q) λc _ _ q=>up c _ q
theorem Inv.names(I:Inv X f h H s){t':Nat}(E:Heap.SameBut X.env.locals s.heap h')(T:g.length=h.length)(w: ∀(i:Nat) v,g[i]?=some (some v)->h[i]?=some (some v))
  (U: ∀m,s.heap.Ns X.env.locals m-> ∃A,h'.Ns X.env.locals A/\ ∀(i:Nat) x v,X.N[i]?=some x->g[i]?=some (some v)->A x=m x):Inv X f g H {s with heap:=h',toks:=t'}:=by
 obtain⟨m,Y,L⟩:=id I.loc;obtain⟨A,M,C⟩:=U m Y;have oth: ∀b j,b≠X.env.locals->s.heap.get? b=some j->h'.get? b=some j:=λb j n e=>(E.2 b n).trans e;have G: ∀{b j},X.s₀.heap.get? b=some j->b≠X.env.locals:=λe=>iP (mx (iJ e) I.ok.above);refine⟨I.ok,I.os,I.bare,⟨λb j e n B t=>oth b j (G e) (I.base.keep b j e n B t),λb j e n B t=>?_,I.base.free,λb j e t=>?_,I.base.tups,I.base.frzs,I.base.tbls⟩,⟨A,M,λi x v l J O=>?_⟩,λx c e=>?_,I.free,I.freeC,λp D=>?_,λb u e=>?_,T.trans I.len⟩
 ·obtain⟨P,l⟩:=I.base.slot b j e n B t;exact⟨P,oth b _ (G e) l⟩
 ·obtain⟨K,l⟩:=I.base.there b j e t;exact⟨K,oth b _ (G e) l⟩
 ·obtain⟨u,r,q⟩:=L i x v l (w i v J) O;refine⟨u,r,?_⟩;rcases q with⟨k,z⟩|⟨k,c,z,y⟩
  ·exact .inl ⟨k,(C i x v l J).trans z⟩
  ·exact .inr ⟨k,c,z,y.sameBut E (I.cne x c z)⟩
 ·obtain⟨v,z⟩:=I.cell x c e;exact⟨v,z.sameBut E (I.cne x c e)⟩
 ·obtain⟨e,n,ne,F,d⟩:=I.pin p D;exact⟨oth _ _ ne e,n,ne,F,d⟩
 ·refine(I.hok b u e).stay (λc v Q q=>oth c v (λz=>?_) q) (λ_ q=>q) λ_ _ q=>q;subst z;rcases Q with z|z
  ·subst z;rw[I.free] at e;cases e
  ·rw[I.free] at z;cases z
def Cx.mark(X:Cx)(e:gz)(E:hZ):Cx:={X with A:=X.A.mark (some e),calm:=false,xe:=E}
def Inv.mark(I:Inv X f h H s)(e:gz)(E:hZ):Inv (X.mark e E) f h H s:=
 ⟨⟨I.ok.mod,I.ok.kind,I.ok.glob,I.ok.blt,I.ok.above,I.ok.inj,I.ok.has,I.ok.cab,(λz=>by cases z),I.ok.frames,I.ok.stk,I.ok.exf,I.ok.bs,I.ok.bsz,I.ok.noex,I.ok.exfs,I.ok.funs,I.ok.frf⟩,I.os,I.bare,I.base,I.loc,I.cell,I.free,I.freeC,I.pin,I.hok,I.len⟩
def Inv.unmark{e:gz}{E:hZ}(I:Inv (X.mark e E) f h H s)(hd:X.calm=true->X.A.handled=none):Inv X f h H s:=
 ⟨⟨I.ok.mod,I.ok.kind,I.ok.glob,I.ok.blt,I.ok.above,I.ok.inj,I.ok.has,I.ok.cab,hd,I.ok.frames,I.ok.stk,I.ok.exf,I.ok.bs,I.ok.bsz,I.ok.noex,I.ok.exfs,I.ok.funs,I.ok.frf⟩,I.os,I.bare,I.base,I.loc,I.cell,I.free,I.freeC,I.pin,I.hok,I.len⟩
end
def ObjOk.there{P:gS}{w:gO}{H:Hp}{h:gL}{a:gm}{o:HO}(x:ObjOk P w H h a o): ∃c,h.get? a=some c:=by
 cases o with
 |lst d=>obtain⟨_,_,_,_,e⟩:=x;exact⟨_,e⟩
 |tup d=>obtain⟨_,_,_,c,e,_⟩:=x;exact⟨_,e⟩
 |dK b=>obtain⟨_,_,_,_,o,_,_,e,_⟩:=x;exact⟨_,e⟩
 |dT b=>obtain⟨_,_,_,_,o,_,_,e,_⟩:=x;exact⟨_,e⟩
 |set S n=>obtain⟨o,_,_,_,e,_⟩:=x;exact⟨_,e⟩
 |stt k=>obtain⟨_,_,_,e,_⟩:=x;exact⟨_,e⟩
 |ins C g fs=>obtain⟨_,_,_,e,_⟩:=x;exact⟨_,e⟩
 |own y=>exact x
 |xd fs=>obtain⟨_,⟨_,_,_,e,_⟩,_⟩:=x;exact⟨_,e⟩
 |rng lo i=>obtain⟨_,_,_,e⟩:=x;exact⟨_,e⟩
 |frz c u=>exact⟨_,x.1⟩
 |tbl j=>obtain⟨_,_,_,_,e,_⟩:=x;exact⟨_,e⟩
 |met f y=>exact⟨_,x⟩
 |ext l=>exact x.2.1
section
variable {X:Cx}{c:hG}{g:St}{H d:Hp}{s s':gu}{C a:gm}{n B h':gL}{F:ji}{r:gz}
def Fly.inv(I:Inv X c g H s)(f:Fly X.prog X.w X.stack H s C d a s' n B F)(h:B.StaysIn h')(j:n.UpToSlots h'):Inv X c g d {s' with heap:=h'}:=by
 obtain⟨un,e⟩:=f.end I.frsOk h j;exact I.call' (s':={s' with heap:=h'}) f.os un e f.bare λb i=>absurd i (by simp)
def Fly.fresh(I:Inv X c g H s)(hex:X.ex=[])(f:Fly X.prog X.w X.stack H s C d a s' n B F):d a=none/\X.s₀.heap.get? a=none/\s.heap.get? a=none:=by
 have h:s.heap.get? a=none:=by
  cases e:s.heap.get? a with
  |none=>rfl
  |some o=>
   obtain⟨i,b⟩:=f.un.there a o e (by simp);rw[f.ne] at b;cases b
 refine⟨?_,?_,h⟩
 ·cases e:d a with
  |none=>rfl
  |some o=>
   obtain⟨j,z⟩:=(f.hok a o e).there;rw[f.ne] at z;cases z
 ·cases e:X.s₀.heap.get? a with
  |none=>rfl
  |some o=>
   obtain⟨i,b⟩:=I.base.there a o e (by rw[hex];simp);rw[h] at b;cases b
def VY{E:XK}{e:gz}{xr xx t:Str}{CR:gm}{i j:Nat}{D:Ends}{p4 p5 p6 p7 p8:Pos}(o6:X.stack=X.env::X.outer)(dr:X.env.frame=some X.env.locals)(hex:X.ex=[])(I:Inv X c g H s)(h:CXx X.prog X.w X.stack H s E e s')
  (hg:Gl X xr)(hm:X.mg xr=some (.ref CR))(j5:(xr==("__debug__":Str))=false)(cj: ∀C d,E (.ref C) none d->exmOne X.K (.ref C) (.ref CR)=some true)
  (hN:X.N.Nodup)(hi:X.N[i]?=some xx)(hj:X.N[j]?=some t)(m5:i≠j)(lx:X.env.scope.names.lookup xx=some .local)(U:X.env.scope.names.lookup t=some .local)(fH:(t==("__debug__":Str))=false)(du:(t==("__classdict__":Str))=false)
  (bf:swapsWith (.Name t p6) (some (.Name xx p5)) p7.line X.env=pure false)
  (k: ∀C d a o,E (.ref C) none d->d a=none->o.cls= .ref C->D.nx ((g.set j none).set i (some (.ref a))) (upd d a (.frz o (.own 0)))):
  wpAny (model X.prog X.w) X.A (noteFrame e X.env) (λ_ Y=>wpAny (model X.prog X.w) X.A (setFlight e none) (λ_ s₃=>wpAny (model X.prog X.w) X.A (handleBy e X.env [.ExceptHandler (some (.Name xr p4)) (some t) [.Assign [.Name xx p5] (.Name t p6) p7] p8]) (SP X c D) X.xe s₃) X.xe Y) X.xe s':=by
 obtain⟨C,d,a,n,B,F,rfl,f,q⟩:=h;obtain⟨r,V⟩:=f.fl;obtain⟨n1,n2,n3⟩:=f.fresh I hex;rw[o6] at V;have dY:i<g.length:=by rw[I.len];exact(uG.mp hi).1
 have eW:j<g.length:=by rw[I.len];exact(uG.mp hj).1
 have bA:(X.env.scope.kind== .class||(X.env.scope.kind== .module&&X.env.locals !=X.env.globals))=false:=by rw[I.ok.kind];rfl
 refine wpAny_looks_onW (I.ok.frames.trans (by rw[o6])) dr V λh2 Q aL=>?_;refine wpAny_landsW Q λh3 fP cP=>?_;have I3:Inv X c g d {s' with heap:=h3}:=f.inv I fP.1 (f.up.trans (aL.trans cP));obtain⟨ob3,he3,hc3⟩:=fP.there;refine wpAny_handleBy_cons (codeAny_handlers_test ?_) (by intro q;cases q);refine ug (X:=X.mark (.ref a) λ_ _=>False) (I3.mark _ _) hg hm ?_ j5;refine(exm_one (M:=model X.prog X.w) I3.kIn (hc3▸(Looks.ld he3).andThen .now) (cj C d q)).here ?_;refine codeAny_handlers_suite_as ?_;obtain⟨g1,g2,g3,g4⟩:=id fP;refine wpAny_setFlight_noneW g1 g3 g4 λh4 k1 k2 k3 k4=>?_;have up4:h3.UpToSlots h4:=λb o hb W=>⟨o.slots,k4 b o hb W⟩
 have I4:Inv X c g d {s' with heap:=h4}:=f.inv I k1 (f.up.trans (aL.trans (cP.trans up4)));obtain⟨oe,vs,T,oT,ts,he,⟨y,_⟩,hd,_⟩:=id k3
 have I5:Inv X c g (upd d a (.frz oe (.own 0))) {s' with heap:=h4}:=by
  refine I4.track n1 n2 he (λv z=>by rw[hd] at z;cases z) (λz=>?_) (λp hp z=>?_)
  ·have:=I.lt;obtain⟨m,⟨o,_,_,ho,_⟩,_⟩:=id I.loc;rw[<-z,n3] at ho;cases ho
  ·obtain⟨S,_⟩:=I.pin p hp;rw[z,n3] at S;cases S
 refine qc I5 hN hj (.inl U) (v:= .ref a) rfl (λs6 I6=>?_) (.inr U);have ps:=λE0:Value->Shared->Prop=>oE (X:=X.mark (.ref a) E0) (KG (X:=X.mark (.ref a) E0) hN hi (.inl lx) (yt (X:=X.mark (.ref a) E0) hj (.inl U) fH du) bf (.inr lx)) (GS (X:=X.mark (.ref a) E0));refine thn (ps _ c s6 _ _ {nx:=λP H7=>P=(g.set j (some (.ref a))).set i (some (.ref a))/\H7=upd d a (.frz oe (.own 0)),rt:=λ_ _=>False} (I6.mark (.ref a) _) ⟨.ref a,by rw[mv eW],rfl,rfl⟩) λV s7 Z=>?_
 cases V with
 |ret u=>obtain⟨_,_,_,_,_,z⟩:=Z;exact z.elim
 |brk=>obtain⟨_,_,_,z⟩:=Z;exact z.elim
 |cont=>obtain⟨_,_,_,z⟩:=Z;exact z.elim
 |next=>
  obtain⟨P,H7,R,rfl,rfl⟩:=Z;have R:=R.unmark I.ok.hd;obtain⟨m,W,_⟩:=id R.loc;refine gq (EM (JG U W (λh₁ G L=>?_) bA));unfold unbindBehindTheSuite;refine xw ?_;unfold unbindName;refine gq (Em (gq ?_));unfold deleteName;have ln':X.env.kindOf t=some .local:=U;simp only[ln',bA];rw[hJ (by decide)];refine gq (wpAny_nsDel_keeps G λh₂ v₂ J O=>?_);simp only[ja,Option.isSome_some,Bool.not_true,jY,jl];refine gE (Em ⟨(g.set j none).set i (some (.ref a)),_,R.names (L.trans O) (by simp) (λl v z=>?_) (λm0 dk=>?_),k C d a oe q n1 y⟩)
  ·by_cases hl:l=i
   ·subst hl;rw[mv (by simpa using dY)] at z ⊢;exact z
   ·rw[mI (mJ hl)] at z ⊢;by_cases ae:l=j
    ·subst ae;rw[mv eW] at z;cases z
    ·rw[mI (mJ ae)] at z ⊢;exact z
  ·refine⟨_,J,λl x v S e2=>?_⟩
   have hx:x≠t:=λz=>by
    subst z;have:=yA hN S hj;subst this;rw[mI m5,mv eW] at e2;cases e2
   simp only[hx,jl];obtain⟨o1,es1,ep1,z1,z2,_,z3⟩:=id W;obtain⟨o2,es2,ep2,y1,y2,_,y3⟩:=id dk;rw[z1] at y1;cases y1;rw[z2] at y2;cases y2;exact(z3 x).symm.trans (y3 x)
end
end L2
namespace PX
open PySem PySem.Spec PyProof.Rows L2 PySem.SeqAt PySem.W
abbrev XS:=Dn->Option Str
def tZ(K:gK)(f:jX)(E:XK)(x:XS):L2.St->Hp->Prop:=λe H=> ∃b T c,ER K H T e b/\(∀a,¬OwnA e b a)/\x b=some c/\ ∀d C,(∀a o,H a=some o->d a=some o)->f c=some (.ref C)->E (.ref C) none d
def PZ(X:Cx)(E:XK)(st:Stmt)(x:XS):Prop:=PS X st λ_=>tZ X.K X.mg E x
def PZs(X:Cx)(E:XK)(st:List Stmt)(x:XS):Prop:=PSs X st λ_=>tZ X.K X.mg E x
def PZE(X:Cx)(E:XK)(e:gw)(x:XS):Prop:=PE X e λa H _=>tZ X.K X.mg E x a H
def spR(K:gK)(f:jX)(h:List D->Option Str):Sp:=λg H _ E=> ∃T e c,ER K H T (g.map some) ((e.map λd=>(d,false)).map some)/\h e=some c/\ ∀C b,(∀a o,H a=some o->b a=some o)->f c=some (.ref C)->E (.ref C) none b
def xcF(n np:Nat)(x:XS):List D->Option Str:=λa=>if a.length=np/\np<=n then x (((a.map λd=>(d,false)).map some)++List.replicate (n-np) none) else none
def ox(b:List D->Option Str)(fs:List FO):XS:=λδ=>(jk fs δ).bind λp=>(iN p.2 p.1).bind λargs=>if(args.all λa=>!a.2)=true then b (args.map (·.1)) else none
def EU(c:Str)(f:F):XS:=λa=>(f a).bind λ_=>some c
def FW(a:Dn):Bool:=a.all λx=>match x with
 |some (_,true)=>false
 |_=>true
def JH(f:FS)(x:XS):XS:=λb=>(f b).bind λo=>match o with
 | .nx a=>if FW a=true then x a else none
 |_=>none
def zIf(t:FT)(x y:XS):XS:=λa=>(t a).bind λp=>if FW p.2=true then(if p.1=true then x p.2 else y p.2) else none
def zNo:XS:=λ_=>none
def Ck{b:Dn}(h:FW b=true)(c:L2.St)(a:gm): ¬OwnA c b a:=λ⟨i,d,h1,_⟩=>by
 have:=md.mp h _ (tw h1);simp at this
section
variable {X:Cx}{P:gS}{w:gO}{i:List Env}{G:Hp}{s0:gu}{E:XK}{A:iK}{st:Stmt}{j a b:List Stmt}{x y:XS}{e:gw}{g:Pos}
def UZ:PZs X E j zNo:=λc s d H D I h=>by obtain⟨_,_,_,_,_,e,_⟩:=h;cases e
def Ri:PSs X j λ_ _ _=>False:=λ_ _ _ _ _ _ h=>h.elim
def Bu(h:PZ X E st x):PZs X E (st::j) x:=PSs.imp' (oE h Ri) λ_ _ _ h=>h
def PL{f:FS}(h1:PSX X A (λ_=>True) (λ_=>none) st f)(r:PZs X E j x):PZs X E (st::j) (JH f x):=PSs.imp' (oE h1 r) λD B H h=>by
 obtain⟨u,T,c,E0,no,e,k⟩:=h;obtain⟨o,h1,e⟩:=gh e
 cases o with
 |nx d=>
  have e:(if FW d=true then x d else none)=some c:=e;split at e
  case isFalse=>cases e
  rename_i fz;exact⟨u,T,_,E0,⟨λ_ _ _=> .inl trivial,λ_ z=>absurd rfl z⟩,h1,λl v p m=>⟨d,T,c,m,Ck fz l,e,λn C t s=>k n C (λa o q=>t a o (p.kp a o q (no a))) s⟩⟩
 |_=>cases e
def MI{z:Str}{C:gm}{a:gw}{f:F}{np I:Pos}(J:XeOk X P w i G s0 E)(t:X.calm=true)(p:excIn X.K C veB "ValueError.__new__"=true)(l:X.mg z=some (.ref C))(u:Gl X z)(s:PX X a f)(hd:(z==("__debug__":Str))=false)
  (B:starEach [a] X.env=[(false,eval a X.env)]):PZ X E (.Raise (some (.Call (.Name z np) [a] [] I)) none g) (EU z f):=PS.imp' (KI J t p l u s hd B) λD M H h=>by
 obtain⟨L,T,c,E0,no,e,k⟩:=h;obtain⟨⟨r,d⟩,h1,e⟩:=gh e;cases e;exact⟨L,T,r,d,E0,h1,λv m n=>k m C (λa o q=>n.1.kp a o q (no a)) l⟩
def U0{c:gw}{f:FT}(v:PTX X c f)(s:PZs X E a x)(u:PZs X E b y):PZ X E (.If c a b g) (zIf f x y):=PS.imp' (Pb v s u) λD l H h=>by
 obtain⟨L,T,c,E0,no,e,k⟩:=h;obtain⟨⟨t,d⟩,h1,e⟩:=gh e;dsimp only at e;split at e
 case isFalse=>cases e
 rename_i fz;refine⟨L,T,t,d,E0,h1,λp r m=>?_⟩;have fin: ∀z:XS,z d=some c->tZ X.K X.mg E z l p:=λz I=>⟨d,T,c,m,Ck fz l,I,λn C J B=>k n C (λa o q=>J a o (r.kp a o q (no a))) B⟩
 cases t with
 |true=>exact R8 (fin x (by simpa using e))
 |false=>exact R9 (fin y (by simpa using e))
def PM(h:PZE X E e x)(c:swapsWith e none g.line X.env=pure false):PZ X E (.Expr e g) x:=PS.imp' (GU h c) λ_ _ _ h=>h
variable {k:Nat}{f:gm}{u:kY}{n:iw}{m:List D->Option Str}{l:iO}{fs:List FO}{z:Str}{p:Pos}
def PN(xk:XeOk X P w i G s0 E)(F:FnOk X.prog X.w X.K X.mg X.base (CXx P w) k f u n (spR X.K X.mg m))(hr:Room k X.A)(hg:Gl X z)(hm:X.mg z=some (.ref f))(hk:PySem.W.keepIn X.K (.ref f)=true)(hb:Binds X.K u n [])
  (t:PA X (e::l) (tA X.K fs))(j5:(z==("__debug__":Str))=false)(he:starEach (e::l) X.env=(false,eval e X.env)::starEach l X.env)(i6:(backTo g (starEach l X.env)).any (·.1)=false):
  PZE X E (.Call (.Name z p) (e::l) [] g) (ox m fs):=PE.imp' (G3 F hr hg hm hk hb (.nil) xk.pass t j5 he i6) λσ H Q h=>by
 obtain⟨δ,T,c,E0,no,e,S⟩:=h;obtain⟨⟨os,I⟩,h1,e⟩:=gh e;obtain⟨r,L,e⟩:=gh e;dsimp only at e L;split at e
 case isFalse=>cases e
 rename_i Y;refine⟨δ,T,os,I,E0,h1,λvs O T1 B=>?_⟩;show spR X.K X.mg m (vs++[]) O Q E;rw[Bo]
 have M: ∀a∈r,a=(a.1,false):=λa t=>by
  have:=md.mp Y a t;obtain⟨d,f⟩:=a
  cases f with
  |false=>rfl
  |true=>cases this
 have v:r=(r.map (·.1)).map λd=>(d,false):=by
  rw[ir]
  conv=>lhs;rw[<-nH r]
  exact nh λa t=>M a t
 have Z: ∀(os:List Opd) (s:List (D×Bool)),(∀a∈s,a=(a.1,false))->gP os s=[]:=λos=>by
  induction os with
  |nil=>intro s _;cases s<;>simp[gP]
  |cons o os ih=>
   intro s h
   cases s with
   |nil=>simp[gP]
   |cons a s=>
    have U:=h a jB;obtain⟨d,f⟩:=a;cases U;cases o<;>simp[gP,ih s λa t=>h a (jA _ t)]
 have J:=wY E0 B L (by rw[Z os r M];exact sO);rw[v] at J;exact⟨_,r.map (·.1),c,J,e,λC N V R=>S N C (λa o q=>V a o (B.keep.kp a o q (no a))) R⟩
end
def Oc{P:gS}{w:gO}{K:gK}{j:jX}{base:gL}{x qual:Str}{st:Stmt}{f:gm}{n:kY}{N b:iw}{k:Nat}{t:XS}(F:Fun K x qual st f n)(S:FnScope N b (gr st))
  (L: ∀(i:gz) (A:gR) (a:List Env) (s:gu) (H:Hp) (E:XK),Room k (A.deeper (envOfC qual (gr st) s.heap.objs.size f i))->PZs (nY (CXx P w) P w K j base N qual (gr st) f i A a s H E) E (kg st) t):
  FnOk P w K j base (CXx P w) (k+1) f n b (spR K j (xcF N.length b.length t)):=by
 obtain⟨U,Y,kV,v,D,O,i,ct,R,e,lk,M⟩:=F.ex;subst e;refine L6 lk M S (λr H Q E h=>?_) λA a s H r Q E G h=>?_
 ·obtain⟨T,l,c,E0,e,_⟩:=h;unfold xcF at e;split at e
  case isFalse=>cases e
  rename_i q;have:=E0.len;simp at this;rw[this,q.1]
 ·obtain⟨T,l,c,E0,e,I⟩:=h;unfold xcF at e;split at e
  case isFalse=>cases e
  rename_i q;have o:=E0.len;simp at o;refine⟨_,L i A a s H E G,((l.map λd=>(d,false)).map some)++List.replicate (N.length-b.length) none,T,c,?_,?_,e,λu C J y=>I C u J y⟩
  ·have:=E0.pad (m:=N.length-b.length);unfold L2.mY;rw[show r.length=b.length by rw[o,q.1]];exact this
  ·refine Ck ?_ _;unfold FW;rw[md];intro z g;rcases rK.mp g with g|g
   ·obtain⟨p,B,rfl⟩:=mO.mp g;obtain⟨d,_,rfl⟩:=mO.mp B;rfl
   ·rw[(List.mem_replicate.mp g).2]
end PX
namespace L2
open PySem PySem.Spec PyProof.Rows PySem.W
def Ux{CX:CXT}{P:gS}{w:gO}{K:Frag}{B:jX}{base:gL}{k:Nat}{f:gm}{j qual:Str}{c:Arguments}{d:List Stmt}{scope:iq}{Y kV p pm l ct oc:gz}{U od:Option Addr}
  {s9:pW}{N C:iw}{A:gR}{a:List Env}{s:gu}{H:Hp}{i:Args}{us:ik}{vs:List V}{Q:VK}{E:XK}(lk:K.lookup f=some ⟨oc,od,.func (fnOf j qual c d scope Y kV p pm U l ct),s9⟩)(m8:codeIn K l qual=true)(S:FnScope N C scope)
  (G:Room (k+1) A)(z:Env0 P w K B base A a s H)(hb:BindsTo s (fnOf j qual c d scope Y kV p pm U l ct) i (C.zip us))(r:Vals vs us)(hl:vs.length=C.length)
  (l9:Room k (A.deeper (envOfC qual scope s.heap.objs.size f l))-> ∃t,PSs (nY CX P w K B base N qual scope f l A a s H E) d t/\t {nx:=λ_ h=>Q .non h,rt:=Q} (mY N vs) H):
  codeAny (model P w) A (.call (.ref f) i) (CR CX a P w H s Q E) s:=by
 have T:K.In s.heap:=z.mod.kin.keeps λb o e=>(z.bs b o e).1;have L:s.heap.NoLimit:=z.mod.nolimit.keeps λb o e=>(z.bs b o e).1
 have D: ∀y∈C.zip us,scope.names.lookup y.1=some .local\/(scope.names.lookup y.1=some .cell/\((cellsFrom (s.heap.objs.size+1) scope.names []).lookup y.1).isSome=true):=λ⟨n,v⟩ hy=>by
  rcases S.par n (Bm hy).1 with q|q
  ·exact .inl q
  ·exact .inr ⟨q,cellsFrom_some _ _ _ (.inl q)⟩
 refine JB G.depth (T _ _ lk) rfl S.co S.gen rfl (codeRec_of T m8) (hb _ _ _ _ ?_);refine JA S.kind D λF W s1 x=>?_;subst W;refine⟨L.keeps x.toInCall.keep,codeAny_func ?_⟩;obtain⟨t,Z,X⟩:=l9 (G.deeper _);have I:Inv (nY CX P w K B base N qual scope f l A a s H E) [] (mY N vs) H s1:=Av S G.hd z hl r x;refine lQ (Z [] s1 (mY N vs) H _ I X) (λR O m=>?_) λe O m=>m
 have fin: ∀{g:St} {h:Hp} {v:V} {u:gz},Inv (nY CX P w K B base N qual scope f l A a s H E) [] g h O->RelV v u->Q v h->CE a P w H s Q u O:=
  λ{g h v u} J M q=>⟨v,h,J.os,J.bare,J.base,J.hok,M,q⟩
 cases R with
 |ret u=>
  obtain⟨v,g,h,J,M,q⟩:=m;exact fin J M q
 |next=>
  obtain⟨g,h,J,q⟩:=m;exact fin (v:=V.non) (u:=Value.none) J rfl q
 |brk=>
  obtain⟨_,_,_,q⟩:=m;exact False.elim q
 |cont=>
  obtain⟨_,_,_,q⟩:=m;exact False.elim q
section
variable {fs:ji}{N:iw}{scope:iq}{d:jy}{j:St}{H g:Hp}{h h':gL}{q:Str}{a:Arguments}{b:gw}{f:gm}
def LamCells.keep(C:LamCells N scope d j H h)(u:Un fs [] H g h h')(n: ∀x c,d.lookup x=some c->c∉fs):LamCells N scope d j g h':=by
 have p: ∀{x c v},d.lookup x=some c->h.IsCell c v->h'.IsCell c v:=λ{x c v} e z=>by
  obtain⟨o,k,l⟩:=z;exact⟨o,u.keep c o k (C.cell x c e).2 (n x c e) (by simp),l⟩
 refine⟨C.inj,C.has,λx c e=>?_,λi x v h1 s=>?_,C.len⟩
 ·obtain⟨⟨v,o,k,l⟩,y⟩:=C.cell x c e;exact⟨⟨v,p e ⟨o,k,l⟩⟩,u.free c o k y (by simp)⟩
 ·obtain⟨t,c,w,m,A,r⟩:=C.val i x v h1 s;exact⟨t,c,w,m,p m A,r⟩
def LamAt.keep(L:LamAt q a b scope d H h f)(u:Un fs [] H g h h')(n:f∉fs):LamAt q a b scope d g h' f:=by
 obtain⟨m,c,k,e,l,w,o,t,h1,i⟩:=L.fn;exact⟨⟨m,c,k,u.keep f _ e L.un n (by simp),l,w,o,t,u.frzs _ _ _ h1,i⟩,u.free f _ e L.un (by simp)⟩
end
section
variable {X:Cx}{N:iw}{scope:iq}{b9:jy}{σl:St}{q:Str}{params:Arguments}{body:gw}{fl:gm}{k:Nat}{t:XK->TE}
structure LamIn(X:Cx)(N:iw)(scope:iq)(b9:jy)(σl:St)(q:Str)(params:Arguments)(body:gw)(fl:gm)(k:Nat)(t:XK->TE):Prop where
 sc:LamScope scope
 cel:LamCells N scope b9 σl X.H₀ X.s₀.heap
 lam:LamAt q params body scope b9 X.H₀ X.s₀.heap fl
 nfl:fl∉X.fs
 ncl: ∀x c,b9.lookup x=some c->c∉X.fs
 bnd: ∀pm c' n5,bindArgs (kla_fn "<lambda>" q params body scope b9 pm (.ref c') n5) ⟨[],[]⟩=pure []
 run: ∀(E:XK) (c':gm) (s:gu) (H:Hp),Room k (X.A.deeper (yU q scope s.heap.objs.size fl (.ref c') b9))->PE (qw (CXx X.prog X.w) X.prog X.w X.K X.mg X.base N q scope fl (.ref c') b9 X.A X.stack s H E) body (t E)
def Rj{g y B b:Str}{CR:gm}{l i j:Nat}{T U Y p4 p5 p6 p7 p8 p9:Pos}(L:LamIn X N scope b9 σl q params body fl k t)(o6:X.stack=X.env::X.outer)(dr:X.env.frame=some X.env.locals)(hex:X.ex=[])(hr:Room (k+1) X.A)
  (hc:X.N[l]?=some g)(vc:Vis X.env.scope g)(cJ:(g==("__debug__":Str))=false)(eh:(g==("__classdict__":Str))=false)
  (J:swapsWith (.Call (.Name g T) [] [] U) none Y.line X.env=pure false)
  (hg:Gl X y)(hm:X.mg y=some (.ref CR))(j5:(y==("__debug__":Str))=false)
  (hN:X.N.Nodup)(hi:X.N[i]?=some B)(hj:X.N[j]?=some b)(m5:i≠j)(lx:X.env.scope.names.lookup B=some .local)(ln:X.env.scope.names.lookup b=some .local)(fH:(b==("__debug__":Str))=false)(du:(b==("__classdict__":Str))=false)
  (bf:swapsWith (.Name b p6) (some (.Name B p5)) p7.line X.env=pure false):
  PS X (.Try [.Expr (.Call (.Name g T) [] [] U) Y] [.ExceptHandler (some (.Name y p4)) (some b) [.Assign [.Name B p5] (.Name b p6) p7] p8] [] [] p9)
   (λD c H=>c[l]?=some (some (.ref fl))/\ ∃E:XK,t E σl H (λ_ a=>D.nx c a)/\(∀C a,E (.ref C) none a->exmOne X.K (.ref C) (.ref CR)=some true)/\
    ∀C a G o,E (.ref C) none a->a G=none->o.cls= .ref C->D.nx ((c.set j none).set i (some (.ref G))) (upd a G (.frz o (.own 0)))):=by
 intro p s c H D I h;obtain⟨W,E,ht,V,hk⟩:=h;have un:Un X.fs [] X.H₀ H X.s₀.heap s.heap:=by have:=I.base;rwa [hex] at this
 have C1:=L.cel.keep un L.ncl;have L1:=L.lam.keep un L.nfl;refine wpAny_Try_except ?_;refine wpAny_execs_cons (wpAny_Expr_any ?_ I.quiet J);refine vQ ?_;refine lQ (yt (X:=X.nox) hc vc cJ eh p s c H (λv a=>v= .ref fl/\a=H) (I.wish _) ⟨.ref fl,W,rfl,rfl⟩) (λf s1 Z=>?_) λ_ _ z=>False.elim z;obtain⟨v,M,d,rv,rfl,rfl⟩:=Z;cases rv;have d:=d.unwish;have x:Un X.fs [] X.H₀ M X.s₀.heap s1.heap:=by have:=d.base;rwa [hex] at this
 have F:=L.cel.keep x L.ncl;have m:=L.lam.keep x L.nfl;obtain⟨pm,O,n5,e,_⟩:=id m.fn;refine callWith_F0 ⟨_,_,_,_,e⟩ (xQ (tE (N4 (CX:=CXx X.prog X.w) (E:=E) (t:=t E) (Q:=λ_ a=>D.nx c a) L.sc hr d.env0 F m L.bnd (λO S=>L.run E O s1 M S) ht) λr s2 n=>?_))
 cases r with
 |error e=>exact VY o6 dr hex d n hg hm j5 V hN hi hj m5 lx ln fH du bf hk
 |ok f=>
  cases f with
  |next=>exact False.elim n
  |brk=>exact False.elim n
  |cont=>exact False.elim n
  |ret u=>
   obtain⟨v,P,R,_,qq⟩:=d.after n;exact xS (xS ⟨c,P,R,qq⟩)
end
end L2
namespace PX
open PySem PySem.Spec PyProof.Rows L2 PySem.SeqAt PySem.W
def sim:D->Bool
 | .non| .bl _| .int _| .str _=>true
 |_=>false
def GD{K c:Frag}{H a:Hp}{O e:AP'}{d:D}{v:V}(h:sim d=true)(r:Rep K H O d v):Rep c a e d v:=by
 cases d with
 |non=>rw[Rep] at r ⊢;exact r
 |bl b=>rw[Rep] at r ⊢;exact r
 |int b=>rw[Rep] at r ⊢;exact r
 |str b=>rw[Rep] at r ⊢;exact r
 |_=>cases h
def vR(n i:Nat)(fs:FS)(d:D):Option D:=match fs ((List.replicate n none).set i (some (d,false))) with
 |some (.rt (r,false) _)=>if sim r=true then some r else none
 |_=>none
def vD(b:iI)(f:F)(x:XS)(n i:Nat)(fs:FS)(e:Str->Option Nat):F:=λδ=>(iN δ (b.map .slot)).bind λargs=>if(args.all λa=>!a.2)=true then
  (match f (args.map some) with
   |some _=>vR n i fs .non
   |none=>(x (args.map some)).bind λc=>(e c).bind λC=>vR n i fs (.oth (.exc C) [] [])).bind λd=>some ((d,false),δ)
 else none
def wU{n i:Nat}{d:D}(c:L2.St)(a:gm): ¬OwnA c ((List.replicate n none).set i (some (d,false))) a:=λ⟨j,e,h1,_⟩=>by
 by_cases b:j=i
 ·subst b;rw[xD] at h1;split at h1
  ·split at h1<;>simp at h1
  ·rename_i z;exact z rfl
 ·rw[mI (mJ b),tx] at h1;split at h1<;>cases h1
def Sx{K:Frag}{H:Hp}{f:L2.St}{n i:Nat}{d:D}{v:V}(o:f.length=n)(k:f[i]?=some (some v))(r:Rep K H (λ_=>False) d v):ER K H (λ_=>False) f ((List.replicate n none).set i (some (d,false))):=by
 have c: ∀{j:Nat} {e:D} {b:Bool},((List.replicate n none).set i (some (d,false)))[j]?=some (some (e,b))->j=i/\e=d/\b=false:=λ{j e b} h=>by
  by_cases m:j=i
  ·subst m;rw[mv (by rw[JC,<-o];exact(uG.mp k).1)] at h;cases h;exact⟨rfl,rfl,rfl⟩
  ·rw[mI (mJ m),tx] at h;split at h<;>cases h
 refine⟨by simp[o],λj e h=>?_,λj e h=>?_,λj l e g a h=>?_,λa z=>absurd z (wU f a),λ_ z=>z.elim⟩
 ·obtain⟨rfl,rfl,_⟩:=c h;exact⟨v,k,Rep.mono (λ_ _ e _=>e) (λb _ z=>z.elim (wU f b) id) r⟩
 ·obtain⟨_,_,z⟩:=c h;cases z
 ·obtain⟨_,_,z⟩:=c h;cases z
structure ClK(K:Frag)(C CR:gm):Prop where
 k:ExcK K C
 ty: ∀n∈["int","bool","str","tuple","list","dict"],kitOne K (.ref C) (.type n)=some false
 up:exmOne K (.ref C) (.ref CR)=some true
def Od{b:List (D×Bool)}(h:(b.all λa=>!a.2)=true): ∀a∈b,a=(a.1,false):=λa c=>by
 have:=md.mp h a c;obtain⟨d,f⟩:=a
 cases f with
 |false=>rfl
 |true=>cases this
theorem DM: ∀(os:List Opd) (b:List (D×Bool)),(∀a∈b,a=(a.1,false))->gP os b=[]
 |[],b,_=>by cases b<;>simp[gP]
 |o::os,[],_=>by simp[gP]
 |o::os,a::b,h=>by
  have c:=h a jB;obtain⟨d,f⟩:=a;cases c;cases o<;>simp[gP,DM os b λa e=>h a (jA _ e)]
def Sk{b:List (D×Bool)}(h: ∀a∈b,a=(a.1,false))(f:L2.St)(a:gm): ¬OwnA f (b.map some) a:=λ⟨i,d,h1,_⟩=>by
 rw[jL] at h1;obtain⟨p,c,e⟩:=ie h1;cases e;have:=h _ (tw c);simp at this
section
variable {X:Cx}
def PE.or{e:gw}{t u:TE}(h1:PE X e t)(c:PE X e u):PE X e λb H Q=>t b H Q\/u b H Q:=λa s b H Q I h=>h.elim (h1 a s b H Q I) (c a s b H Q I)
def Mq{T:AP'}{g:L2.St}{l:Dn}{H:Hp}{d:iI}{f:List (D×Bool)}{K:Frag}(m:ER K H T g l)(r:iN l (d.map .slot)=some f):
  ∃vs:List V,wz d 0 g=vs.map some/\Ops K T g l H (d.map Opd.slot) vs l H T:=by
 obtain⟨u,s⟩:=ma r
 have there: ∀(i j:Nat),d[i]?=some j-> ∃v,g[j]?=some (some v):=λi j e=>by
  have t:i<f.length:=by have:=(uG.mp e).1;simp at u;omega
  obtain⟨o,q,k⟩:=s i _ (iW t);rw[jL,e] at q;cases q;have n:=oK k;generalize f[i]=y at n;obtain⟨x,b⟩:=y
  cases b with
  |false=>obtain⟨v,h,_⟩:=m.val j x n;exact⟨v,h⟩
  |true=>obtain⟨a,h,_⟩:=m.own j x n;exact⟨_,h⟩
 refine⟨d.map λj=>((g[j]?).join).getD .non,?_,by simp,.refl,m,λ_ z=>z,λj x v e=>?_,λj x v e=>?_,λj i v e hv=>?_⟩
 ·unfold wz;rw[List.replicate_zero,Bo];apply uO;intro i;rw[jL,jL,jL]
  cases e:d[i]? with
  |none=>rfl
  |some j=>obtain⟨v,hv⟩:=there i j e;simp[hv]
 ·rw[jL] at e;obtain⟨_,_,z⟩:=ie e;cases z
 ·rw[jL] at e;obtain⟨_,_,z⟩:=ie e;cases z
 ·rw[jL] at e;obtain⟨c,p,z⟩:=ie e;cases z;obtain⟨w,k⟩:=there j i p;rw[jL,p] at hv;simp[k] at hv;rw[k,hv]
end
section
variable {X:Cx}{Pt c:gm}{params:Arguments}{body:gw}{scope:iq}{pos u9 pf:Pos}{caps:iI}{N' NR:iw}{fB:F}{xB:XS}{aI:FS}{CI:Str->Option Nat}{asg:iI}{st:Stmt}{fr:gm}{cM:kY}{xf xc xr xx xn:Str}{CR:gm}{i j k:Nat}
structure RefBody(X:Cx)(st:Stmt)(NR:iw)(fr:gm)(xf xc xr xx xn:Str)(CR:gm)(i j k:Nat)(asg:iI)(aI:FS):Prop where
 sc:FnScope NR [xc] (gr st)
 as0:0∉asg
 hi:NR[i]?=some xx
 hj:NR[j]?=some xn
 ij:i≠j
 j0:j≠0
 lc:(gr st).names.lookup xc=some .local
 lx:(gr st).names.lookup xx=some .local
 ln:(gr st).names.lookup xn=some .local
 gl:(gr st).names.lookup xr=some .globalImplicit
 mg:X.mg xr=some (.ref CR)
 db:(xc==("__debug__":Str))=false/\(xc==("__classdict__":Str))=false/\(xn==("__debug__":Str))=false/\(xn==("__classdict__":Str))=false/\(xr==("__debug__":Str))=false
 body: ∃p1 p2 p3 p4 p5 p6 p7 p8 p9 S1 iu,kg st=S1:: .Try [.Expr (.Call (.Name xc p1) [] [] p2) p3] [.ExceptHandler (some (.Name xr p4)) (some xn) [.Assign [.Name xx p5] (.Name xn p6) p7] p8] [] [] p9::iu/\
  ∀(b8:gz) (A:gR) (outer:List Env) (s:gu) (H:Hp) (L:iK),(∀i,L i->i<1)->Room k (A.deeper (envOfC xf (gr st) s.heap.objs.size fr b8))->
   swapsWith (.Call (.Name xc p1) [] [] p2) none p3.line (envOfC xf (gr st) s.heap.objs.size fr b8)=pure false/\swapsWith (.Name xn p6) (some (.Name xx p5)) p7.line (envOfC xf (gr st) s.heap.objs.size fr b8)=pure false/\
   PSX (nY CX0 X.prog X.w X.K X.mg X.base NR xf (gr st) fr b8 A outer s H L2.E0).nox (λi=>i∈asg) L H S1 (jx i (fC .non))/\zT (nY CX0 X.prog X.w X.K X.mg X.base NR xf (gr st) fr b8 A outer s H L2.E0).nox (λi=>i∈asg) L H iu aI
def QJ{more:lA}(R:RefBody X st NR fr xf xc xr xx xn CR i j (k+1) asg aI)(F:Fun X.K xf xf st fr cM)(fJ:Binds X.K cM [xc] [])(fj:Gl X xf)(hmf:X.mg xf=some (.ref fr))(cp:(xf==("__debug__":Str))=false)
  (cg: ∀x,X.fn x=true)(hr:Room (k+2) X.A)(hTb:X.H₀ Pt=some (.tbl (#[.str (X.env.qual++"<lambda>") 0]++more)))(m8:X.env.code= .ref c)(C:CodeHd X.base c Pt)(hB:X.base.BuiltinsAt X.mg Pt)(fk:mainGlobals≠Pt)
  (CO:CompOk X N' scope caps 0)(LS:LamScope scope)(aB:defaultsOf params X.env=([],[]))(n4: ∀b9 pm M n5,bindArgs (kla_fn "<lambda>" (X.env.qual++"<lambda>") params body scope b9 pm (.ref M) n5) ⟨[],[]⟩=pure [])
  (he:starEach [.Lambda params body scope u9] X.env=(false,eval (.Lambda params body scope u9) X.env)::starEach [] X.env)(i6:(backTo pos (starEach [] X.env)).any (·.1)=false)
  (fM: ∀z C0,CI z=some C0->X.mg z=some (.ref C0)/\ClK X.K C0 CR)
  (hb: ∀(B:gm) (b9:jy) (M:gm) (A:gR) (O:List Env) (s:gu) (H:Hp) (E:XK),Room k (A.deeper (yU (X.env.qual++"<lambda>") scope s.heap.objs.size B (.ref M) b9))->
   PX (qw (CXx X.prog X.w) X.prog X.w X.K X.mg X.base N' (X.env.qual++"<lambda>") scope B (.ref M) b9 A O s H E) body fB/\PZE (qw (CXx X.prog X.w) X.prog X.w X.K X.mg X.base N' (X.env.qual++"<lambda>") scope B (.ref M) b9 A O s H E) E body xB):
  PX X (.Call (.Name xf pf) [.Lambda params body scope u9] [] pos) (vD caps fB xB NR.length i aI CI):=by
 intro pins s g H Q I hw;obtain⟨U,T,r,δ',E1,e,kq⟩:=hw;obtain⟨t,ha,e⟩:=gh e;split at e
 case isFalse=>cases e
 rename_i hfz;have cG:=Od hfz;obtain⟨d,hd,e⟩:=gh e;obtain⟨rfl,rfl⟩:=gM e;obtain⟨vs,eO,B0⟩:=Mq E1 ha;have nd0:=DM (caps.map Opd.slot) t cG;have Ec:=wY E1 B0 ha (by rw[nd0];exact sO);obtain⟨S,hclo,j6,l4⟩:=pK X.env scope λx hx hf=>I.ok.has x.1 (CO.free x hx hf);obtain⟨more2,hP⟩:=I.base.tbls Pt _ hTb;rw[ES] at hP;refine vQ (ug I fj hmf ?_ cp);refine callWith_K (h₀:=X.base) I.ok.mod.kin F.kp ?_ he i6;rw[he];show wpAny _ _ (spliced ((false,eval (.Lambda params body scope u9) X.env)::backTo pos (starEach [] X.env))) _ _ s;refine EK (LD I hP m8 C hB fk hclo aB λs1 Y B P up L kp fr0 new=>?_);refine EL ⟨P.kIn,?_⟩
 have nst: ∀x c,S.lookup x=some c->c∉frs X.stack:=λx c e z=>by
  rcases jM.mp (I.stkSub c z) with q|q
  ·exact I.cne x c (j6 x c e) q
  ·obtain⟨_,o,ho,_⟩:=I.ok.funs.mem q;exact absurd (iJ ho) (MF.mpr (I.ok.cab x c (cg x) (j6 x c e)))
 have nfl:B∉frs X.stack:=λz=>by
  obtain⟨_,o,ho,_⟩:=I.stack.mem z;rw[new] at ho;cases ho
 have LC:LamCells N' scope S (vs.map some) Y s1.heap:=by
  rw[<-eO];refine⟨λx y c h1 h2=>I.ok.inj x y c (j6 x c h1) (j6 y c h2),λx hx=>l4 x (oq hx),λx c h=>⟨P.cell x c (j6 x c h),P.freeC x c (j6 x c h)⟩,λl x v h1 h2=>?_,CO.sco.len g⟩;obtain⟨hf,jj,hj,hv⟩:=CO.sco.pre g l v x h2 h1;refine⟨hf,?_⟩;obtain⟨m,hn,hl⟩:=P.loc;have m9:=CO.free (x,.free) (oq hf) rfl;obtain⟨u,r,q⟩:=hl jj x v hj hv (by rcases m9 with z|z;exact .inr (.inl z);exact .inr (.inr z));rcases q with⟨eV,_⟩|⟨_,c,hc,j7⟩
  ·have bI:X.env.scope.names.lookup x=some .local:=eV;rcases m9 with z|z<;>(have z':X.env.scope.names.lookup x=_:=z;rw[bI] at z';cases z')
  ·obtain⟨M,aU⟩:=l4 x (oq hf);have:=j6 x M aU;rw[hc] at this;cases this;exact⟨c,u,aU,j7,r⟩
 have noT: ∀(g:L2.St) (a:gm),¬OwnA g (t.map some) a:=Sk cG;obtain⟨oc,od,kV,doc,pm,an,b8,ct,s9,rfl,lkr,hcdr⟩:=F.ex;have hbt:=fJ s1 [.ref B] P.kIn rfl;refine thn (xQ (tE (Ux (CX:=CX0) (E:=L2.E0) (Q:=λv p=>Post X.K T g U H (d,false) U v p) (vs:=[.ref B]) lkr hcdr R.sc hr P.env0 hbt (.cons rfl .nil) rfl λcE=>?_) (R:=L2.CR CX0 X.stack X.prog X.w Y s1 (λv p=>Post X.K T g U H (d,false) U v p) L2.E0) λrr s2 hq=>?_)) (Q:=EP X pins g λv p=>Post X.K T g U H (d,false) U v p) λv s2 ⟨x,J,I2,rx,q⟩=>⟨x,J,I2,rx,kq x J q⟩
 ·obtain⟨p1,p2,p3,p4,p5,p6,p7,p8,p9,S1,iu,bC,hq⟩:=R.body;obtain⟨sw1,sw2,en,Z⟩:=hq b8 X.A X.stack s1 Y (λ_=>False) (λ_ z=>z.elim) cE
  have nl: ∀{n:Nat} {a:gm} {g:L2.St},¬OwnA g (List.replicate n none) a:=λ{n a g} ⟨l,e,h1,_⟩=>by
   rw[tx] at h1;split at h1<;>cases h1
  have hlen:(L2.mY NR [V.ref B]).length=NR.length:=by
   have:1<=NR.length:=by
    have:=lP List.length R.sc.pre;rw[tD] at this;simp at this;omega
   unfold L2.mY;simp;omega
  have fin: ∀(z:D) (J:Hp) (G:L2.St) (v0:V),vR NR.length i aI z=some d->(∀a o,Y a=some o->J a=some o)->(∀a,Y a≠none->J a≠none)->G.length=NR.length->G[i]?=some (some v0)->Rep X.K J (λ_=>False) z v0->
    tS X.K (λi=>i∈asg) (λ_=>False) Y aI {nx:=λ_ p=>Post X.K T g U H (d,false) U .non p,rt:=λv p=>Post X.K T g U H (d,false) U v p} G J:=λz J G v0 ht W dm2 ae eY rz=>by
   unfold vR at ht;split at ht
   case h_2=>cases ht
   rename_i rr δr fq;obtain⟨hs,rfl⟩:=hV ht;refine⟨_,λ_=>False,_,Sx ae eY rz,⟨λl a ⟨d,h1,h2⟩=>absurd ⟨l,d,h1,h2⟩ (wU G a),dm2⟩,fq,λv σ3 H3 S3 hrv=>?_⟩;have ext: ∀a o,H a=some o->H3 a=some o:=λa o q=>S3.kp a o (W a o (up a o q)) (wU G a);exact⟨.ext ext,E1.mono (λb o q _=>ext b o q) (λ_ _ z=>z) (λa z=>(E1.dom a z).up (ext a)),GD hs hrv.2⟩
  rw[bC];have Xs:=(nY CX0 X.prog X.w X.K X.mg X.base NR xf (gr st) fr b8 X.A X.stack s1 Y L2.E0).nox
  have run: ∀(E:XK) (M:gm) (s:gu) (H:Hp),Room k ((X.A.deeper (envOfC xf (gr st) s1.heap.objs.size fr b8)).deeper (yU (X.env.qual++"<lambda>") scope s.heap.objs.size B (.ref M) S))->
    PE (qw (CXx X.prog X.w) X.prog X.w X.K X.mg X.base N' (X.env.qual++"<lambda>") scope B (.ref M) S (X.A.deeper (envOfC xf (gr st) s1.heap.objs.size fr b8)) (envOfC xf (gr st) s1.heap.objs.size fr b8::X.stack) s H E) body (λg H Q=>tF X.K fB g H Q\/tZ X.K X.mg E xB g H):=λE M s H hr2=>
   let⟨h1,h2⟩:=hb B S M _ _ s H E hr2
   PE.or h1 h2
  have LI:LamIn (nY CX0 X.prog X.w X.K X.mg X.base NR xf (gr st) fr b8 X.A X.stack s1 Y L2.E0).nox N' scope S (vs.map some) (X.env.qual++"<lambda>") params body B k (λE g H Q=>tF X.K fB g H Q\/tZ X.K X.mg E xB g H):=⟨LS,LC,L,nfl,nst,n4 S,run⟩
  have h0:NR[0]?=some xc:=by
   have:=lP (λl=>l[0]?) R.sc.pre;simpa using this
  have pt:=Rj (p4:=p4) (p8:=p8) (p9:=p9) LI rfl rfl rfl cE h0 (.inl R.lc) R.db.1 R.db.2.1 sw1 R.gl R.mg R.db.2.2.2.2 R.sc.nd R.hi R.hj R.ij R.lx R.ln R.db.2.2.1 R.db.2.2.2.1 sw2;refine⟨_,(oE en (oE pt Z)).nox,?_⟩;have eX:i<NR.length:=(uG.mp R.hi).1;refine⟨List.replicate NR.length none,λ_=>False,.nx ((List.replicate NR.length none).set i (some (.non,false))),⟨by simp[hlen],λl d h=>?_,λl d h=>?_,λl m d e a h=>?_,λa z=>absurd z nl,λ_ z=>z.elim⟩,⟨λl a ⟨d,h1,h2⟩=>absurd ⟨l,d,h1,h2⟩ nl,λ_ z=>z⟩,?_,λσ1 J K1 ER1=>?_⟩
  ·rw[tx] at h;split at h<;>cases h
  ·rw[tx] at h;split at h<;>cases h
  ·rw[tx] at h;split at h<;>cases h
  ·show(if i<(List.replicate NR.length (none:Sl)).length then some (Out.nx _) else none)=_;rw[gF (by simpa using eX)]
  ·have W: ∀a o,Y a=some o->J a=some o:=λa o q=>K1.kp a o q nl;have bH:σ1.length=NR.length:=by have:=ER1.len;simpa using this
   have hs0:σ1[0]?=some (some (V.ref B)):=by
    rw[K1.as 0 R.as0];unfold L2.mY;rfl
   have Ec2:ER X.K J (Tc T g U vs t) (vs.map some) (t.map some):=Ec.mono (λb o q _=>W b o (up b o q)) (λ_ _ z=>z) (λa z=>(Ec.dom a z).up λo q=>W a o (up a o q));split at hd
   ·
    rename_i z hz;refine⟨hs0,λ_ _ _=>False,.inl ⟨_,_,z.1,z.2,Ec2,hz,λv H3 P3=>?_⟩,λ_ _ z=>z.elim,λ_ _ _ _ z=>z.elim⟩;obtain⟨v0,dQ,cR⟩:=ER1.val i .non (by rw[mv (by simpa using eX)]);refine fin .non H3 σ1 v0 hd (λa o q=>P3.1.kp a o (W a o q) (noT _ a)) (λa q=>P3.1.dm a (K1.dm a q)) bH dQ (GD rfl cR)
   ·
    obtain⟨cn,hx,hd⟩:=gh hd;obtain⟨C0,hC0,hd⟩:=gh hd;obtain⟨hmC,ck⟩:=fM cn C0 hC0;refine⟨hs0,λcls _ p=>cls= .ref C0/\ ∀a o,J a=some o->p a=some o,.inr ⟨_,_,cn,Ec2,noT _,hx,λp C' dH hm'=>?_⟩,λC' p ⟨q,_⟩=>?_,λC' p ea o ⟨q,dH⟩ hn ho=>?_⟩
    ·rw[hmC] at hm';cases hm';exact⟨rfl,dH⟩
    ·cases q;exact ck.up
    ·cases q;have cP: ∀a N,p a=some N->upd p ea (.frz o (.own 0)) a=some N:=λa N q=>by rw[gQ (jS q hn)];exact q
     refine fin (.oth (.exc C0) [] []) _ _ (.ref ea) hd (λa N q=>cP a N (dH a N (W a N q))) (λa q=>?_) (by simp[bH]) (by rw[mv (by simpa[bH] using eX)]) (Rep.mkOth (us:=[]) (λz=>z) ⟨⟨rfl,rfl,rfl⟩,o,gU,ho,λa=>LF ck.k ho,ck.ty⟩ RepL.nil)
     cases hh:Y a with
     |none=>exact absurd hh q
     |some N=>rw[cP a N (dH a N (W a N hh))];simp
 ·cases rr with
  |error e=>exact False.elim hq
  |ok f=>
   cases f with
   |ret u=>exact P.after hq
   |_=>exact False.elim hq
end
def iD:D->Int
 | .int i=>i
 |_=>0
def Se:D->Option (D×Bool)
 | .lst l=>if l.all isI=true then some (.int (preSum (λj=>iD (l.getD j .non)) l.length),false) else none
 |_=>none
theorem yI: ∀{c:ik} {b:gC},IntsAre c b-> ∃a:List (Int×Tok),c=a.map (λp=>Value.int p.1 p.2)/\b=a.map (·.1)
 |_,_,.nil=>⟨[],rfl,rfl⟩
 |_,_,.cons n t r=>let⟨a,h1,d⟩:=yI r;⟨(n,t)::a,by rw[h1];rfl,by rw[d];rfl⟩
theorem vV{f g:Nat->Int}: ∀n,(∀j,j<n->f j=g j)->preSum f n=preSum g n
 |0,_=>rfl
 |n+1,h=>by rw[preSum,preSum,vV n λj a=>h j (by omega),h n (by omega)]
section
variable {X:Cx}
def IG(i:X.calm=true):ju X (.builtin "sum") (rDn X.K (g1 Se)):=nG λe s M H x u Q O d z I B np hd b G=>by
 cases d with
 |lst l=>
  obtain⟨h,rfl⟩:=hV b;obtain⟨p,L,rfl,q,r⟩:=jD hd;cases B;obtain⟨t,v,y,_⟩:=I.list q;obtain⟨J,c,n⟩:=Qm h r v;obtain⟨f,g,a⟩:=yI n;have k:X.A.handled=none:=I.ok.hd i
  have o:s.heap.IsList p (intItems f.toArray):=by
   have:=y.isList;rw[g] at this;simpa[intItems] using this
  refine sum_intListG k o λE C t' w=>?_;refine⟨.int (preSum (λj=>iD (l.getD j .non)) l.length),H,I.kept (t':=C) w,⟨t',?_⟩,G.int⟩;have:l.length=f.length:=by rw[c,a];simp
  rw[this,je]
  congr 1
  refine vV _ λj m=>?_;rw[c,a];simp[numAt,iD,kh,m]
 |_=>cases b
def Sm(l:List D):Option Nat:=(nR l).bind λbs=>bs.findIdx? id
def Oi(i:Nat):F:=λa=>match a[i]? with
 |some (some (.lst l,true))=>(Sm l).bind λj=>if l.length<=1000 then some ((.int j,false),a) else none
 |_=>none
def VU(x:V)(b:List V)(H:Hp)(Q:VK):Prop:= ∃(l:gm) (a:List V) (bs:List Bool) (j:Nat),x= .ref l/\b=[.bl true]/\H l=some (.lst a)/\a=bs.map V.bl/\bs.findIdx? id=some j/\bs.length<=1000/\Q (.int j) H
theorem Gx: ∀{bs:List Bool} {a:ik},Vals (bs.map V.bl) a->a=bs.map Value.bool
 |[],_,.nil=>rfl
 |b::bs,_,.cons r t=>by cases r;rw[Gx t];rfl
def Lr:MtM X "list.index" VU:=by
 intro c s N H x L v J Q I B w h;obtain⟨l,M,bs,j,rfl,rfl,g,rfl,k,E,q⟩:=h;cases B;obtain⟨u,rfl,t⟩:=w.one;cases t;obtain⟨z,p,n,r,a,e⟩:=I.lstM g;have i:=Gx r;subst i;obtain⟨h1,d,f⟩:=List.findIdx?_eq_some_iff_getElem.mp k
 refine vO F.slot_list_index ⟨_,e,rfl⟩ F.entry_list_index (F.args_list_index_2 _ _)
  (list_indexAt l (bs.map Value.bool).toArray n none #[] (.bool true) (λy=>match y with| .bool b=>b|_=>false) j (by simpa using h1) (by omega) (by simpa using d) (λm G C=>?_)) ⟨e,λy o=>?_,⟨.int j,H,I.tok _,⟨_,rfl⟩,q⟩⟩
 ·have:=f m C;simpa using this
 ·obtain⟨b,_,rfl⟩:=mO.mp (List.mem_toArray.mp o);have:=EqAt.bool_bool (A:=X.A.in1) (s:=s) b true;cases b<;>simpa using this
variable {B w c o f:Pos}{i:Nat}{x:Str}{g:Nat}
theorem GL{K:gK}{H:Hp}{O:AP'}: ∀{l:List D} {bs:List Bool} {a:List V},nR l=some bs->RepL K H O l a->a=bs.map V.bl
 |[],bs,a,h,r=>by cases h;rw[RepL] at r;exact r
 | .bl b::l,bs,a,h,r=>by
  obtain⟨d,h1,rfl⟩:=ie h;rw[RepL] at r;obtain⟨v,k,rfl,e,j⟩:=r;rw[e.bl,GL h1 j];rfl
theorem AJ: ∀{l:List D} {bs:List Bool},nR l=some bs->bs.length=l.length
 |[],_,h=>by cases h;rfl
 | .bl b::l,_,h=>by obtain⟨a,h1,rfl⟩:=ie h;simp[AJ h1]
def Kv(hv:PO X (.Name x w) (gk i))(L:attributeBase (.Name x w) "index" X.env (eval (.Name x w) X.env)=eval (.Name x w) X.env)
  (M:((backTo o (starEach [.Constant (.bool true) g f] X.env)).all (λx=>!x.1)&&(backToKw o (keywordEach [] X.env)).all (λx=>x.1.isSome)&&decide ([Expr.Constant (.bool true) g f].length+([]:List Keyword).length+(if([]:List Keyword).isEmpty then 0 else 1)<30))=true)
  (J:(c.endLine==o.line)=true)(s:starEach [.Constant (.bool true) g f] X.env=(false,eval (.Constant (.bool true) g f) X.env)::starEach [] X.env)(A:(backTo o (starEach [] X.env)).any (·.1)=false):
  PX X (.Call (.Attribute (.Name x w) "index" c) [.Constant (.bool true) g f] [] o) (Oi i):=
 PX.imp (Lb Bg PySem.F.slot_list_index PySem.F.type_list_index Lr hv (ke OY nv s) L M J s A) λW H Q G=>by
 obtain⟨d,T,V,D,E,e,k⟩:=G;unfold Oi at e;split at e
 ·rename_i l m;obtain⟨j,n,e⟩:=gh e;obtain⟨bs,r,n⟩:=gh n;obtain⟨C,e⟩:=hV e;obtain⟨rfl,rfl⟩:=sZ e;refine⟨d,T,.slot i,d,E,by unfold gk;rw[m],λv K P=>?_⟩;obtain⟨u,h,b⟩:=P;obtain⟨a,g1,z,g2,g3⟩:=h.own i _ m;rw[b] at g1;cases g1;refine⟨.inl ⟨rfl,z,SqL.of g2⟩,d,T,_,d,h,rfl,λy R q=>?_⟩;obtain⟨p,U⟩:=q.rep h;have I:=U.bl;subst I;obtain⟨S,t,Y,N,O⟩:=p.own i _ m;rw[b] at t;cases t;refine⟨_,Y,bs,j,rfl,rfl,N,GL r O,n,by rw[AJ r];exact C,?_⟩;exact k _ _ (Post.val (u.trans q.1) p Rep.mkInt)
 ·cases e
end
def wF(a:iI)(b:Nat):D->Option (D×Bool)
 | .oth (.exc C) _ _=>if a.contains C=true then some (.bl (C==b),false) else none
 |_=>none
def Si(a:iI):D->Option (D×Bool)
 | .oth (.exc C) _ _=>if a.contains C=true then some (.bl true,false) else none
 |_=>none
section
variable {X:Cx}{e:gw}{fa:FO}{pos p p2:Pos}{z:Str}{CL:iI}{D0:Nat}
def Sa{g:D->Option (D×Bool)}{f:gz}{i:V}(N:RelV i f)(B: ∀l,RelV i l->l=f)(A: ∀d t,g d=some t-> ∃C b j m,d= .oth (.exc C) j m/\t=(.bl b,false)/\kitOne X.K (.ref C) f=some b):
  ju X (.builtin "isinstance") (λn H Q=> ∃(O:AP') (d:D) (x:V) (b:Bool),n=[x,i]/\jq X.K H O d x/\g d=some (.bl b,false)/\Q (.bl b) H):=by
 intro k s Y H n J Q I r h;obtain⟨O,d,x,b,rfl,hd,c,q⟩:=h;obtain⟨u,U,rfl,G,E⟩:=tL r;have:=B _ E;subst this;obtain⟨C,L,j,m,rfl,v,hk⟩:=A _ _ c;cases v;obtain⟨a,J,rfl,oth,_⟩:=nk hd;cases G;obtain⟨_,o,e,h1,y,M⟩:=oth;exact kia_one (y a) I.kIn (show ObjOk X.prog X.w H s.heap a (.frz o (.own 0)) from I.hok a _ e).1 hk (λz=>nomatch z) λT=>⟨.bl _,H,I.tok _,rfl,q⟩
def GP{g:D->Option (D×Bool)}{w2:V}{h:gz}{a:gw}(w:PO X e fa)(c:PE X a (tC w2))(f:RelV w2 h)(A: ∀s,RelV w2 s->s=h)(q: ∀d i,g d=some i-> ∃C b r t,d= .oth (.exc C) r t/\i=(.bl b,false)/\kitOne X.K (.ref C) h=some b)
  (u:Gl X "isinstance")(y:X.mg "isinstance"=none)(hv:bootBuiltins "isinstance"=some (.builtin "isinstance"))(s1:starEach [e,a] X.env=(false,eval e X.env)::starEach [a] X.env)(I:starEach [a] X.env=(false,eval a X.env)::starEach [] X.env)(G:(backTo pos (starEach [a] X.env)).any (·.1)=false):
  PX X (.Call (.Name "isinstance" p) [e,a] [] pos) (jg g fa):=by
 refine PX.imp (qf (Sa (X:=X) f A q) u y hv (ke w (ke c nv I) s1) (by decide) (by decide) s1 G) λO H Q f=>?_;obtain⟨J,T,N,L,E,e,k⟩:=f;obtain⟨⟨o,l⟩,h1,e⟩:=gh e;obtain⟨x,c,e⟩:=gh e;obtain⟨i,n,e⟩:=gh e;obtain⟨rfl,rfl⟩:=gM e;obtain⟨C,b,r,t,rfl,rfl,hk⟩:=q _ _ n;refine⟨J,T,o,l,E,h1,λv M m=>?_⟩;have B:=Ops.cons E m (Ops.nil (m.er E));exact⟨_,_,v,b,rfl,B.view (j:=0) rfl rfl c,n,(B.done k).bl⟩
structure ClT(K:Frag)(mg:jX)(CL:iI)(D0:Nat)(z:Str):Prop where
 mg:mg z=some (.ref D0)
 is: ∀C∈CL,kitOne K (.ref C) (.ref D0)=some (C==D0)
def xE(T:Tx X.mg)(c:ClT X.K X.mg CL D0 z)(f:QO X e fa)(b:Gl X "isinstance":=by rfl)(a:Gl X z:=by rfl)(j:DB z:=by decide)(s1:starEach [e,.Name z p2] X.env=(false,eval e X.env)::starEach [.Name z p2] X.env:=by rfl)(l:SE X (.Name z p2) []:=by rfl)(i:BA X pos [.Name z p2]:=by rfl):
  QX X (.Call (.Name "isinstance" p) [e,.Name z p2] [] pos) (jg (wF CL D0) fa):=⟨GP (w2:= .ref D0) f.h (G2 a c.mg rfl j) rfl (λu h=>by cases h;rfl) (λd n h=>by
 unfold wF at h;split at h
 ·rename_i C k m;obtain⟨g,rfl⟩:=hV h;exact⟨C,_,k,m,rfl,rfl,c.is C (by simpa using g)⟩
 ·cases h) b T.n_isinstance mq s1 l i⟩
def xEV(T:Tx X.mg)(b:X.mg "ValueError"=none)(hk: ∀C∈CL,kitOne X.K (.ref C) (.type "ValueError")=some true)(f:QO X e fa)(c:Gl X "isinstance":=by rfl)(a:Gl X "ValueError":=by rfl)(s1:starEach [e,.Name "ValueError" p2] X.env=(false,eval e X.env)::starEach [.Name "ValueError" p2] X.env:=by rfl)(k:SE X (.Name "ValueError" p2) []:=by rfl)(i:BA X pos [.Name "ValueError" p2]:=by rfl):
  QX X (.Call (.Name "isinstance" p) [e,.Name "ValueError" p2] [] pos) (jg (Si CL) fa):=⟨GP (w2:= .ty "ValueError") f.h (wO (v:= .ty "ValueError") a b (by decide+kernel) rfl (by decide) (by decide)) rfl (λu h=>by cases h;rfl) (λd m h=>by
 unfold Si at h;split at h
 ·rename_i C j l;obtain⟨g,rfl⟩:=hV h;exact⟨C,_,j,l,rfl,rfl,hk C (by simpa using g)⟩
 ·cases h) c T.n_isinstance mq s1 k i⟩
variable {x:Str}{i kk:Nat}{b7 apos:Pos}{a:gw}{f:F}
def U5(hv:QO X (.Name x b7) (gk i))(g:attributeBase (.Name x b7) "index" X.env (eval (.Name x b7) X.env)=eval (.Name x b7) X.env:=by rfl)
  (j:((backTo pos (starEach [.Constant (.bool true) kk p2] X.env)).all (λx=>!x.1)&&(backToKw pos (keywordEach [] X.env)).all (λx=>x.1.isSome)&&decide ([Expr.Constant (.bool true) kk p2].length+([]:List Keyword).length+(if([]:List Keyword).isEmpty then 0 else 1)<30))=true:=by rfl)
  (d:(apos.endLine==pos.line)=true:=by rfl)(c:SE X (.Constant (.bool true) kk p2) []:=by rfl)(b:BA X pos []:=by rfl):QX X (.Call (.Attribute (.Name x b7) "index" apos) [.Constant (.bool true) kk p2] [] pos) (Oi i):=⟨Kv hv.h g j d c b⟩
end
def Oy(Z:ZZ)(k:Nat)(x:Str)(b:iw)(c:List D->Option Str):Prop:= ∃f a,FnOk Z.P Z.w Z.K Z.mg Z.base (CXx Z.P Z.w) k f a b (spR Z.K Z.mg c)/\Z.mg x=some (.ref f)/\keepIn Z.K (.ref f)=true/\Binds Z.K a b []
theorem Oy.up{Z:ZZ}{k j:Nat}{x:Str}{c:iw}{d:List D->Option Str}(o:Oy Z k x c d)(h:k<=j:=by decide):Oy Z j x c d:=let⟨f,e,a,b⟩:=o;⟨f,e,a.mono h,b⟩
def oyB{Z:ZZ}{k:Nat}{x:Str}{st:Stmt}{N e:iw}{xs:XS}(a:Fz Z.K Z.mg x st)(S:FnScope N e (gr st))(b:BdA x st e)
  (i: ∀(f:gm) (d:gz) (A:gR) (c:List Env) (s:gu) (H:Hp) (E:XK),Room k (A.deeper (envOfC x (gr st) s.heap.objs.size f d))->un (A.deeper (envOfC x (gr st) s.heap.objs.size f d)) 60->un (A.deeper (envOfC x (gr st) s.heap.objs.size f d)) 1->un (A.deeper (envOfC x (gr st) s.heap.objs.size f d)) 62->N.Nodup->
   PZs (nY (CXx Z.P Z.w) Z.P Z.w Z.K Z.mg Z.base N x (gr st) f d A c s H E) E (kg st) xs):Oy Z (k+1) x e (xcF N.length e.length xs):=
 let⟨f,h,m,F⟩:=a
 ⟨f,h,Oc F S λd A c s H E g=>by
  have:=g.un;exact i f d A c s H E g (by unfold un;omega) (by unfold un;omega) (by unfold un;omega) S.nd,m,F.kp,F.binds b⟩
def ClX(Z:ZZ)(z:Str):Prop:= ∃C,Z.mg z=some (.ref C)/\excIn Z.K C veB "ValueError.__new__"=true
section
variable {X:Cx}{P:gS}{w:gO}{g:List Env}{o:Hp}{s0:gu}{E:XK}{A:iK}{st:Stmt}{i b:List Stmt}{x y:XS}{e:gw}{d p r:Pos}{f:FS}{z:Str}{a:gw}{n:F}{k:Nat}{q:iw}{l:List D->Option Str}{j:iO}{fs:List FO}{m:FT}{c:gw}
def zN(h1:QS X A (λ_=>True) (λ_=>none) st f)(s:PZs X E i x):PZs X E (st::i) (JH f x):=PL h1.h s
def zR(G:XeOk X P w g o s0 E)(c:ClX (zX X) z)(t:QX X a n)(u:X.calm=true:=by rfl)(v:Gl X z:=by rfl)(hd:DB z:=by decide)(C:starEach [a] X.env=[(false,eval a X.env)]:=by rfl):PZ X E (.Raise (some (.Call (.Name z p) [a] [] r)) none d) (EU z n):=
 let⟨_,B,s⟩:=c;MI G u s B v t.h hd C
def zI(t:QT X c m)(s:PZs X E i x):PZ X E (.If c i b d) (zIf m x zNo):=U0 t.h s UZ
def zC(L:XeOk X P w g o s0 E)(O:Oy (zX X) k z q l)(G:Room k X.A)(s:QA X (e::j) fs)(v:Gl X z:=by rfl)(J:DB z:=by decide)(u:SE X e j:=by rfl)(I:BA X d j:=by rfl)(C:X.prog=P:=by rfl)(H:X.w=w:=by rfl):PZE X E (.Call (.Name z p) (e::j) [] d) (ox l fs):=by
 subst C;subst H;obtain⟨f,M,F,B,hk,t⟩:=O;exact PN L F G v B hk t s.h J u I
def zE(h:PZE X E e x)(s:swapsWith e none d.line X.env=pure false:=by rfl):PZ X E (.Expr e d) x:=PM h s
end
def CG{P:gS}{w:gO}{K:Frag}{d:jX}{base:gL}{N:iw}{q:Str}{scope:iq}{c:gm}{cd:gz}{b:jy}{A:gR}{a:List Env}{s:gu}{H:Hp}{E:XK}:
  XeOk (qw (CXx P w) P w K d base N q scope c cd b A a s H E) P w a H s E:=⟨rfl,rfl,rfl,rfl,rfl,rfl,rfl,rfl,λ_ _ h=>h⟩
def OG(q:Str)(a:gm)(H:Hp):Prop:= ∃more,H a=some (.tbl (#[.str q 0]++more))
def spT(TB:List (Addr×Str))(a:Sp):Sp:=λb H Q E=>(∀p∈TB,OG p.2 p.1 H)/\a b H Q E
structure TabX(X:Cx)(Pt:gm):Prop where
 t:OG (X.env.qual++"<lambda>") Pt X.H₀
 c: ∃c,X.env.code= .ref c/\CodeHd X.base c Pt
 b:X.base.BuiltinsAt X.mg Pt
 g:mainGlobals≠Pt
def Rf(Z:ZZ)(st:Stmt)(h:iw)(a f n o m:Str)(i j k:Nat)(c:iI)(l:FS)(g:Str->Option Nat):Prop:=
 ∃d e CR,Fun Z.K a a st d e/\Binds Z.K e [f] []/\Z.mg a=some (.ref d)/\(∀X:Cx,zX X=Z->RefBody X st h d a f n o m CR i j (k+1) c l)/\ ∀z b,g z=some b->Z.mg z=some (.ref b)/\ClK Z.K b CR
def FN(scope:iq):Bool:=decide (scope.kind= .function)&&!scope.isCoroutine&&!scope.isGenerator&&(scope.names.all λy=>y.2 != .cell)
def Uo{scope:iq}(h:FN scope=true):LamScope scope:=by
 unfold FN at h;simp only[kZ,md,uN,Bool.not_eq_true',bne_iff_ne] at h;exact⟨h.1.1.1,h.1.1.2,h.1.2,h.2⟩
def xRf{X:Cx}{I:gm}{d:Arguments}{f:gw}{scope:iq}{p B pf:Pos}{l:iI}{N' v:iw}{z:F}{xB:XS}{y:FS}{u:Str->Option Nat}{asg:iI}{st:Stmt}{r xc xr xx xn:Str}{i j k:Nat}
  (R:Rf (zX X) st v r xc xr xx xn i j k asg y u)(q:TabX X I)(hr:Room (k+2) X.A)(C:CompOk X N' scope l 0)(G:FN scope=true)
  (hb: ∀(o:gm) (m:jy) (n:gm) (A:gR) (e:List Env) (s:gu) (H:Hp) (E:XK),Room k (A.deeper (yU (X.env.qual++"<lambda>") scope s.heap.objs.size o (.ref n) m))->
   QX (qw (CXx X.prog X.w) X.prog X.w X.K X.mg X.base N' (X.env.qual++"<lambda>") scope o (.ref n) m A e s H E) f z/\PZE (qw (CXx X.prog X.w) X.prog X.w X.K X.mg X.base N' (X.env.qual++"<lambda>") scope o (.ref n) m A e s H E) E f xB)
  (T:Gl X r:=by rfl)(N:DB r:=by decide)(M: ∀x,X.fn x=true:=by exact λ_=>rfl)(J:defaultsOf d X.env=([],[]):=by rfl)(n4: ∀m pm n n5,bindArgs (kla_fn "<lambda>" (X.env.qual++"<lambda>") d f scope m pm (.ref n) n5) ⟨[],[]⟩=pure []:=by exact λ_ _ _ _=>rfl)
  (he:SE X (.Lambda d f scope B) []:=by rfl)(i6:BA X p []:=by rfl):
  QX X (.Call (.Name r pf) [.Lambda d f scope B] [] p) (vD l z xB v.length i y u):=by
 obtain⟨W,V,CR,F,O,P,Y,Q⟩:=R;obtain⟨more,S⟩:=q.t;obtain⟨c,D,U⟩:=q.c;exact⟨QJ (Y X rfl) F O T P N M hr S D U q.b q.g C (Uo G) J n4 he i6 Q λo m n A e s H E L=>let⟨a,b⟩:=hb o m n A e s H E L;⟨a.h,b⟩⟩
def walkT{l:OpenLaw}{q:gS}{m:iw}{XP:(Str->Option Value)->Heap->Prop}{E:World->Heap->Prop}{d:DefRec}{K:Params->Frag}{LV:Nat}{x:Str}{N:EvF}{TB:List (Addr×Str)}(hk:Room LV callerA)(hn:l.most=some 63)(cp:d.params.defaults=[])(hY: ∀(w:gO) (h:gL),E w h->(K w.params).In h)
  (J: ∀(w:gO) (h:gL),E w h-> ∀p∈TB,h.get? p.1=some (tabObj #[]))(ej: ∀(w:gO),∀p∈TB,(K w.params).lookup p.1=none)(dw:(TB.map (·.1)).Nodup)
  (F: ∀(w:gO) (n:jX) (v:gm) (h:gL),(K w.params).In h->h.Ns mainGlobals n->n d.name=some (.ref v)-> ∃I:FuncData,(∀(s:gu) (u:gz),BindsTo s I ⟨[u],[]⟩ [(x,u)])/\(∀p∈TB,∃c,codeHdIn (K w.params) c p.1=true)/\ ∀base:Heap,(K w.params).In base->base.Ns mainGlobals n->(∀p∈TB,base.BuiltinsAt n p.1)->FnOk l.prog w (K w.params) n base CX0 LV v I [x] (spT TB (spF (K w.params) N)))
  (M: ∀A:List Int,A.length<=63-> ∃o j,N [(.lst (A.map .int),false)]=some ((.bl true,o),j)):WalkO q m XP E l.row.toRowW d [] (λf B=>PySem.call f B):=by
 refine Att.OC hn cp λw U D n mb v o pm cd S a B A G Y ho hd m8 L P k i hg=>?_;have C:=hY w _ Y;obtain⟨I,hb,ei,hF⟩:=F w n v _ C G.T.g L;have Q:=J w _ Y;refine Ip (TB:=TB) C G.T.g G.T.b G.T.builtins G.T.nolimit hg Q (ej w) (λp t=>?_) dw (λp t=>?_) P k (mw i (by decide)) hk hF hb (λH O hS=>?_) λH e s' z=>z
 ·obtain⟨c,hc⟩:=ei p t;obtain⟨o,B,_,_,_,_,_,_,_,V,W,X,Z,_⟩:=codeHd_of_K C hc;exact⟨c,o,B,V,W,X,Z⟩
 ·obtain⟨R,ob,h1,h2,r,h4,h5,y⟩:=G.T.bmain;refine⟨R,ob,h1,h2,λz=>?_,λz=>?_,r,h4,h5,y⟩
  ·obtain⟨o',es,ep,e,dd,_⟩:=G.T.g;rw[z,e] at r;cases r;rw[dd] at y;cases y
  ·rw[z,Q p t] at r;cases r;cases y
 ·obtain⟨o,j,e⟩:=M A i;exact⟨λp t=>⟨#[],by rw[O.all p t];rfl⟩,N3 O.all hS e⟩
def Wc(TB:List (Addr×Str))(H:Hp):Prop:= ∀p∈TB,OG p.2 p.1 H
def fnU{Z:ZZ}{k:Nat}{x:Str}{st:Stmt}{N d:iw}{c:iI}{fs:FS}{f:gm}{e:kY}{TB:List (Addr×Str)}(F:Fun Z.K x x st f e)(S:FnScope N d (gr st))
  (m: ∀(b:gz) (A:gR) (a:List Env) (s:gu) (H:Hp) (E:XK) (L:iK),(∀i,L i->i<d.length)->Room k (A.deeper (envOfC x (gr st) s.heap.objs.size f b))->
   un (A.deeper (envOfC x (gr st) s.heap.objs.size f b)) 60->un (A.deeper (envOfC x (gr st) s.heap.objs.size f b)) 1->un (A.deeper (envOfC x (gr st) s.heap.objs.size f b)) 62->un (A.deeper (envOfC x (gr st) s.heap.objs.size f b)) 90->N.Nodup->
   b=e.code->Wc TB H->QQ (nY CX0 Z.P Z.w Z.K Z.mg Z.base N x (gr st) f b A a s H E).nox (λi=>i∈c) L H (kg st) fs):
  FnOk Z.P Z.w Z.K Z.mg Z.base CX0 (k+1) f e d (spT TB (spF Z.K (evF N.length d.length c fs))):=by
 obtain⟨q,r,kV,j,t,p,b,ct,u,rfl,lk,n⟩:=F.ex;refine L6 lk n S (λo H Q E h=>GC h.2) λA a s H o Q E g h=>?_;obtain⟨L,h1,l⟩:=Ka h.2;have:=g.un;exact⟨_,((m b A a s H E L h1 g (by unfold un;omega) (by unfold un;omega) (by unfold un;omega) (by unfold un;omega) S.nd rfl h.1).h).nox,l⟩
def Wa{Z:ZZ}{k:Nat}{x q:Str}{st:Stmt}{N e:iw}{asg:iI}{fs:FS}{f c d:gm}{g:kY}{TB:List (Addr×Str)}(F:Fun Z.K x x st f g)(t:g.code= .ref c)(n:CodeHd Z.base c d)(m:Z.base.BuiltinsAt Z.mg d)(v:mainGlobals≠d)(y:(d,q)∈TB)(S:FnScope N e (gr st))
  (r: ∀(f:gm) (b:gz) (A:gR) (a:List Env) (s:gu) (H:Hp) (E:XK) (L:iK),(∀i,L i->i<e.length)->Room k (A.deeper (envOfC x (gr st) s.heap.objs.size f b))->
   un (A.deeper (envOfC x (gr st) s.heap.objs.size f b)) 60->un (A.deeper (envOfC x (gr st) s.heap.objs.size f b)) 1->un (A.deeper (envOfC x (gr st) s.heap.objs.size f b)) 62->un (A.deeper (envOfC x (gr st) s.heap.objs.size f b)) 90->N.Nodup->
   TabX (nY CX0 Z.P Z.w Z.K Z.mg Z.base N x (gr st) f b A a s H E).nox d->QQ (nY CX0 Z.P Z.w Z.K Z.mg Z.base N x (gr st) f b A a s H E).nox (λi=>i∈asg) L H (kg st) fs)
  (z: ∀(L f:gm) (cd:gz),(envOfC x (gr st) L f cd).qual++"<lambda>"=q:=by exact λ_ _ _=>rfl):FnOk Z.P Z.w Z.K Z.mg Z.base CX0 (k+1) f g e (spT TB (spF Z.K (evF N.length e.length asg fs))):=
 fnU F S λb A a s H E L o B h1 h j l C u p=>r f b A a s H E L o B h1 h j l C ⟨by
  show OG ((envOfC x (gr st) s.heap.objs.size f b).qual++"<lambda>") d H;rw[z];exact p _ y,⟨c,u.trans t,n⟩,m,v⟩
def FzT(K:Frag)(d:jX)(x:Str)(st:Stmt)(b:gm):Prop:= ∃f a c,d x=some (.ref f)/\Fun K x x st f a/\a.code= .ref c/\codeHdIn K c b=true
def fzT{K:Frag}{h:gL}{g:jX}{x:Str}{st:Stmt}{f c d:gm}{m:gz}{n i:Option Addr}{p:pW}{kV b o ct:gz}(X:K.In h)(G:h.Ns mainGlobals g)(a:nsIn K mainGlobals x=some (some (.ref f)))
  (l:K.lookup f=some ⟨m,n,.func (fnOf x x (pI st) (kg st) (gr st) .none kV b o i (.ref c) ct),p⟩)(e:codeIn K (.ref c) x=true)(k:keepIn K (.ref f)=true)(j:codeHdIn K c d=true):FzT K g x st d:=⟨f,_,c,mg_of X G a,L4 l e k,rfl,j⟩
def FzT.cd{K:Frag}{d:jX}{x:Str}{st:Stmt}{b:gm}(a:FzT K d x st b): ∃c,codeHdIn K c b=true:=let⟨_,_,c,_,_,_,h⟩:=a;⟨c,h⟩
section
variable {X:Cx}{k:Nat}{f:gm}{l:kY}{g:iw}{x:Str}{p c:Pos}{e a:gw}{n:iO}{m:EvF}{fs:List FO}{d:FO}{TB:List (Addr×Str)}
def sP{A L:iK}{v:Hp}{b:gw}{y:Str}{s t pt o:Pos}{r q:Nat}{i j:Nat}{u:List F}(B:X.N.Nodup)(h:QA X [a,b] (u.map gn))(C:X.calm=true:=by rfl)(E:X.N[i]?=some x:=by rfl)(G:X.N[j]?=some y:=by rfl)(O:i≠j:=by decide)(J:X.env.scope.names.lookup x=some .local:=by rfl)(M:X.env.scope.names.lookup y=some .local:=by rfl)
  (I:swappedStores [.Tuple [.Name x s,.Name y t] r pt] (.Tuple [a,b] q o) X.env=pure (some [x,y]):=by rfl)(H:swapsWithSole [.Tuple [.Name x s,.Name y t] r pt] (.Tuple [a,b] q o) c.line X.env=pure false:=by rfl)(w:A i:=by decide)(z:A j:=by decide):
  QS X A L v (.Assign [.Tuple [.Name x s,.Name y t] r pt] (.Tuple [a,b] q o) c) (MW i j u):=⟨Nr C B E G O J M h.h I H w z⟩
def U1(q:X.mg "sum"=none)(b:QA X [a] [d])(i:X.calm=true:=by rfl)(o:Gl X "sum":=by rfl)(j:SE X a []:=by rfl)(r:BA X c []:=by rfl):QX X (.Call (.Name "sum" p) [a] [] c) (gJ (g1 Se) [d]):=
 ⟨GQ (IG i) o q (by decide+kernel) b.h (by decide) (by decide) j r⟩
end
structure ClsK(K:Frag)(mg:jX)(ct rs:List (Str×Nat))(CR:Nat):Prop where
 m: ∀p∈ct,mg p.1=some (.ref p.2)
 mr: ∀p∈rs,mg p.1=some (.ref p.2)
 is: ∀p∈rs,∀r∈ct,kitOne K (.ref p.2) (.ref r.2)=some (p.2==r.2)
 ve: ∀p∈rs,kitOne K (.ref p.2) (.type "ValueError")=some true
 ck: ∀p∈rs,ClK K p.2 CR
 ex: ∀p∈rs,excIn K p.2 veB "ValueError.__new__"=true
 su:mg "sum"=none
 vm:mg "ValueError"=none
 re:mg "RiddleError"=some (.ref CR)
def aN{a:Type}{P:a->Prop}: ∀p∈([]:List a),P p:=λ_ h=>nomatch h
def aC{b:Type}{P:b->Prop}{a:b}{l:List b}(h:P a)(r: ∀p∈l,P p): ∀p∈a::l,P p:=List.forall_mem_cons.mpr ⟨h,r⟩
def ctD(ct:List (Str×Nat))(z:Str):Nat:=(ct.lookup z).getD 0
section
variable {Z:ZZ}{ct a:List (Str×Nat)}{CR:Nat}
def lkM{z:Str}{C:Nat}(h:ct.lookup z=some C):(z,C)∈ct:=oq h
theorem ClsK.x(c:ClsK Z.K Z.mg ct a CR)(z:Str)(h:(a.lookup z).isSome=true:=by decide):ClX Z z:=by
 obtain⟨C,b⟩:=IS.mp h;exact⟨C,c.mr _ (lkM b),c.ex _ (lkM b)⟩
theorem ClsK.t(c:ClsK Z.K Z.mg ct a CR)(z:Str)(h:(ct.lookup z).isSome=true:=by decide):ClT Z.K Z.mg (a.map (·.2)) (ctD ct z) z:=by
 obtain⟨C,b⟩:=IS.mp h;have:ctD ct z=C:=by unfold ctD;rw[b];rfl
 rw[this];refine⟨c.m _ (lkM b),λD d=>?_⟩;obtain⟨p,e,rfl⟩:=mO.mp d;exact c.is p e _ (lkM b)
theorem ClsK.v(c:ClsK Z.K Z.mg ct a CR): ∀C∈a.map (·.2),kitOne Z.K (.ref C) (.type "ValueError")=some true:=λD b=>by
 obtain⟨p,d,rfl⟩:=mO.mp b;exact c.ve p d
def ClsK.ci(c:ClsK Z.K Z.mg ct a CR): ∀z b,a.lookup z=some b->Z.mg z=some (.ref b)/\ClK Z.K b CR:=λz C h=>⟨c.mr _ (lkM h),c.ck _ (lkM h)⟩
end
def V8{K:Frag}{j:jX}{x y:Str}{st:Stmt}{i h:gm}(a:FzT K j x st h)(n:j x=some (.ref i))(b:BdA x st [y]): ∃d c,Fun K x x st i d/\d.code= .ref c/\codeHdIn K c h=true/\ ∀(s:gu) (v:gz),BindsTo s d ⟨[v],[]⟩ [(y,v)]:=by
 obtain⟨f,d,c,m,F,h1,o⟩:=a;have e:=n.symm.trans m;cases e;refine⟨d,c,F,h1,o,?_⟩;obtain⟨q,r,kV,g,p,k,l,ct,t,e,_⟩:=F.ex;exact λs v=>by subst e;exact .of_eq (b kV g p k l ct [v] rfl)
end PX
namespace PV
open PySem PySem.Spec PyProof.Rows L2 PX
abbrev UJ:Nat:=100000
abbrev RD:Nat:=6
def qp:FS:=(gB (jf (zL (jg (pU [.int]) (gk 0)) (DO (jg (pU [.bool]) (gk 0))))) gX)
def mC:EvF:=evF 1 1 [] qp
def mV:FS:=(gB (jf (zL (gA mC [(gk 0)]) (vE .LtE .LtE (gk 1) (gk 0) (gk 2)))) gX)
def lL:EvF:=evF 3 3 [] mV
def sD:FS:=(gB (jf (gA lL [(gk 1),(gn (fC (.int 1))),(gk 0)])) gX)
def pH:EvF:=evF 2 2 [] sD
def pE:FS:=(gB (jf (zL (gA mC [(gk 1)]) (gA pH [(gk 0),(gn (gJ (g1 pD) [(gk 1)]))]))) gX)
def lY:EvF:=evF 2 2 [] pE
def kr:FS:=(gB (sIf (yQ (lT (fT (jg (pU [.tuple]) (gk 1)))) (fT (gy gNe (gn (gJ (g1 pT) [(gk 1)])) (gk 0)))) (gB (jf (fC (.bl false))) gX) gX) (gB (sIf (lT (fT (gJ (g1 DL) [(gn (iC [0] 1 (jP (jJ 1)) (gx 1) iX (iH (gA lY [(gk 0),(gk 1)]))))]))) (gB (jf (fC (.bl false))) gX) gX) (gB (jf (gy gEq (gn (qY [] 1 (jP (jJ 1)) (gx 0) iX (zg (gJ (g1 pD) [(gk 0)])))) (gk 0))) gX)))
def iM:EvF:=evF 2 2 [] kr
def qm:FS:=(gB (jf (fIf (fT (gy (oM .Gt) (gk 1) (gn (fC (.int 0))))) (gy gIx (gk 0) (gn (gy gSub (gk 1) (gn (fC (.int 1)))))) (jg nC (gn (gy gIx (gk 0) (gn (gy gSub (gn (jg nC (gk 1))) (gn (fC (.int 1)))))))))) gX)
def mB:EvF:=evF 2 2 [] qm
def lJ:FS:=(gB (sIf (fT (gy (oM .Lt) (gk 1) (gn (gJ (g1 pT) [(gk 0)])))) (gB (jf (gy gIx (gk 0) (gk 1))) gX) gX) (gB (jf (fC (.int 0))) gX))
def kI:EvF:=evF 2 2 [] lJ
def mU:FS:=(gB (jx 2 (gA kI [(gk 0),(gk 1)])) (gB (sIf (fT (gy (oM .GtE) (gk 2) (gn (gy Cg (gn (fC (.int 10))) (gn (fC (.int 18))))))) (gB (jf (jH [(gy gSub (gk 2) (gn (gy Cg (gn (fC (.int 10))) (gn (fC (.int 18)))))),(fC (.bl true))])) gX) gX) (gB (jf (jH [(gy zJ (gk 2) (gn (fC (.int 2147483647)))),(fC (.bl false))])) gX)))
def kQ:EvF:=evF 3 2 [2] mU
def nN:FS:=(gB (sIf (fT (gy gIx (gk 0) (gn (fC (.int 1))))) (gB (jx 2 (gy zJ (gn (gy gIx (gk 0) (gn (fC (.int 0))))) (gk 1))) (gB (oX 0 (gy LZ (gn (gy gIx (gk 0) (gn (fC (.int 0))))) (gk 1)) (gn (fC (.int 0)))) (gB (qM 2) gX))) gX) (gB (oX 0 (gy zJ (gn (gy kD (gn (gy nD (gn (gy gIx (gk 0) (gn (fC (.int 0))))) (gn (fC (.int 48271))))) (gn (fC (.int 29))))) (gn (fC (.int 2147483647)))) (gn (fC (.int 0)))) (gB (jx 3 (gy zJ (gn (gy kD (gn (gy kD (gn (gy nD (gn (gy gIx (gk 0) (gn (fC (.int 0))))) (gn (gy gIx (gk 0) (gn (fC (.int 0))))))) (gn (gy nD (gn (fC (.int 39373))) (gn (gy gIx (gk 0) (gn (fC (.int 0))))))))) (gn (fC (.int 7))))) (gn (fC (.int 2147483629))))) (gB (jx 3 (gy zJ (gn (gy kD (gn (gy nD (gk 3) (gk 3))) (gn (gy nD (gn (fC (.int 16807))) (gk 3))))) (gn (fC (.int 2147483587))))) (gB (jf (gy zJ (gn (gy LZ (gk 3) (gn (fC (.int 8))))) (gk 1))) gX)))))
def gD:EvF:=evF 4 2 [2,3] nN
def qo:FS:=(gB (jx 2 (gJ (gRg .lst true) [(gn (fC (.int 1))),(gn (gy kD (gk 1) (gn (fC (.int 1)))))])) (gB (jx 3 (jH [])) (gB (sh (sA (gk 1)) (gx 4) (gB (oD (lK 3 (gy nD (gn (sH 2 (gn (gA gD [(gk 0),(gn (gJ (g1 pT) [(gk 2)]))])))) (gn (gy gIx (gn (jH [(fC (.int 1)),(jg nC (gn (fC (.int 1))))])) (gn (gA gD [(gk 0),(gn (fC (.int 2)))]))))))) gX)) (gB (jf (gJ (g1 lr) [(gk 3)])) gX))))
def jn:EvF:=evF 5 2 [2,3,4] qo
def kW:FS:=(gB (jf (gy nD (gn (gy gIx (gk 0) (gn (gy gSub (gn (gJ (g1 pD) [(gk 1)])) (gn (fC (.int 1))))))) (gn (gy gIx (gn (jH [(fC (.int 1)),(jg nC (gn (fC (.int 1))))])) (gn (gJ (g1 zK) [(gn (gy (oM .Lt) (gk 1) (gn (fC (.int 0)))))])))))) gX)
def ip:EvF:=evF 2 2 [] kW
def lW:FS:=(gB (jf (zL (jg (pU [.int]) (gk 0)) (DO (jg (pU [.bool]) (gk 0))))) gX)
def jh:EvF:=evF 1 1 [] lW
def kB:FS:=(gB (sIf (yQ (lT (fT (jg (pU [.tuple]) (gk 1)))) (lT (fT (gJ (g1 DL) [(gn (iC [] 1 (jP (jJ 1)) (gx 0) iX (iH (gA jh [(gk 0)]))))])))) (gB (jf (fC (.bl false))) gX) gX) (gB (jf (gy gEq (gn (gJ (g1 mT) [(gn (iC [] 1 (jP (jJ 1)) (gx 0) iX (iH (gJ (g1 pD) [(gk 0)]))))])) (gn (gJ (gRg .lst true) [(gn (fC (.int 1))),(gn (gy kD (gk 0) (gn (fC (.int 1)))))])))) gX))
def iG:EvF:=evF 2 2 [] kB
def yJ:FS:=(gB (jx 1 (jH [(fC .non),(fC (.bl true)),(fC (.bl false)),(jg nC (gn (fC (.int 1)))),(fC (.int 0)),(fC (.int 1)),(fC (.str "")),(fC (.str "1")),(jG []),(jH []),(jG [(fC (.bl true))]),(jH [(fC (.int 1))]),(Ho 0 1),(jG [(fC .non)]),(jG [(jG [(fC (.int 1))])]),(gy Cg (gn (fC (.int 10))) (gn (fC (.int 29))))])) (gB (jf (gy gIx (gn (gy kD (gk 1) (gn (jH [(jG [(fC (.int 0))]),(jG [(fC (.int 1)),(fC (.int 2))])])))) (gn (gA gD [(gk 0),(gn (fC (.int 18)))])))) gX))
def pF:EvF:=evF 2 1 [1] yJ
def mM:FS:=(gB (jx 2 (gJ (g1 pT) [(gk 1)])) (gB (sIf (fT (gy gEq (gk 2) (gn (fC (.int 0))))) (gB (jf (gy gIx (gn (jH [(jG [(fC (.int 0))]),(jG [(fC (.int 1))]),(jH []),(fC .non),(jG [(jG [])]),(jG [(fC (.bl true))])])) (gn (gA gD [(gk 0),(gn (fC (.int 6)))])))) gX) gX) (gB (MW 3 4 [(gA gD [(gk 0),(gk 2)]),(gA gD [(gk 0),(gk 2)])]) (gB (jx 5 (jH [(fC (.int 0)),(gy kD (gk 2) (gn (fC (.int 1)))),(gy gSub (gn (jg nC (gk 2))) (gn (fC (.int 1)))),(fC (.bl true)),(fC .non),(fC (.str "1")),(jG [(fC (.int 1))]),(gy gIx (gk 1) (gk 4)),(jg nC (gn (gy gIx (gk 1) (gk 4)))),(jg nC (gn (gy gIx (gk 1) (gk 3)))),(gy Cg (gn (fC (.int 10))) (gn (fC (.int 29))))])) (gB (jx 5 (gy gIx (gk 5) (gn (gA gD [(gk 0),(gn (fC (.int 11)))])))) (gB (jx 6 (jH [(gy kD (gn (gy kD (gn (qr (gk 1) (gk 3))) (gn (jG [(jJ 5)])))) (gn (wj (gk 1) (gn (gy kD (gk 3) (gn (fC (.int 1)))))))),(gy kD (gn (gy kD (gn (qr (gk 1) (gk 3))) (gn (jG [(jJ 5)])))) (gn (wj (gk 1) (gk 3)))),(gJ (g1 wd) [(gk 1)]),(jG [(jJ 1)])])) (gB (jx 6 (gy kD (gk 6) (gn (jH [(gy kD (gn (qr (gk 1) (gk 3))) (gn (wj (gk 1) (gn (gy kD (gk 3) (gn (fC (.int 1)))))))),(gy kD (gk 1) (gn (jG [(gy kD (gk 2) (gn (fC (.int 1))))]))),(Mc (gk 1) (gn (jg nC (gn (fC (.int 1)))))),(gy kD (gk 1) (gn (qr (gk 1) (gn (fC (.int 1))))))])))) (gB (jf (gy gIx (gk 6) (gn (gy gIx (gn (jH [(fC (.int 0)),(fC (.int 0)),(fC (.int 0)),(fC (.int 1)),(fC (.int 2)),(fC (.int 3)),(fC (.int 4)),(fC (.int 5)),(fC (.int 6)),(fC (.int 7))])) (gn (gA gD [(gk 0),(gn (fC (.int 10)))])))))) gX))))))))
def iE:EvF:=evF 7 2 [2,3,4,5,6] mM
def jK(ev:EvF):FS:=(gB (sIf (fT (jg (pU [.tuple,.list]) (gk 1))) (gB (sIf (yQ (fT (gy gNe (gn (jg (pU [.tuple]) (gk 0))) (gn (jg (pU [.tuple]) (gk 1))))) (fT (gy gNe (gn (jg (pU [.list]) (gk 0))) (gn (jg (pU [.list]) (gk 1)))))) (gB (jf (fC (.bl false))) gX) gX) (gB (jf (zL (gy gEq (gn (gJ (g1 pT) [(gk 0)])) (gn (gJ (g1 pT) [(gk 1)]))) (gJ (g1 DL) [(gn (iC [] 2 (ql (gk 0) (gk 1)) (ly [(gx 0),(gx 1)]) iX (iH (gA ev [(gk 0),(gk 1)]))))]))) gX)) gX) (gB (jf (zL (gy gEq (gk 0) (gk 1)) (gy gEq (gn (jg (pU [.bool]) (gk 0))) (gn (jg (pU [.bool]) (gk 1)))))) gX))
def gW:Nat->EvF
 |0=>λ_=>none
 |m+1=>evF 2 2 [] (jK (gW m))
def yM:FS:=(gB (jf (gy gEq (gn (gy gIx (gk 0) (gn (gy gSub (gn (gJ (g1 pD) [(gk 1)])) (gn (fC (.int 1))))))) (gn (fIf (fT (gy (oM .Gt) (gk 1) (gn (fC (.int 0))))) (fC (.int 1)) (fC (.int 0)))))) gX)
def um:EvF:=evF 2 2 [] yM
def kP:FS:=(gB (sIf (lT (fT (gA iM [(gk 0),(gk 1)]))) (gB BP gX) gX) gX)
def iQ:EvF:=evF 2 2 [] kP
def rT:FS:=(gB (jf (gJ (g1 lr) [(gn (gJ (g1 vC) [(gn (iC [1] 1 (jP (jJ 0)) (gx 1) iX (iH (gA mB [(gk 0),(gk 1)]))))]))])) gX)
def nW:EvF:=evF 2 2 [] rT
def L5:FS:=(gB (HR (ly [(gx 2),(gx 3)]) (jJ 0)) (gB (oD (gA iQ [(gk 2),(gk 1)])) (gB (jf (jG [(jJ 2),(gJ (g1 lr) [(gn (gJ (g1 mT) [(gn (iC [1] 1 (jP (jJ 3)) (gx 1) iX (iH (gA nW [(gk 1),(gk 0)]))))]))])])) gX)))
def nX:EvF:=evF 4 2 [2,3] L5
def Hm:FS:=(gB (jx 1 (gJ (g1 wd) [(gk 0)])) (gB (sh (Cd 1 (jJ 0)) (ly [(gx 2),(gx 3)]) (gB (oX 1 (fIf (fT (gy (oM .Gt) (gk 3) (gn (fC (.int 0))))) (jJ 2) (jg nC (gk 2))) (gn (gy gSub (gn (gJ (g1 pD) [(gk 3)])) (gn (fC (.int 1)))))) gX)) (gB (jf (gJ (g1 lr) [(gk 1)])) gX)))
def uo:EvF:=evF 4 1 [1,2,3] Hm
def rV:FS:=(gB (oD (gA iQ [(gn (gJ (g1 pT) [(gk 0)])),(gk 1)])) (gB (jf (gJ (g1 lr) [(gn (iC [0] 1 (jP (gA uo [(gk 1)])) (gx 1) iX (iH (fIf (fT (gA um [(gk 0),(gk 1)])) (fC (.int 1)) (fC (.int 0))))))])) gX))
def iL:EvF:=evF 2 2 [] rV
def nO:FS:=(gB (jx 2 (iC [0] 1 (FQ (gn (fC (.int 1))) (gn (gy kD (gk 1) (gn (fC (.int 1)))))) (gx 1) (fT (gy gEq (gn (gA gD [(gk 0),(gn (fC (.int 2)))])) (gn (fC (.int 0))))) (iH (gy nD (gk 1) (gn (gy gIx (gn (jH [(fC (.int 1)),(jg nC (gn (fC (.int 1))))])) (gn (gA gD [(gk 0),(gn (fC (.int 2)))])))))))) (gB (sIf (fT (gy gEq (gk 2) (gn (jH [])))) (gB (jx 2 (jH [(gy nD (gn (gy kD (gn (fC (.int 1))) (gn (gA gD [(gk 0),(gk 1)])))) (gn (gy gIx (gn (jH [(fC (.int 1)),(jg nC (gn (fC (.int 1))))])) (gn (gA gD [(gk 0),(gn (fC (.int 2)))])))))])) gX) gX) (gB (jf (gJ (g1 lr) [(gk 2)])) gX)))
def jQ:EvF:=evF 3 2 [2] nO
def lS:FS:=(gB (jx 2 (iC [1] 1 (jP (jJ 0)) (gx 1) iX (iH (jG [(gJ (g1 pD) [(gn (gA ip [(gk 0),(gk 1)]))]),(gA ip [(gk 0),(gk 1)])])))) (gB (jf (gJ (g1 lr) [(gn (iC [] 2 (jP (gJ (g1 mT) [(gk 2)])) (ly [(gx 0),(gx 1)]) iX (iH (jJ 1))))])) gX))
def jd:EvF:=evF 3 2 [2] lS
def oN:FS:=(gB (sIf (fT (gy gEq (gk 1) (gn (fC (.int 0))))) (gB (jf (jG [(fC (.int 0)),(jG [])])) gX) gX) (gB (jx 2 (gy gIx (gn (jH [(fC (.int 3)),(fC (.int 5)),(fC (.int 12))])) (gn (gA gD [(gk 0),(gn (fC (.int 3)))])))) (gB (jx 3 Me) (gB (sh (sA (gn (gA gD [(gk 0),(gn (gy kD (gk 2) (gn (fC (.int 1)))))]))) (gx 4) (gB (vU 3 (fC (.bl true)) (gn (gA jQ [(gk 0),(gk 1)]))) gX)) (gB (jx 5 (gA jn [(gk 0),(gk 1)])) (gB (jx 6 (gy DJ (gn (gJ (g1 Ci) [(gk 3)])) (gn (gy gIx (gn (jH [(fC (.int 1)),(fC (.int 0))])) (gn (gA gD [(gk 0),(gn (fC (.int 2)))])))))) (gB (lX (fT (gy gNe (gk 6) (gn (jH [])))) (gB (jx 7 (gA jd [(gn (fPop 6)),(gk 5)])) (gB (sIf (fT (gy qW (gk 7) (gk 3))) (gB (vU 3 (fC (.bl true)) (gk 7)) (gB (oD (lK 6 (jJ 7))) gX)) gX) gX)) UJ) (gB (jf (jG [(jJ 1),(gJ (g1 lr) [(gn (qr (gn (gJ (g1 nB) [(gk 3)])) (gn (fC (.int 30)))))])])) gX))))))))
def kR:EvF:=evF 8 2 [2,3,4,5,6,7] oN
def we:FS:=(gB (jf (iC [0] 1 (sA (gn (gy Sg (gn (fC (.int 1))) (gk 0)))) (gx 1) iX (iH (gJ (g1 lr) [(gn (iC [1,0] 1 (sA (gk 0)) (gx 2) iX (iH (gy L0 (gn (gy Sf (gk 0) (gn (gy gSub (gn (gy gSub (gk 1) (gn (fC (.int 1))))) (gk 2))))) (gn (fC (.int 1)))))))])))) gX)
def nQ:EvF:=evF 1 1 [] we
def kK:XS:=(zIf (lT (fT (gA iM [(gk 0),(gk 1)]))) (EU "NoTurning" (fC (.str "that is no turning of as many names"))) zNo)
def kL:List D->Option Str:=xcF 2 2 kK
def Bv:XS:=(JH (HR (ly [(gx 2),(gx 3)]) (jJ 0)) (ox kL [(gk 2),(gk 1)]))
def xY:List D->Option Str:=xcF 4 2 Bv
def mf:XS:=(ox kL [(gn (gJ (g1 pT) [(gk 0)])),(gk 1)])
def la:List D->Option Str:=xcF 2 2 mf
def yK:FS:=(gB (jf (jG [(gy gIx (gk 0) (gn (fC (.int 0)))),(gJ (g1 lr) [(gn (gJ (g1 mT) [(gn (iC [1] 1 (jP (gy gIx (gk 0) (gn (fC (.int 1))))) (gx 1) iX (iH (gA jd [(gk 1),(gk 0)]))))]))])])) gX)
def pG:EvF:=evF 2 2 [] yK
def pR:FS:=(gB (jx 2 (gJ (g1 Cj) [(gn (iC [] 2 (DE (jJ 0) (jJ 1)) (ly [(gx 0),(gx 1)]) iX (iH (jG [(gJ (g1 pD) [(gk 1)]),(gy gIx (gn (jH [(gy gSub (gn (fC (.int 1))) (gk 0)),(jJ 0)])) (gn (gJ (g1 zK) [(gn (gy (oM .Gt) (gk 1) (gn (fC (.int 0)))))])))]))))])) (gB (jf (gJ (g1 lr) [(gn (iC [2] 1 (jP (gJ (g1 nB) [(gk 2)])) (gx 1) iX (iH (gy DK (gk 0) (gk 1)))))])) gX))
def lp:EvF:=evF 3 2 [2] pR
def CT:List (Str×Nat):=[("NoName",37),("NoBit",49),("NoTurning",61),("NoAnswer",73),("NoNumber",85),("NoClause",97),("NoPutting",109),("TooMany",121),("NoRiddle",133),("BadNote",145)]
def oj:List (Str×Nat):=[("NoTurning",61)]
def hW(ct a:List (Str×Nat)):FS:=(gB (sIf (fT (gy gIs (gk 1) (gn (fC .non)))) (gB (jf (fC .non)) gX) gX) (gB (jx 3 (jH [(jg (wF (a.map (·.2)) (ctD ct "NoName")) (gk 1)),(jg (wF (a.map (·.2)) (ctD ct "NoBit")) (gk 1)),(jg (wF (a.map (·.2)) (ctD ct "NoTurning")) (gk 1))])) (gB (jx 3 (gy kD (gk 3) (gn (jH [(jg (wF (a.map (·.2)) (ctD ct "NoAnswer")) (gk 1)),(jg (wF (a.map (·.2)) (ctD ct "NoNumber")) (gk 1)),(jg (wF (a.map (·.2)) (ctD ct "NoClause")) (gk 1))])))) (gB (jx 3 (gy kD (gk 3) (gn (jH [(jg (wF (a.map (·.2)) (ctD ct "NoPutting")) (gk 1)),(jg (wF (a.map (·.2)) (ctD ct "TooMany")) (gk 1)),(jg (wF (a.map (·.2)) (ctD ct "NoRiddle")) (gk 1))])))) (gB (oD (lK 3 (jg (wF (a.map (·.2)) (ctD ct "BadNote")) (gk 1)))) (gB (sIf (yQ (lT (fT (jg (Si (a.map (·.2))) (gk 1)))) (fT (gy gNe (gn (gJ (g1 Se) [(gn (iC [] 1 (yG (gk 3)) (gx 0) iX (iH (gJ (g1 zK) [(gk 0)]))))])) (gn (fC (.int 1)))))) (gB (jf (fC (.str "none of these"))) gX) gX) (gB (jx 4 (jH [(fC (.str "name")),(fC (.str "bit")),(fC (.str "turning")),(fC (.str "answer")),(fC (.str "number")),(fC (.str "clause")),(fC (.str "putting")),(fC (.str "many")),(fC (.str "riddle")),(fC (.str "note"))])) (gB (jf (gy gIx (gk 4) (gn (Oi 3)))) gX))))))))
def yL:FS:=(gB (sIf (yQ (fT (gy gNe (gn (gA nX [(gn (jG [(fC (.int 0)),(jG [])])),(gn (jG []))])) (gn (jG [(fC (.int 0)),(jG [])])))) (yQ (fT (gy gNe (gn (gA iL [(gn (jG [])),(gn (jG []))])) (gn (jG [])))) (fT (gy gNe (gn (gA iL [(gn (jG [(fC (.int 1)),(fC (.int 0))])),(gn (jG [(jg nC (gn (fC (.int 2)))),(fC (.int 1))]))])) (gn (jG [(fC (.int 0)),(fC (.int 0))])))))) (gB (jf (fC (.bl false))) gX) gX) (gB (sh (sA (gn (gJ (g2 LY) [(gn (fC (.int 1))),(gn (gJ (g2 LX) [(gn (gJ (g1 pT) [(gk 0)])),(gn (fC (.int 6)))]))]))) (gx 1) (gB (jx 2 (gA kQ [(gk 0),(gk 1)])) (gB (jx 3 (gA kR [(gk 2),(gn (gA gD [(gk 2),(gn (fC (.int 6)))]))])) (gB (jx 4 (gA jn [(gk 2),(gn (gy gIx (gk 3) (gn (fC (.int 0)))))])) (gB (jx 5 (gA nQ [(gn (gy gIx (gk 3) (gn (fC (.int 0)))))])) (gB (sh (sA (gn (fC (.int 2)))) (gx 6) (gB (sIf (lT (fT (gA (gW RD) [(gn (gA nX [(gk 3),(gk 4)])),(gn (gA pG [(gk 3),(gk 4)]))]))) (gB (jf (fC (.bl false))) gX) gX) gX)) (gB (sh (jP (jJ 5)) (gx 7) (gB (sIf (lT (fT (gA (gW RD) [(gn (gA iL [(gk 7),(gk 4)])),(gn (gA lp [(gk 7),(gk 4)]))]))) (gB (jf (fC (.bl false))) gX) gX) gX)) (gB (jx 7 (gy gIx (gk 5) (gn (gA gD [(gk 2),(gn (gJ (g1 pT) [(gk 5)]))])))) (gB (jx 8 (gy kD (gn (jH [(gA pF [(gk 2)])])) (gn (iC [2,4] 1 (sA (gn (fC (.int 3)))) (gx 2) iX (iH (gA iE [(gk 0),(gk 1)])))))) (gB (sh (jP (gy kD (gk 8) (gn (jH [(gA jn [(gk 2),(gn (gA gD [(gk 2),(gn (fC (.int 6)))]))])])))) (gx 9) (gB (jx 10 (gy gIx (gn (jH [(fC .non),(fC (.str "turning"))])) (gn (gJ (g1 zK) [(gn (DO (gA iG [(gn (gy gIx (gk 3) (gn (fC (.int 0))))),(gk 9)])))])))) (gB (sIf (fT (gy gNe (gn (vD [3,9] (gA nX [(gk 0),(gk 1)]) (ox xY [(gk 0),(gk 1)]) 5 1 (hW CT oj) (λz=>oj.lookup z))) (gk 10))) (gB (jf (fC (.bl false))) gX) gX) (gB (sIf (fT (gy gNe (gn (vD [7,9] (gA iL [(gk 0),(gk 1)]) (ox la [(gk 0),(gk 1)]) 5 1 (hW CT oj) (λz=>oj.lookup z))) (gk 10))) (gB (jf (fC (.bl false))) gX) gX) gX)))) gX)))))))))) (gB (jf (fC (.bl true))) gX)))
def rW:EvF:=evF 11 1 [1,2,3,4,5,6,7,8,9,10] yL
end PV
namespace K22
open PySem PySem.Spec PyProof.Rows L2 PX PV
def top(i:Nat):Stmt:=PySem.Challenge.pw_twinriddles_k22_riddles_and_answers_led.main.body.getD i (.Pass ⟨0,0,0,0⟩)
abbrev TB22:List (Addr×Str):=[(328,"law.<locals>.<lambda>")]
section
variable {Z:ZZ}{k:Nat}
abbrev oW:Stmt:=top 13
def C8:FnScope ["thing"] ["thing"] (gr oW):=scM
abbrev sv(Z:ZZ)(k:Nat):Prop:=Oz Z k "is_whole" ["thing"] mC
def D2:BdA "is_whole" oW ["thing"]:=λ_ _ _ _ _ _=>us1 λ_=>us0 rfl
def Dr(a:Fz Z.K Z.mg "is_whole" oW)(T:Tx Z.mg):sv Z (k+1):=by
 have S:=C8;refine ozB (asg:=[]) (fs:=qp) a S D2 λf c A b s H E L d e g i h j l=>?_;exact(s1 (sR (HG (xI T rfl xV) (xBo (PU (xI T rfl xV))))) s0)
abbrev nM:Stmt:=top 14
def BN:FnScope ["thing","least","most"] ["thing","least","most"] (gr nM):=scM
abbrev vZ(Z:ZZ)(k:Nat):Prop:=Oz Z k "is_number" ["thing","least","most"] lL
def Cy:BdA "is_number" nM ["thing","least","most"]:=λ_ _ _ _ _ _=>us1 λ_=>us1 λ_=>us1 λ_=>us0 rfl
def BY(a:Fz Z.K Z.mg "is_number" nM)(T:Tx Z.mg)(d:sv Z k):vZ Z (k+1):=by
 have S:=BN;refine ozB (asg:=[]) (fs:=mV) a S Cy λf e A b s H E L g c h j i l m=>?_;exact(s1 (sR (HG (xU d c (xA xV xA0)) (xBo (xCh xV xV xV)))) s0)
abbrev qL:Stmt:=top 15
def Fi:FnScope ["names","thing"] ["names","thing"] (gr qL):=scM
abbrev Am(Z:ZZ)(k:Nat):Prop:=Oz Z k "is_name" ["names","thing"] pH
def Gh:BdA "is_name" qL ["names","thing"]:=λ_ _ _ _ _ _=>us1 λ_=>us1 λ_=>us0 rfl
def FA(a:Fz Z.K Z.mg "is_name" qL)(T:Tx Z.mg)(b:vZ Z k):Am Z (k+1):=by
 have S:=Fi;refine ozB (asg:=[]) (fs:=sD) a S Gh λf e A c s H E L g d h j i l m=>?_;exact(s1 (sR (xU b d (xA xV (xA (xO x3) (xA xV xA0))))) s0)
abbrev qK:Stmt:=top 16
def Fh:FnScope ["names","thing"] ["names","thing"] (gr qK):=scM
abbrev Al(Z:ZZ)(k:Nat):Prop:=Oz Z k "is_sign" ["names","thing"] lY
def Gg:BdA "is_sign" qK ["names","thing"]:=λ_ _ _ _ _ _=>us1 λ_=>us1 λ_=>us0 rfl
def Fy(a:Fz Z.K Z.mg "is_sign" qK)(T:Tx Z.mg)(e:sv Z k)(b:Am Z k):Al Z (k+1):=by
 have S:=Fh;refine ozB (asg:=[]) (fs:=pE) a S Gg λf g A c s H E L h d i l j m n=>?_;exact(s1 (sR (HG (xU e d (xA xV xA0)) (xBo (xU b d (xA xV (xA (xO (xB T rfl ⟨lz⟩ (xA xV xA0))) xA0)))))) s0)
abbrev wM:Stmt:=top 17
def Ki:FnScope ["answer","sign"] ["answer","sign"] (gr wM):=scM
abbrev BZ(Z:ZZ)(k:Nat):Prop:=Oz Z k "is_so" ["answer","sign"] um
def Mx:BdA "is_so" wM ["answer","sign"]:=λ_ _ _ _ _ _=>us1 λ_=>us1 λ_=>us0 rfl
def Ll(a:Fz Z.K Z.mg "is_so" wM)(T:Tx Z.mg):BZ Z (k+1):=by
 have S:=Ki;refine ozB (asg:=[]) (fs:=yM) a S Mx λf d A b s H E L e g c i h j l=>?_;exact(s1 (sR (CH ⟨(nU c)⟩ (xO (xIx xV (xO (iU ⟨mm⟩ (xO (xB T rfl ⟨lz⟩ (xA xV xA0))) (xO x3))))) (xO (xIf (tCmp ⟨(pd (.inr (.inr (.inl rfl))) c)⟩ xV (xO x3)) x3 x3)))) s0)
abbrev mR:Stmt:=top 19
def zw:FnScope ["names","thing"] ["names","thing"] (gr mR):=scM
abbrev ph(Z:ZZ)(k:Nat):Prop:=Oz Z k "is_turning" ["names","thing"] iM
def zS:BdA "is_turning" mR ["names","thing"]:=λ_ _ _ _ _ _=>us1 λ_=>us1 λ_=>us0 rfl
def zF(a:Fz Z.K Z.mg "is_turning" mR)(T:Tx Z.mg)(b:Al Z k):ph Z (k+1):=by
 have S:=zw;refine ozB (asg:=[]) (fs:=kr) a S zS λf h A d s H E L i g e l j m c=>?_;exact(s1 (sI (tW (wOr (tNot (wt (xI T rfl xV))) (JP (tCmp ⟨(nS e)⟩ (xO (xB T rfl ⟨ku⟩ (xA xV xA0))) xV)))) (s1 (sR x2) s0) s0) (s1 (sI (tNot (wt (xB T rfl ⟨(vH rfl)⟩ (xA (xO (by exact xC (N':=["names","sign"]) (cOk S) (by decide+kernel) (iS xW) λ_ _ _ _ _ _ c=>⟨(gN c),f0,λ_=>bE (xU b g (xA xV (xA xV xA0)))⟩)) xA0)))) (s1 (sR x2) s0) s0) (s1 (sR (CH ⟨(nU e)⟩ (xO (by exact xLS (N':=["sign"]) T (cOk S) (by decide+kernel) (iS xW) λ_ _ _ _ _ _ c=>⟨(gN c),f0,(xB T rfl ⟨lz⟩ (xA xV xA0))⟩)) xV)) s0)))
abbrev ki:Stmt:=top 20
def oB:FnScope ["names","thing"] ["names","thing"] (gr ki):=scM
abbrev kj(Z:ZZ)(k:Nat):Prop:=Oz Z k "check_turning" ["names","thing"] iQ
def oQ:BdA "check_turning" ki ["names","thing"]:=λ_ _ _ _ _ _=>us1 λ_=>us1 λ_=>us0 rfl
abbrev mD(Z:ZZ)(k:Nat):Prop:=Oy Z k "check_turning" ["names","thing"] kL
def va{CR:Nat}(a:Fz Z.K Z.mg "check_turning" ki)(T:Tx Z.mg)(c:ClsK Z.K Z.mg CT oj CR)(e:ph Z k):mD Z (k+1):=by
 have S:=oB;have m:= @mX;refine oyB (xs:=kK) a S oQ λf g A b s H E d h j i l=>?_;exact(Bu (zI (tNot (wt (xU e d (xA xV (xA xV xA0))))) (Bu (zR mX (c.x "NoTurning") x4))))
def vA(a:Fz Z.K Z.mg "check_turning" ki)(T:Tx Z.mg)(d:ph Z k):kj Z (k+1):=by
 have S:=oB;refine ozB (asg:=[]) (fs:=kP) a S oQ λf e A b s H E L g c h j i l m=>?_;exact(s1 (sI (tNot (wt (xU d c (xA xV (xA xV xA0))))) (s1 sX s0) s0) s0)
abbrev oS:Stmt:=top 21
def C4:FnScope ["turning","sign"] ["turning","sign"] (gr oS):=scM
abbrev yy(Z:ZZ)(k:Nat):Prop:=Oz Z k "led_sign" ["turning","sign"] mB
def DY:BdA "led_sign" oS ["turning","sign"]:=λ_ _ _ _ _ _=>us1 λ_=>us1 λ_=>us0 rfl
def Dm(a:Fz Z.K Z.mg "led_sign" oS)(T:Tx Z.mg):yy Z (k+1):=by
 have S:=C4;refine ozB (asg:=[]) (fs:=qm) a S DY λf d A b s H E L e g c i h j l=>?_;exact(s1 (sR (xIf (tCmp ⟨(pd (.inr (.inr (.inl rfl))) c)⟩ xV (xO x3)) (xIx xV (xO (iU ⟨mm⟩ xV (xO x3)))) (vb (xO (xIx xV (xO (iU ⟨mm⟩ (xO (vb xV)) (xO x3)))))))) s0)
abbrev mP:Stmt:=top 22
def zu:FnScope ["clause","turning"] ["clause","turning"] (gr mP):=scM
abbrev pe(Z:ZZ)(k:Nat):Prop:=Oz Z k "led_clause" ["clause","turning"] nW
def zP:BdA "led_clause" mP ["clause","turning"]:=λ_ _ _ _ _ _=>us1 λ_=>us1 λ_=>us0 rfl
def zA(a:Fz Z.K Z.mg "led_clause" mP)(T:Tx Z.mg)(b:yy Z k):pe Z (k+1):=by
 have S:=zu;refine ozB (asg:=[]) (fs:=rT) a S zP λf g A c s H E L h e i l j m d=>?_;exact(s1 (sR (xT T rfl ⟨jo⟩ (xA (xO (xSA T (xA (xO (by exact xC (N':=["turning","sign"]) (cOk S) (by decide+kernel) (iS xW) λ_ _ _ _ _ _ d=>⟨(gN d),f0,λ_=>bE (xU b e (xA xV (xA xV xA0)))⟩)) xA0))) xA0))) s0)
abbrev C9:Stmt:=top 23
def Kh:FnScope ["riddle","turning","names","clauses"] ["riddle","turning"] (gr C9):=scM
abbrev Pf(Z:ZZ)(k:Nat):Prop:=Oz Z k "led" ["riddle","turning"] nX
def Mw:BdA "led" C9 ["riddle","turning"]:=λ_ _ _ _ _ _=>us1 λ_=>us1 λ_=>us0 rfl
abbrev ON(Z:ZZ)(k:Nat):Prop:=Oy Z k "led" ["riddle","turning"] xY
def PQ{CR:Nat}(a:Fz Z.K Z.mg "led" C9)(T:Tx Z.mg)(h:ClsK Z.K Z.mg CT oj CR)(m:kj Z k)(b:pe Z k)(g:mD Z k):ON Z (k+1):=by
 have S:=Kh;have p:= @mX;refine oyB (xs:=Bv) a S Mw λf j A c s H E e l o n d=>?_;exact(zN (A:=λi=>i<40) (sT xW (gT (gN d) (gN d))) (Bu (zE (zC mX g e (xA xV (xA xV xA0))))))
def RS(a:Fz Z.K Z.mg "led" C9)(T:Tx Z.mg)(g:kj Z k)(b:pe Z k):Pf Z (k+1):=by
 have S:=Kh;refine ozB (asg:=[2,3]) (fs:=L5) a S Mw λf i A d s H E L j e l m h n c=>?_;exact(s1 (sT xW (gT (gN c) (gN c))) (s1 (sE (xU g e (xA xV (xA xV xA0)))) (s1 (sR (kF (xL xW (xL (xT T rfl ⟨jo⟩ (xA (xO (xB T rfl ⟨(mW h)⟩ (xA (xO (by exact xC (N':=["turning","clause"]) (cOk S) (by decide+kernel) (iS xW) λ_ _ _ _ _ _ c=>⟨(gN c),f0,λ_=>bE (xU b e (xA xV (xA xV xA0)))⟩)) xA0))) xA0)) xL0)))) s0)))
abbrev BO:Stmt:=top 25
def MV:FnScope ["turning","whence","name","sign"] ["turning"] (gr BO):=scM
abbrev FE(Z:ZZ)(k:Nat):Prop:=Oz Z k "back" ["turning"] uo
def OA:BdA "back" BO ["turning"]:=λ_ _ _ _ _ _=>us1 λ_=>us0 rfl
def NS(a:Fz Z.K Z.mg "back" BO)(T:Tx Z.mg):FE Z (k+1):=by
 have S:=MV;refine ozB (asg:=[1,2,3]) (fs:=Hm) a S OA λf e A c s H E L g h d j i l b=>?_;exact(s1 (sS b (xT T rfl ⟨sM⟩ (xA xV xA0))) (s1 (sF (iE1 T xW) (gT (gN b) (gN b)) (s1 (sIx xV (xIf (tCmp ⟨(pd (.inr (.inr (.inl rfl))) d)⟩ xV (xO x3)) xW (vb xV)) (xO (iU ⟨mm⟩ (xO (xB T rfl ⟨lz⟩ (xA xV xA0))) (xO x3)))) s0)) (s1 (sR (xT T rfl ⟨jo⟩ (xA xV xA0))) s0)))
abbrev lG:Stmt:=top 24
def rM:FnScope ["answer","turning"] ["answer","turning"] (gr lG):=scM
abbrev tY(Z:ZZ)(k:Nat):Prop:=Oz Z k "led_answer" ["answer","turning"] iL
def rZ:BdA "led_answer" lG ["answer","turning"]:=λ_ _ _ _ _ _=>us1 λ_=>us1 λ_=>us0 rfl
abbrev tH(Z:ZZ)(k:Nat):Prop:=Oy Z k "led_answer" ["answer","turning"] la
def zr{CR:Nat}(a:Fz Z.K Z.mg "led_answer" lG)(T:Tx Z.mg)(h:ClsK Z.K Z.mg CT oj CR)(l:kj Z k)(c:FE Z k)(b:BZ Z k)(g:mD Z k):tH Z (k+1):=by
 have S:=rM;have p:= @mX;refine oyB (xs:=mf) a S rZ λf i A d s H E e j n m o=>?_;exact(Bu (zE (zC mX g e (xA (xO (xB T rfl ⟨ku⟩ (xA xV xA0))) (xA xV xA0)))))
def zB(a:Fz Z.K Z.mg "led_answer" lG)(T:Tx Z.mg)(h:kj Z k)(c:FE Z k)(b:BZ Z k):tY Z (k+1):=by
 have S:=rM;refine ozB (asg:=[]) (fs:=rV) a S rZ λf i A e s H E L j d l n m o g=>?_;exact(s1 (sE (xU h d (xA (xO (xB T rfl ⟨ku⟩ (xA xV xA0))) (xA xV xA0)))) (s1 (sR (xT T rfl ⟨jo⟩ (xA (xO (by exact xC (N':=["answer","sign"]) (cOk S) (by decide+kernel) (iS (xU c d (xA xV xA0))) λ_ _ _ _ _ _ g=>⟨(gN g),f0,λ_=>bE (xIf (wt (xU b d (xA xV (xA xV xA0)))) x3 x3)⟩)) xA0))) s0))
abbrev ml:Stmt:=top 27
def yk:FnScope ["_law_script","_law_k"] ["_law_script","_law_k"] (gr ml):=scM
abbrev rP(Z:ZZ)(k:Nat):Prop:=Oz Z k "_law_cell_at" ["_law_script","_law_k"] kI
def zf:BdA "_law_cell_at" ml ["_law_script","_law_k"]:=λ_ _ _ _ _ _=>us1 λ_=>us1 λ_=>us0 rfl
def yx(a:Fz Z.K Z.mg "_law_cell_at" ml)(T:Tx Z.mg):rP Z (k+1):=by
 have S:=yk;refine ozB (asg:=[]) (fs:=lJ) a S zf λf d A b s H E L e g c i h j l=>?_;exact(s1 (sI (tCmp ⟨(pd (.inl rfl) c)⟩ xV (xO (xB T rfl ⟨ku⟩ (xA xV xA0)))) (s1 (sR (xIx xV xV)) s0) s0) (s1 (sR x3) s0))
abbrev nK:Stmt:=top 28
def BM:FnScope ["_law_script","_law_k","_law_cell"] ["_law_script","_law_k"] (gr nK):=scM
abbrev vY(Z:ZZ)(k:Nat):Prop:=Oz Z k "_law_state" ["_law_script","_law_k"] kQ
def Cw:BdA "_law_state" nK ["_law_script","_law_k"]:=λ_ _ _ _ _ _=>us1 λ_=>us1 λ_=>us0 rfl
def BX(a:Fz Z.K Z.mg "_law_state" nK)(T:Tx Z.mg)(b:rP Z k):vY Z (k+1):=by
 have S:=BM;refine ozB (asg:=[2]) (fs:=mU) a S Cw λf h A c s H E L i d e l j m g=>?_;exact(s1 (sS g (xU b d (xA xV (xA xV xA0)))) (s1 (sI (tCmp ⟨(pd (.inr (.inr (.inr rfl))) e)⟩ xV (xO (iU ⟨wR⟩ (xO x3) (xO x3)))) (s1 (sR (lC (xL (iU ⟨mm⟩ xV (xO (iU ⟨wR⟩ (xO x3) (xO x3)))) (xL x2 xL0)))) s0) s0) (s1 (sR (lC (xL (iU ⟨qQ⟩ xV (xO x3)) (xL x2 xL0)))) s0)))
abbrev oU:Stmt:=top 29
def C5:FnScope ["_law_state_here","_law_many","_law_found","_law_mixed"] ["_law_state_here","_law_many"] (gr oU):=scM
abbrev lq(Z:ZZ)(k:Nat):Prop:=Oz Z k "_law_take" ["_law_state_here","_law_many"] gD
def DZ:BdA "_law_take" oU ["_law_state_here","_law_many"]:=λ_ _ _ _ _ _=>us1 λ_=>us1 λ_=>us0 rfl
def Dp(a:Fz Z.K Z.mg "_law_take" oU)(T:Tx Z.mg):lq Z (k+1):=by
 have S:=C5;refine ozB (asg:=[2,3]) (fs:=nN) a S DZ λf e A c s H E L d g i l j m b=>?_;exact(s1 (sI (wt (xIx xV (xO x3))) (s1 (sS b (iU ⟨qQ⟩ (xO (xIx xV (xO x3))) xV)) (s1 (sIx xV (iU ⟨G5⟩ (xO (xIx xV (xO x3))) xV) (xO x3)) (s1 (sRV (λh=>absurd (d _ h) (by decide))) s0))) s0) (s1 (sIx xV (iU ⟨qQ⟩ (xO (iU ⟨iF⟩ (xO (iU ⟨mn⟩ (xO (xIx xV (xO x3))) (xO x3))) (xO x3))) (xO x3)) (xO x3)) (s1 (sS b (iU ⟨qQ⟩ (xO (iU ⟨iF⟩ (xO (iU ⟨iF⟩ (xO (iU ⟨mn⟩ (xO (xIx xV (xO x3))) (xO (xIx xV (xO x3))))) (xO (iU ⟨mn⟩ (xO x3) (xO (xIx xV (xO x3))))))) (xO x3))) (xO x3))) (s1 (sS b (iU ⟨qQ⟩ (xO (iU ⟨iF⟩ (xO (iU ⟨mn⟩ xV xV)) (xO (iU ⟨mn⟩ (xO x3) xV)))) (xO x3))) (s1 (sR (iU ⟨qQ⟩ (xO (iU ⟨G5⟩ xV (xO x3))) xV)) s0)))))
abbrev mh:Stmt:=top 30
def yi:FnScope ["_law_state_here","_law_names","_law_rest","_law_found","_law_turn"] ["_law_state_here","_law_names"] (gr mh):=scM
abbrev nV(Z:ZZ)(k:Nat):Prop:=Oz Z k "_law_turning" ["_law_state_here","_law_names"] jn
def zd:BdA "_law_turning" mh ["_law_state_here","_law_names"]:=λ_ _ _ _ _ _=>us1 λ_=>us1 λ_=>us0 rfl
def yv(a:Fz Z.K Z.mg "_law_turning" mh)(T:Tx Z.mg)(d:lq Z k):nV Z (k+1):=by
 have S:=yi;refine ozB (asg:=[2,3,4]) (fs:=qo) a S zd λf g A c s H E L h e i l j m b=>?_;exact(s1 (sS b (Te T rfl (xA (xO x3) (xA (xO (iU ⟨iF⟩ xV (xO x3))) xA0)))) (s1 (sS b (lC xL0)) (s1 (sF (iR1 T (xA xV xA0)) (gN b) (s1 (sE (PY xV (iU ⟨mn⟩ (xO (U3 xV (xO (xU d e (xA xV (xA (xO (xB T rfl ⟨ku⟩ (xA xV xA0))) xA0)))))) (xO (xIx (xO (lC (xL x3 (xL (vb (xO x3)) xL0)))) (xO (xU d e (xA xV (xA (xO x3) xA0))))))))) s0)) (s1 (sR (xT T rfl ⟨jo⟩ (xA xV xA0))) s0))))
abbrev mQ:Stmt:=top 31
def zv:FnScope ["_law_state_here","_law_names","_law_signs"] ["_law_state_here","_law_names"] (gr mQ):=scM
abbrev uc(Z:ZZ)(k:Nat):Prop:=Oz Z k "_law_clause" ["_law_state_here","_law_names"] jQ
def zQ:BdA "_law_clause" mQ ["_law_state_here","_law_names"]:=λ_ _ _ _ _ _=>us1 λ_=>us1 λ_=>us0 rfl
def zD(a:Fz Z.K Z.mg "_law_clause" mQ)(T:Tx Z.mg)(b:lq Z k):uc Z (k+1):=by
 have S:=zv;refine ozB (asg:=[2]) (fs:=nO) a S zQ λf h A e s H E L i c g l j m d=>?_;exact(s1 (sC (N':=["_law_state_here","_law_name"]) d (cOk S) (by decide+kernel) (iR2 T (xA (xO x3) (xA (xO (iU ⟨iF⟩ xV (xO x3))) xA0))) λ_ _ _ _ _ _ d=>⟨(gN d),(f1 (tCmp ⟨(nU g)⟩ (xO (xU b c (xA xV (xA (xO x3) xA0)))) (xO x3))),λ_=>bE (iU ⟨mn⟩ xV (xO (xIx (xO (lC (xL x3 (xL (vb (xO x3)) xL0)))) (xO (xU b c (xA xV (xA (xO x3) xA0)))))))⟩) (s1 (sI (tCmp ⟨(nU g)⟩ xV (xO (lC xL0))) (s1 (sS d (lC (xL (iU ⟨mn⟩ (xO (iU ⟨iF⟩ (xO x3) (xO (xU b c (xA xV (xA xV xA0)))))) (xO (xIx (xO (lC (xL x3 (xL (vb (xO x3)) xL0)))) (xO (xU b c (xA xV (xA (xO x3) xA0))))))) xL0))) s0) s0) (s1 (sR (xT T rfl ⟨jo⟩ (xA xV xA0))) s0)))
abbrev lH:Stmt:=top 32
def wu:FnScope ["_law_turning_here","_law_sign"] ["_law_turning_here","_law_sign"] (gr lH):=scM
abbrev qh(Z:ZZ)(k:Nat):Prop:=Oz Z k "_law_led_sign" ["_law_turning_here","_law_sign"] ip
def wH:BdA "_law_led_sign" lH ["_law_turning_here","_law_sign"]:=λ_ _ _ _ _ _=>us1 λ_=>us1 λ_=>us0 rfl
def wA(a:Fz Z.K Z.mg "_law_led_sign" lH)(T:Tx Z.mg):qh Z (k+1):=by
 have S:=wu;refine ozB (asg:=[]) (fs:=kW) a S wH λf d A b s H E L e g c i h j l=>?_;exact(s1 (sR (iU ⟨mn⟩ (xO (xIx xV (xO (iU ⟨mm⟩ (xO (xB T rfl ⟨lz⟩ (xA xV xA0))) (xO x3))))) (xO (xIx (xO (lC (xL x3 (xL (vb (xO x3)) xL0)))) (xO (xT T rfl ⟨rh⟩ (xA (xO (CH ⟨(pd (.inl rfl) c)⟩ xV (xO x3))) xA0))))))) s0)
abbrev kM:Stmt:=top 33
def tQ:FnScope ["_law_clause_here","_law_turning_here","_law_row"] ["_law_clause_here","_law_turning_here"] (gr kM):=scM
abbrev lV(Z:ZZ)(k:Nat):Prop:=Oz Z k "_law_led_clause" ["_law_clause_here","_law_turning_here"] jd
def uz:BdA "_law_led_clause" kM ["_law_clause_here","_law_turning_here"]:=λ_ _ _ _ _ _=>us1 λ_=>us1 λ_=>us0 rfl
def tV(a:Fz Z.K Z.mg "_law_led_clause" kM)(T:Tx Z.mg)(b:qh Z k):lV Z (k+1):=by
 have S:=tQ;refine ozB (asg:=[2]) (fs:=lS) a S uz λf h A d s H E L i e j l g m c=>?_;exact(s1 (sC (N':=["_law_turning_here","_law_sign"]) c (cOk S) (by decide+kernel) (iS xW) λ_ _ _ _ _ _ c=>⟨(gN c),f0,λ_=>bE (kF (xL (xB T rfl ⟨lz⟩ (xA (xO (xU b e (xA xV (xA xV xA0)))) xA0)) (xL (xU b e (xA xV (xA xV xA0))) xL0)))⟩) (s1 (sR (xT T rfl ⟨jo⟩ (xA (xO (by exact xC (N':=["_law_name","_law_sign"]) (cOk S) (by decide+kernel) (iS (xB T rfl ⟨(mW g)⟩ (xA xV xA0))) λ_ _ _ _ _ _ c=>⟨(gT (gN c) (gN c)),f0,λ_=>bE xW⟩)) xA0))) s0))
abbrev qJ:Stmt:=top 34
def Fg:FnScope ["_law_riddle","_law_turning_here"] ["_law_riddle","_law_turning_here"] (gr qJ):=scM
abbrev Ak(Z:ZZ)(k:Nat):Prop:=Oz Z k "_law_led" ["_law_riddle","_law_turning_here"] pG
def Gf:BdA "_law_led" qJ ["_law_riddle","_law_turning_here"]:=λ_ _ _ _ _ _=>us1 λ_=>us1 λ_=>us0 rfl
def Fx(a:Fz Z.K Z.mg "_law_led" qJ)(T:Tx Z.mg)(e:lV Z k):Ak Z (k+1):=by
 have S:=Fg;refine ozB (asg:=[]) (fs:=yK) a S Gf λf h A b s H E L i d j l g m c=>?_;exact(s1 (sR (kF (xL (xIx xV (xO x3)) (xL (xT T rfl ⟨jo⟩ (xA (xO (xB T rfl ⟨(mW g)⟩ (xA (xO (by exact xC (N':=["_law_turning_here","_law_clause_here"]) (cOk S) (by decide+kernel) (iS (xIx xV (xO x3))) λ_ _ _ _ _ _ c=>⟨(gN c),f0,λ_=>bE (xU e d (xA xV (xA xV xA0)))⟩)) xA0))) xA0)) xL0)))) s0)
abbrev ll:Stmt:=top 35
def vo:FnScope ["_law_state_here","_law_names","_law_most","_law_some","_law_turn","_law_turning_here","_law_fresh","_law_clause_here"] ["_law_state_here","_law_names"] (gr ll):=scM
abbrev pQ(Z:ZZ)(k:Nat):Prop:=Oz Z k "_law_riddle_of" ["_law_state_here","_law_names"] kR
def vI:BdA "_law_riddle_of" ll ["_law_state_here","_law_names"]:=λ_ _ _ _ _ _=>us1 λ_=>us1 λ_=>us0 rfl
def vz(a:Fz Z.K Z.mg "_law_riddle_of" ll)(T:Tx Z.mg)(e:lq Z k)(b:uc Z k)(m:nV Z k)(l:lV Z k):pQ Z (k+1):=by
 have S:=vo;refine ozB (asg:=[2,3,4,5,6,7]) (fs:=oN) a S vI λf n A g s H E L o c h j i p d=>?_;exact(s1 (sI (tCmp ⟨(nU h)⟩ xV (xO x3)) (s1 (sR (kF (xL x3 (xL (kF xL0) xL0)))) s0) s0) (s1 (sS d (xIx (xO (lC (xL x3 (xL x3 (xL x3 xL0))))) (xO (xU e c (xA xV (xA (xO x3) xA0)))))) (s1 (sS d x7) (s1 (sF (iR1 T (xA (xO (xU e c (xA xV (xA (xO (iU ⟨iF⟩ xV (xO x3))) xA0)))) xA0)) (gN d) (s1 (sDP j xV x2 (xO (xU b c (xA xV (xA xV xA0))))) s0)) (s1 (sS d (xU m c (xA xV (xA xV xA0)))) (s1 (sS d (iU ⟨Lh⟩ (xO (xT T rfl ⟨(F9 rfl)⟩ (xA xV xA0))) (xO (xIx (xO (lC (xL x3 (xL x3 xL0)))) (xO (xU e c (xA xV (xA (xO x3) xA0)))))))) (s1 (sW (tCmp ⟨(nS h)⟩ xV (xO (lC xL0))) (s1 (sS d (xU l c (xA (xO (Tf xV)) (xA xV xA0)))) (s1 (sI (tCmp ⟨(Fu i)⟩ xV xV) (s1 (sDP j xV x2 xV) (s1 (sE (PY xV xW)) s0)) s0) s0))) (s1 (sR (kF (xL xW (xL (xT T rfl ⟨jo⟩ (xA (xO (JI (xO (xB T rfl ⟨(uu rfl i)⟩ (xA xV xA0))) (xO x3))) xA0)) xL0)))) s0))))))))
abbrev oV:Stmt:=top 36
def C7:FnScope ["_law_names"] ["_law_names"] (gr oV):=scM
abbrev yz(Z:ZZ)(k:Nat):Prop:=Oz Z k "_law_bits" ["_law_names"] nQ
def D1:BdA "_law_bits" oV ["_law_names"]:=λ_ _ _ _ _ _=>us1 λ_=>us0 rfl
def Dq(a:Fz Z.K Z.mg "_law_bits" oV)(T:Tx Z.mg):yz Z (k+1):=by
 have S:=C7;refine ozB (asg:=[]) (fs:=we) a S D1 λf d A c s H E L e g h j i l b=>?_;exact(s1 (sR (by exact xC (N':=["_law_names","_law_number"]) (cOk S) (by decide+kernel) (iR1 T (xA (xO (iU ⟨NL⟩ (xO x3) xV)) xA0)) λ_ _ _ _ _ _ b=>⟨(gN b),f0,λ_=>bE (xT T rfl ⟨jo⟩ (xA (xO (by exact xC (N':=["_law_number","_law_names","_law_k"]) (Mm rfl rfl (by with_unfolding_all rfl)) (by decide+kernel) (iR1 T (xA xV xA0)) λ_ _ _ _ _ _ b=>⟨(gN b),f0,λ_=>bE (iU ⟨NM⟩ (xO (iU ⟨NK⟩ xV (xO (iU ⟨mm⟩ (xO (iU ⟨mm⟩ xV (xO x3))) xV)))) (xO x3))⟩)) xA0))⟩)) s0)
abbrev lI:Stmt:=top 37
def wx:FnScope ["_law_answer","_law_turning_here","_law_found"] ["_law_answer","_law_turning_here"] (gr lI):=scM
abbrev qi(Z:ZZ)(k:Nat):Prop:=Oz Z k "_law_led_bits" ["_law_answer","_law_turning_here"] lp
def wI:BdA "_law_led_bits" lI ["_law_answer","_law_turning_here"]:=λ_ _ _ _ _ _=>us1 λ_=>us1 λ_=>us0 rfl
def wB(a:Fz Z.K Z.mg "_law_led_bits" lI)(T:Tx Z.mg)(h:Z.mg "dict"=none):qi Z (k+1):=by
 have S:=wx;refine ozB (asg:=[2]) (fs:=pR) a S wI λf i A c s H E L j l d g e m b=>?_;exact(s1 (sS b (U6 h (xA (xO (by exact xC (N':=["_law_bit","_law_sign"]) (cOk S) (by decide+kernel) (iZ T xW xW) λ_ _ _ _ _ _ b=>⟨(gT (gN b) (gN b)),f0,λ_=>bE (kF (xL (xB T rfl ⟨lz⟩ (xA xV xA0)) (xL (xIx (xO (lC (xL (iU ⟨mm⟩ (xO x3) xV) (xL xW xL0)))) (xO (xT T rfl ⟨rh⟩ (xA (xO (CH ⟨(pd (.inr (.inr (.inl rfl))) d)⟩ xV (xO x3))) xA0)))) xL0)))⟩)) xA0))) (s1 (sR (xT T rfl ⟨jo⟩ (xA (xO (by exact xC (N':=["_law_found","_law_name"]) (cOk S) (by decide+kernel) (iS (xB T rfl ⟨(uu rfl e)⟩ (xA xV xA0))) λ_ _ _ _ _ _ b=>⟨(gN b),f0,λ_=>bE (U4 g xV xV)⟩)) xA0))) s0))
abbrev nJ:Stmt:=top 38
def BL:FnScope ["_law_thing"] ["_law_thing"] (gr nJ):=scM
abbrev vX(Z:ZZ)(k:Nat):Prop:=Oz Z k "_law_whole" ["_law_thing"] jh
def Cv:BdA "_law_whole" nJ ["_law_thing"]:=λ_ _ _ _ _ _=>us1 λ_=>us0 rfl
def BW(a:Fz Z.K Z.mg "_law_whole" nJ)(T:Tx Z.mg):vX Z (k+1):=by
 have S:=BL;refine ozB (asg:=[]) (fs:=lW) a S Cv λf c A b s H E L d e g i h j l=>?_;exact(s1 (sR (HG (xI T rfl xV) (xBo (PU (xI T rfl xV))))) s0)
abbrev kN:Stmt:=top 39
def tR:FnScope ["_law_names","_law_thing"] ["_law_names","_law_thing"] (gr kN):=scM
abbrev oG(Z:ZZ)(k:Nat):Prop:=Oz Z k "_law_is_turning" ["_law_names","_law_thing"] iG
def uA:BdA "_law_is_turning" kN ["_law_names","_law_thing"]:=λ_ _ _ _ _ _=>us1 λ_=>us1 λ_=>us0 rfl
def tX(a:Fz Z.K Z.mg "_law_is_turning" kN)(T:Tx Z.mg)(b:vX Z k):oG Z (k+1):=by
 have S:=tR;refine ozB (asg:=[]) (fs:=kB) a S uA λf i A d s H E L j e g l h m c=>?_;exact(s1 (sI (tW (wOr (tNot (wt (xI T rfl xV))) (JP (tNot (wt (xB T rfl ⟨(vH rfl)⟩ (xA (xO (by exact xC (N':=["_law_sign"]) (cOk S) (by decide+kernel) (iS xW) λ_ _ _ _ _ _ c=>⟨(gN c),f0,λ_=>bE (xU b e (xA xV xA0))⟩)) xA0))))))) (s1 (sR x2) s0) s0) (s1 (sR (CH ⟨(nU g)⟩ (xO (xB T rfl ⟨(mW h)⟩ (xA (xO (by exact xC (N':=["_law_sign"]) (cOk S) (by decide+kernel) (iS xW) λ_ _ _ _ _ _ c=>⟨(gN c),f0,λ_=>bE (xB T rfl ⟨lz⟩ (xA xV xA0))⟩)) xA0))) (xO (Te T rfl (xA (xO x3) (xA (xO (iU ⟨iF⟩ xV (xO x3))) xA0)))))) s0))
abbrev qI:Stmt:=top 40
def Ff:FnScope ["_law_state_here","_law_some"] ["_law_state_here"] (gr qI):=scM
abbrev Aj(Z:ZZ)(k:Nat):Prop:=Oz Z k "_law_odd" ["_law_state_here"] pF
def Ge:BdA "_law_odd" qI ["_law_state_here"]:=λ_ _ _ _ _ _=>us1 λ_=>us0 rfl
def Fw(a:Fz Z.K Z.mg "_law_odd" qI)(T:Tx Z.mg)(c:lq Z k):Aj Z (k+1):=by
 have S:=Ff;refine ozB (asg:=[1]) (fs:=yJ) a S Ge λf g A b s H E L h d i l j m e=>?_;exact(s1 (sS e (lC (xL x1 (xL x2 (xL x2 (xL (vb (xO x3)) (xL x3 (xL x3 (xL x4 (xL x4 (xL (kF xL0) (xL (lC xL0) (xL (kF (xL x2 xL0)) (xL (lC (xL x3 xL0)) (xL x8 (xL (kF (xL x1 xL0)) (xL (kF (xL (kF (xL x3 xL0)) xL0)) (xL (iU ⟨wR⟩ (xO x3) (xO x3)) xL0)))))))))))))))))) (s1 (sR (xIx (xO (iU ⟨iF⟩ xV (xO (lC (xL (kF (xL x3 xL0)) (xL (kF (xL x3 (xL x3 xL0))) xL0)))))) (xO (xU c d (xA xV (xA (xO x3) xA0)))))) s0))
abbrev kd:Stmt:=top 41
def rm:FnScope ["_law_state_here","_law_turning_here","_law_names","_law_at","_law_to","_law_odd_here","_law_some"] ["_law_state_here","_law_turning_here"] (gr kd):=scM
abbrev nA(Z:ZZ)(k:Nat):Prop:=Oz Z k "_law_bent_turning" ["_law_state_here","_law_turning_here"] iE
def rA:BdA "_law_bent_turning" kd ["_law_state_here","_law_turning_here"]:=λ_ _ _ _ _ _=>us1 λ_=>us1 λ_=>us0 rfl
def rp(a:Fz Z.K Z.mg "_law_bent_turning" kd)(T:Tx Z.mg)(c:lq Z k):nA Z (k+1):=by
 have S:=rm;refine ozB (asg:=[2,3,4,5,6]) (fs:=mM) a S rA λf h A e s H E L i d g l j m b=>?_;exact(s1 (sS b (xB T rfl ⟨ku⟩ (xA xV xA0))) (s1 (sI (tCmp ⟨(nU g)⟩ xV (xO x3)) (s1 (sR (xIx (xO (lC (xL (kF (xL x3 xL0)) (xL (kF (xL x3 xL0)) (xL (lC xL0) (xL x1 (xL (kF (xL (kF xL0) xL0)) (xL (kF (xL x2 xL0)) xL0)))))))) (xO (xU c d (xA xV (xA (xO x3) xA0)))))) s0) s0) (s1 (sP b (xA (xO (xU c d (xA xV (xA xV xA0)))) (xA (xO (xU c d (xA xV (xA xV xA0)))) xA0))) (s1 (sS b (lC (xL x3 (xL (iU ⟨iF⟩ xV (xO x3)) (xL (iU ⟨mm⟩ (xO (vb xV)) (xO x3)) (xL x2 (xL x1 (xL x4 (xL (kF (xL x3 xL0)) (xL (xIx xV xV) (xL (vb (xO (xIx xV xV))) (xL (vb (xO (xIx xV xV))) (xL (iU ⟨wR⟩ (xO x3) (xO x3)) xL0))))))))))))) (s1 (sS b (xIx xV (xO (xU c d (xA xV (xA (xO x3) xA0)))))) (s1 (sS b (lC (xL (iU ⟨iF⟩ (xO (iU ⟨iF⟩ (xO (JI xV xV)) (xO (kF (xL xW xL0))))) (xO (PR xV (xO (iU ⟨iF⟩ xV (xO x3)))))) (xL (iU ⟨iF⟩ (xO (iU ⟨iF⟩ (xO (JI xV xV)) (xO (kF (xL xW xL0))))) (xO (PR xV xV))) (xL (xT T rfl ⟨sM⟩ (xA xV xA0)) (xL (kF (xL xW xL0)) xL0)))))) (s1 (sS b (iU ⟨iF⟩ xV (xO (lC (xL (iU ⟨iF⟩ (xO (JI xV xV)) (xO (PR xV (xO (iU ⟨iF⟩ xV (xO x3)))))) (xL (iU ⟨iF⟩ xV (xO (kF (xL (iU ⟨iF⟩ xV (xO x3)) xL0)))) (xL (U2 xV (xO (vb (xO x3)))) (xL (iU ⟨iF⟩ xV (xO (JI xV (xO x3)))) xL0)))))))) (s1 (sR (xIx xV (xO (xIx (xO (lC (xL x3 (xL x3 (xL x3 (xL x3 (xL x3 (xL x3 (xL x3 (xL x3 (xL x3 (xL x3 xL0)))))))))))) (xO (xU c d (xA xV (xA (xO x3) xA0)))))))) s0))))))))
abbrev nu:Stmt:=top 42
def C6:FnScope ["_law_found","_law_due"] ["_law_found","_law_due"] (gr nu):=scM
abbrev FD(Z:ZZ)(k:Nat):Prop:=Oz Z k "_law_same" ["_law_found","_law_due"] (gW RD)
def wq:BdA "_law_same" nu ["_law_found","_law_due"]:=λ_ _ _ _ _ _=>us1 λ_=>us1 λ_=>us0 rfl
def BU{c:EvF}(a:Fz Z.K Z.mg "_law_same" nu)(T:Tx Z.mg)(h:Oz Z k "_law_same" ["_law_found","_law_due"] c):Oz Z (k+1) "_law_same" ["_law_found","_law_due"] (evF 2 2 [] (jK c)):=by
 have S:=C6;refine ozB (asg:=[]) (fs:=jK c) a S wq λf i A e s H E L j g b m l n d=>?_;exact(s1 (sI (wt (xI2 T rfl rfl xV)) (s1 (sI (tW (wOr (tCmp ⟨(nS b)⟩ (xO (xI T rfl xV)) (xO (xI T rfl xV))) (JP (tCmp ⟨(nS b)⟩ (xO (xI T rfl xV)) (xO (xI T rfl xV)))))) (s1 (sR x2) s0) s0) (s1 (sR (HG (CH ⟨(nU b)⟩ (xO (xB T rfl ⟨ku⟩ (xA xV xA0))) (xO (xB T rfl ⟨ku⟩ (xA xV xA0)))) (xBo (xB T rfl ⟨(vH rfl)⟩ (xA (xO (by exact xC (N':=["_law_one","_law_other"]) (cOk S) (by decide+kernel) (iZV T xV xV) λ_ _ _ _ _ _ d=>⟨(gT (gN d) (gN d)),f0,λ_=>bE (xU h g (xA xV (xA xV xA0)))⟩)) xA0))))) s0)) s0) (s1 (sR (HG (CH ⟨(nU b)⟩ xV xV) (xBo (CH ⟨(nU b)⟩ (xO (xI T rfl xV)) (xO (xI T rfl xV)))))) s0))
theorem vW(a:Fz Z.K Z.mg "_law_same" nu)(T:Tx Z.mg): ∀m,Oz Z m "_law_same" ["_law_found","_law_due"] (gW m)
 |0=>oz0 a wq
 |m+1=>BU a T (vW a T m)
abbrev km:Stmt:=top 43
def yj:FnScope ["_law_call","_law_error","e","_law_sorts","_law_words"] ["_law_call"] (gr km):=scM
def ze:BdA "_law_refused" km ["_law_call"]:=λ_ _ _ _ _ _=>us1 λ_=>us0 rfl
abbrev rO(Z:ZZ)(k:Nat):Prop:=Rf Z km ["_law_call","_law_error","e","_law_sorts","_law_words"] "_law_refused" "_law_call" "RiddleError" "_law_error" "e" 1 2 k [1,2,3,4] (hW CT oj) (λz=>oj.lookup z)
def yw{CR:Nat}(a:Fz Z.K Z.mg "_law_refused" km)(T:Tx Z.mg)(b:ClsK Z.K Z.mg CT oj CR):rO Z k:=by
 have S:=yj;obtain⟨f,g,m,F⟩:=a;refine⟨f,g,CR,F,F.binds ze,m,λX i=>?_,b.ci⟩;subst i;refine⟨S,by decide,rfl,rfl,by decide,by decide,rfl,rfl,rfl,rfl,b.re,by decide,_,_,_,_,_,_,_,_,_,_,_,rfl,λe A d s H L n j=>?_⟩;have c:=S.nd;have o:=j.un;have l:un (A.deeper (envOfC "_law_refused" (gr km) s.heap.objs.size f e)) 60:=by unfold un;omega
 refine⟨rfl,rfl,QS.h (show QS _ _ _ _ _ _ from(sS c x1)),QQ.h (show QQ _ _ _ _ _ (hW CT oj) from(s1 (sI (tCmp ⟨RC⟩ xV (xO x1)) (s1 (sR x1) s0) s0) (s1 (sS c (lC (xL (xE T (b.t "NoName") xV) (xL (xE T (b.t "NoBit") xV) (xL (xE T (b.t "NoTurning") xV) xL0))))) (s1 (sS c (iU ⟨iF⟩ xV (xO (lC (xL (xE T (b.t "NoAnswer") xV) (xL (xE T (b.t "NoNumber") xV) (xL (xE T (b.t "NoClause") xV) xL0))))))) (s1 (sS c (iU ⟨iF⟩ xV (xO (lC (xL (xE T (b.t "NoPutting") xV) (xL (xE T (b.t "TooMany") xV) (xL (xE T (b.t "NoRiddle") xV) xL0))))))) (s1 (sE (PY xV (xE T (b.t "BadNote") xV))) (s1 (sI (tW (wOr (tNot (wt (xEV T b.vm b.v xV))) (JP (tCmp ⟨(nS l)⟩ (xO (U1 b.su (xA (xO (by exact xC (N':=["_law_kind"]) (cOk S) (by decide+kernel) (iSV xV) λ_ _ _ _ _ _ c=>⟨(gN c),f0,λ_=>bE (xT T rfl ⟨rh⟩ (xA xV xA0))⟩)) xA0))) (xO x3))))) (s1 (sR x4) s0) s0) (s1 (sS c (lC (xL x4 (xL x4 (xL x4 (xL x4 (xL x4 (xL x4 (xL x4 (xL x4 (xL x4 (xL x4 xL0)))))))))))) (s1 (sR (xIx xV (xO (U5 xV)))) s0)))))))))⟩
abbrev GH:Stmt:=top 44
def Qg:FnScope ["_law_script","_law_k","_law_state_here","_law_riddle","_law_turning_here","_law_every","_law_turn","_law_answer","_law_things","_law_thing","_law_due"] ["_law_script"] (gr GH):=scM
def SQ:BdA "law" GH ["_law_script"]:=λ_ _ _ _ _ _=>us1 λ_=>us0 rfl
def RT{f c:gm}{Y:kY}(F:Fun Z.K "law" "law" GH f Y)(hc:Y.code= .ref c)(hC:PySem.W.CodeHd Z.base c 328)(hB:Z.base.BuiltinsAt Z.mg 328)(T:Tx Z.mg)(N:Pf Z k)(e:tY Z k)(u:vY Z k)(z:lq Z k)(m:pQ Z k)(p:nV Z k)(x:yz Z k)(G:Ak Z k)(y:FD Z k)(o:qi Z k)(I:Aj Z k)(d:nA Z k)(h:oG Z k)(a:rO Z k)(O:ON Z k)(r:tH Z k):FnOk Z.P Z.w Z.K Z.mg Z.base CX0 (k+3) f Y ["_law_script"] (spT TB22 (spF Z.K rW)):=by
 have S:=Qg;have M:=N.up (j:=k+2) (by omega);have D:=e.up (j:=k+2) (by omega);have t:=u.up (j:=k+2) (by omega);have U:=z.up (j:=k+2) (by omega);have l:=m.up (j:=k+2) (by omega);have V:=p.up (j:=k+2) (by omega);have v:=x.up (j:=k+2) (by omega);have B:=G.up (j:=k+2) (by omega);have X:=y.up (j:=k+2) (by omega);have n:=o.up (j:=k+2) (by omega);have C:=I.up (j:=k+2) (by omega);have b:=d.up (j:=k+2) (by omega);have g:=h.up (j:=k+2) (by omega);refine Wa (q:="law.<locals>.<lambda>") (asg:=[1,2,3,4,5,6,7,8,9,10]) (fs:=yL) F hc hC hB (by decide) (by decide) S λf b8 A R s H E L hL i Q l3 k9 m4 J tb=>?_;exact(s1 (sI (tW (wOr (tCmp ⟨(nS Q)⟩ (xO (xU M i (xA (xO (kF (xL x3 (xL (kF xL0) xL0)))) (xA (xO (kF xL0)) xA0)))) (xO (kF (xL x3 (xL (kF xL0) xL0))))) (wOr (tCmp ⟨(nS Q)⟩ (xO (xU D i (xA (xO (kF xL0)) (xA (xO (kF xL0)) xA0)))) (xO (kF xL0))) (JP (tCmp ⟨(nS Q)⟩ (xO (xU D i (xA (xO (kF (xL x3 (xL x3 xL0)))) (xA (xO (kF (xL (vb (xO x3)) (xL x3 xL0)))) xA0)))) (xO (kF (xL x3 (xL x3 xL0))))))))) (s1 (sR x2) s0) s0) (s1 (sF (iR1 T (xA (xO (xB T rfl ⟨(F8 rfl)⟩ (xA (xO x3) (xA (xO (xB T rfl ⟨(F7 rfl)⟩ (xA (xO (xB T rfl ⟨ku⟩ (xA xV xA0))) (xA (xO x3) xA0)))) xA0)))) xA0)) (gN J) (s1 (sS J (xU t i (xA xV (xA xV xA0)))) (s1 (sS J (xU l i (xA xV (xA (xO (xU U i (xA xV (xA (xO x3) xA0)))) xA0)))) (s1 (sS J (xU V i (xA xV (xA (xO (xIx xV (xO x3))) xA0)))) (s1 (sS J (xU v i (xA (xO (xIx xV (xO x3))) xA0))) (s1 (sF (iR1 T (xA (xO x3) xA0)) (gN J) (s1 (sI (tNot (wt (xU X i (xA (xO (xU M i (xA xV (xA xV xA0)))) (xA (xO (xU B i (xA xV (xA xV xA0)))) xA0))))) (s1 (sR x2) s0) s0) s0)) (s1 (sF (iS xW) (gN J) (s1 (sI (tNot (wt (xU X i (xA (xO (xU D i (xA xV (xA xV xA0)))) (xA (xO (xU n i (xA xV (xA xV xA0)))) xA0))))) (s1 (sR x2) s0) s0) s0)) (s1 (sS J (xIx xV (xO (xU U i (xA xV (xA (xO (xB T rfl ⟨ku⟩ (xA xV xA0))) xA0)))))) (s1 (sS J (iU ⟨iF⟩ (xO (lC (xL (xU C i (xA xV xA0)) xL0))) (xO (by exact xC (N':=["_law_state_here","_law_turning_here","_law_turn"]) (cOk S) (by decide+kernel) (iR1 T (xA (xO x3) xA0)) λ_ _ _ _ _ _ J=>⟨(gN J),f0,λ_=>bE (xU b i (xA xV (xA xV xA0)))⟩)))) (s1 (sF (iS (iU ⟨iF⟩ xV (xO (lC (xL (xU V i (xA xV (xA (xO (xU U i (xA xV (xA (xO x3) xA0)))) xA0))) xL0))))) (gN J) (s1 (sS J (xIx (xO (lC (xL x1 (xL x4 xL0)))) (xO (xT T rfl ⟨rh⟩ (xA (xO (PU (xU g i (xA (xO (xIx xV (xO x3))) (xA xV xA0))))) xA0))))) (s1 (sI (tCmp ⟨(nS Q)⟩ (xO (xRf (N':=["_law_riddle","_law_thing"]) a tb i (cOk S) (by decide+kernel) λ_ _ _ _ _ _ _ _ i=>⟨xU N i (xA xV (xA xV xA0)),zC CG O i (xA xV (xA xV xA0))⟩)) xV) (s1 (sR x2) s0) s0) (s1 (sI (tCmp ⟨(nS Q)⟩ (xO (xRf (N':=["_law_answer","_law_thing"]) a tb i (cOk S) (by decide+kernel) λ_ _ _ _ _ _ _ _ i=>⟨xU e i (xA xV (xA xV xA0)),zC CG r i (xA xV (xA xV xA0))⟩)) xV) (s1 (sR x2) s0) s0) s0)))) s0)))))))))) (s1 (sR x2) s0)))
end
def all_mk{l:PySem.W.OpenLaw}{w:gO}{K:gK}{a:jX}{fa:gm}(cG:a "law"=some (.ref fa))(T:Tx a)
  (a0:Fz K a "is_whole" oW)
  (a1:Fz K a "is_number" nM)
  (a2:Fz K a "is_name" qL)
  (a3:Fz K a "is_sign" qK)
  (a4:Fz K a "is_so" wM)
  (a5:Fz K a "is_turning" mR)
  (a6:Fz K a "check_turning" ki)
  (a7:Fz K a "led_sign" oS)
  (a8:Fz K a "led_clause" mP)
  (a9:Fz K a "led" C9)
  (J:Fz K a "back" BO)
  (g:Fz K a "led_answer" lG)
  (L:Fz K a "_law_cell_at" ml)
  (M:Fz K a "_law_state" nK)
  (N:Fz K a "_law_take" oU)
  (O:Fz K a "_law_turning" mh)
  (Q:Fz K a "_law_clause" mQ)
  (U:Fz K a "_law_led_sign" lH)
  (Y:Fz K a "_law_led_clause" kM)
  (a19:Fz K a "_law_led" qJ)
  (a20:Fz K a "_law_riddle_of" ll)
  (a21:Fz K a "_law_bits" oV)
  (a22:Fz K a "_law_led_bits" lI)
  (a23:Fz K a "_law_whole" nJ)
  (a24:Fz K a "_law_is_turning" kN)
  (a25:Fz K a "_law_odd" qI)
  (a26:Fz K a "_law_bent_turning" kd)
  (a27:Fz K a "_law_same" nu)
  (a28:Fz K a "_law_refused" km)
  (h:FzT K a "law" GH 328)
  (v8:a "dict"=none)
  (i:ClsK K a CT oj 24)
  : ∃m:FuncData,(∀(s:gu) (v:gz),BindsTo s m ⟨[v],[]⟩ [("_law_script",v)])/\(∀p∈TB22,∃c,PySem.W.codeHdIn K c p.1=true)/\ ∀base:Heap,K.In base->base.Ns mainGlobals a->(∀p∈TB22,base.BuiltinsAt a p.1)->FnOk l.prog w K a base CX0 11 fa m ["_law_script"] (spT TB22 (spF K rW)):=by
 obtain⟨m,c,F,hc,hC,hb⟩:=V8 h cG SQ;refine⟨m,hb,aC h.cd (aN),λbase KB _ X=>?_⟩;have D:=Dr (Z:=⟨l.prog,w,K,a,base⟩) (k:=0) a0 T;have O1:=BY (Z:=⟨l.prog,w,K,a,base⟩) (k:=1) a1 T D.up;have O2:=FA (Z:=⟨l.prog,w,K,a,base⟩) (k:=2) a2 T O1.up;have O3:=Fy (Z:=⟨l.prog,w,K,a,base⟩) (k:=3) a3 T D.up O2.up;have P:=Ll (Z:=⟨l.prog,w,K,a,base⟩) (k:=0) a4 T;have R:=zF (Z:=⟨l.prog,w,K,a,base⟩) (k:=4) a5 T O3.up;have j:=vA (Z:=⟨l.prog,w,K,a,base⟩) (k:=5) a6 T R.up;have V:=va (Z:=⟨l.prog,w,K,a,base⟩) (k:=5) a6 T i R.up;have O7:=Dm (Z:=⟨l.prog,w,K,a,base⟩) (k:=0) a7 T;have S:=zA (Z:=⟨l.prog,w,K,a,base⟩) (k:=1) a8 T O7.up;have O9:=RS (Z:=⟨l.prog,w,K,a,base⟩) (k:=6) a9 T j.up S.up;have Y9:=PQ (Z:=⟨l.prog,w,K,a,base⟩) (k:=6) a9 T i j.up S.up V.up;have d:=NS (Z:=⟨l.prog,w,K,a,base⟩) (k:=0) J T;have n:=zB (Z:=⟨l.prog,w,K,a,base⟩) (k:=6) g T j.up d.up P.up;have I:=zr (Z:=⟨l.prog,w,K,a,base⟩) (k:=6) g T i j.up d.up P.up V.up;have o:=yx (Z:=⟨l.prog,w,K,a,base⟩) (k:=0) L T;have q:=BX (Z:=⟨l.prog,w,K,a,base⟩) (k:=1) M T o.up;have b:=Dp (Z:=⟨l.prog,w,K,a,base⟩) (k:=0) N T;have e:=yv (Z:=⟨l.prog,w,K,a,base⟩) (k:=1) O T b.up;have r:=zD (Z:=⟨l.prog,w,K,a,base⟩) (k:=1) Q T b.up;have t:=wA (Z:=⟨l.prog,w,K,a,base⟩) (k:=0) U T;have f:=tV (Z:=⟨l.prog,w,K,a,base⟩) (k:=1) Y T t.up;have u:=Fx (Z:=⟨l.prog,w,K,a,base⟩) (k:=2) a19 T f.up;have x:=vz (Z:=⟨l.prog,w,K,a,base⟩) (k:=2) a20 T b.up r.up e.up f.up;have y:=Dq (Z:=⟨l.prog,w,K,a,base⟩) (k:=0) a21 T;have z:=wB (Z:=⟨l.prog,w,K,a,base⟩) (k:=0) a22 T v8;have A:=BW (Z:=⟨l.prog,w,K,a,base⟩) (k:=0) a23 T;have B:=tX (Z:=⟨l.prog,w,K,a,base⟩) (k:=1) a24 T A.up;have C:=Fw (Z:=⟨l.prog,w,K,a,base⟩) (k:=1) a25 T b.up;have E:=rp (Z:=⟨l.prog,w,K,a,base⟩) (k:=1) a26 T b.up;have G:=vW (Z:=⟨l.prog,w,K,a,base⟩) a27 T RD;have H:=yw (Z:=⟨l.prog,w,K,a,base⟩) (k:=8) a28 T i;exact RT (Z:=⟨l.prog,w,K,a,base⟩) (k:=8) F hc (PySem.W.codeHd_of_K KB hC) (X _ jB) T O9.up n.up q.up b.up x.up e.up y.up u.up G.up z.up C.up E.up B.up H Y9.up I.up
end K22
namespace PV
open PySem PySem.Spec PyProof.Rows L2 PX
@[simp] theorem VL(d:D)(δ:Dn):fC d δ=some ((d,false),δ):=rfl
@[simp] theorem Qp(f:F)(δ:Dn):gn f δ=(f δ).bind λp=>some (.val p.1,p.2):=rfl
@[simp] theorem UT(x:D×Bool)(a:Dn):gk 0 (some x::a)=some (.slot 0,some x::a):=rfl
@[simp] theorem US(a:Sl)(x:D×Bool)(b:Dn):gk 1 (a::some x::b)=some (.slot 1,a::some x::b):=rfl
@[simp] theorem UR(a b:Sl)(x:D×Bool)(c:Dn):gk 2 (a::b::some x::c)=some (.slot 2,a::b::some x::c):=rfl
@[simp] theorem UQ(a b c:Sl)(x:D×Bool)(d:Dn):gk 3 (a::b::c::some x::d)=some (.slot 3,a::b::c::some x::d):=rfl
@[simp] theorem UP(a b c d:Sl)(x:D×Bool)(e:Dn):gk 4 (a::b::c::d::some x::e)=some (.slot 4,a::b::c::d::some x::e):=rfl
@[simp] theorem UO(a b c d e:Sl)(x:D×Bool)(f:Dn):gk 5 (a::b::c::d::e::some x::f)=some (.slot 5,a::b::c::d::e::some x::f):=rfl
@[simp] theorem UN(a b c d e f:Sl)(x:D×Bool)(g:Dn):gk 6 (a::b::c::d::e::f::some x::g)=some (.slot 6,a::b::c::d::e::f::some x::g):=rfl
@[simp] theorem UM(a b c d e f g:Sl)(x:D×Bool)(h:Dn):gk 7 (a::b::c::d::e::f::g::some x::h)=some (.slot 7,a::b::c::d::e::f::g::some x::h):=rfl
@[simp] theorem UL(a b c d e f g h:Sl)(x:D×Bool)(i:Dn):gk 8 (a::b::c::d::e::f::g::h::some x::i)=some (.slot 8,a::b::c::d::e::f::g::h::some x::i):=rfl
@[simp] theorem Kr(δ:Dn)(r:D×Bool):res δ (.val r)=some r.1:=rfl
@[simp] theorem VA(x:D×Bool)(a:Dn):res (some x::a) (.slot 0)=some x.1:=rfl
@[simp] theorem Vz(a:Sl)(x:D×Bool)(b:Dn):res (a::some x::b) (.slot 1)=some x.1:=rfl
@[simp] theorem Vy(a b:Sl)(x:D×Bool)(c:Dn):res (a::b::some x::c) (.slot 2)=some x.1:=rfl
@[simp] theorem Vx(a b c:Sl)(x:D×Bool)(d:Dn):res (a::b::c::some x::d) (.slot 3)=some x.1:=rfl
@[simp] theorem Vw(a b c d:Sl)(x:D×Bool)(e:Dn):res (a::b::c::d::some x::e) (.slot 4)=some x.1:=rfl
@[simp] theorem Vv(a b c d e:Sl)(x:D×Bool)(f:Dn):res (a::b::c::d::e::some x::f) (.slot 5)=some x.1:=rfl
@[simp] theorem Vu(a b c d e f:Sl)(x:D×Bool)(g:Dn):res (a::b::c::d::e::f::some x::g) (.slot 6)=some x.1:=rfl
@[simp] theorem Vt(a b c d e f g:Sl)(x:D×Bool)(h:Dn):res (a::b::c::d::e::f::g::some x::h) (.slot 7)=some x.1:=rfl
@[simp] theorem Vs(a b c d e f g h:Sl)(x:D×Bool)(i:Dn):res (a::b::c::d::e::f::g::h::some x::i) (.slot 8)=some x.1:=rfl
@[simp] theorem VJ(g:D->Option (D×Bool))(a:FO)(b:Dn):jg g a b=(a b).bind λp=>(res p.2 p.1).bind λx=>(g x).bind λz=>some (z,p.2):=rfl
@[simp] theorem VI(g:D->D->Option (D×Bool))(a b:FO)(c:Dn):gy g a b c=(a c).bind λp=>(b p.2).bind λq=>(res q.2 p.1).bind λx=>(res q.2 q.1).bind λy=>(g x y).bind λz=>some (z,q.2):=rfl
@[simp] theorem TQ(a:Dn):jk [] a=some ([],a):=rfl
@[simp] theorem UX(f:FO)(fs:List FO)(a:Dn):jk (f::fs) a=(f a).bind λp=>(jk fs p.2).bind λq=>some (p.1::q.1,q.2):=rfl
@[simp] theorem MY(a:Dn):si a []=some []:=rfl
@[simp] theorem Qo(a:Dn)(o:Opd)(os:List Opd):si a (o::os)=(res a o).bind λd=>(si a os).bind λl=>some (d::l):=rfl
@[simp] theorem UW(g:List D->Option (D×Bool))(fs:List FO)(a:Dn):gJ g fs a=(jk fs a).bind λp=>(si p.2 p.1).bind λb=>(g b).bind λz=>some (z,p.2):=rfl
@[simp] theorem UK:nq []=some []:=rfl
@[simp] theorem Vk(r:D×Bool)(os:List Opd):nq (.val r::os)=(nq os).map (r.1:: ·):=rfl
@[simp] theorem Qt(fs:List F)(b:Dn):jG fs b=(jk (fs.map gn) b).bind λp=>(nq p.1).bind λa=>if a.length<=sizeLine then some ((.tup a,false),p.2) else none:=rfl
@[simp] theorem Qv(fs:List F)(b:Dn):jH fs b=(jk (fs.map gn) b).bind λp=>(nq p.1).bind λa=>if a.length<=sizeLine then some ((.lst a,true),p.2) else none:=rfl
@[simp] theorem Wr(b o:Bool)(a:Dn):asB ((.bl b,o),a)=some (b,a):=rfl
@[simp] theorem Wx(f:F)(a:Dn):fT f a=(f a).bind asB:=rfl
@[simp] theorem UY(f g:FT)(a:Dn):UB f g a=(f a).bind λp=>if p.1=true then g p.2 else some (false,p.2):=rfl
@[simp] theorem VH(f g:FT)(a:Dn):yQ f g a=(f a).bind λp=>if p.1=true then some (true,p.2) else g p.2:=rfl
@[simp] theorem UU(f:FT)(a:Dn):lT f a=(f a).bind λp=>some (!p.1,p.2):=rfl
@[simp] theorem Qw(f g:F)(a:Dn):zL f g a=(f a).bind λp=>(asB p).bind λq=>if q.1=true then g q.2 else some ((.bl false,false),q.2):=rfl
@[simp] theorem Wo(f g:F)(a:Dn):fOr f g a=(f a).bind λp=>(asB p).bind λq=>if q.1=true then some ((.bl true,false),q.2) else g q.2:=rfl
@[simp] theorem Qu(f:F)(δ:Dn):DO f δ=(f δ).bind λp=>(asB p).bind λq=>some ((.bl (!q.1),false),q.2):=rfl
@[simp] theorem OW(t:FT)(f g:F)(δ:Dn):fIf t f g δ=(t δ).bind λp=>if p.1=true then f p.2 else g p.2:=rfl
@[simp] theorem Vq(a:Dn):gX a=some (.nx a):=rfl
def nxt(g:FS):Out->Option Out
 | .nx a=>g a
 |o=>some o
@[simp] theorem VC(g:FS)(a:Dn):nxt g (.nx a)=g a:=rfl
@[simp] theorem VB(g:FS)(r:D×Bool)(a:Dn):nxt g (.rt r a)=some (.rt r a):=rfl
@[simp] theorem Fm(f g:FS)(a:Dn):gB f g a=(f a).bind (nxt g):=by
 unfold gB
 cases f a with
 |none=>rfl
 |some o=>cases o<;>rfl
@[simp] theorem GN(f:F)(a:Dn):oD f a=(f a).bind λp=>some (.nx p.2):=rfl
@[simp] theorem Vp(f:F)(a:Dn):jf f a=(f a).bind λp=>some (.rt p.1 p.2):=rfl
@[simp] theorem Wh(t:FT)(f g:FS)(a:Dn):sIf t f g a=(t a).bind λp=>if p.1=true then f p.2 else g p.2:=rfl
@[simp] theorem Vo(i:Nat)(f:F)(a:Dn):jx i f a=(f a).bind λp=>if i<p.2.length then some (.nx (p.2.set i (some p.1))) else none:=rfl
@[simp] theorem Vn(b:Tg)(f:F)(c:Dn):HR b f c=(f c).bind λp=>(b p.1.1 p.2).bind λa=>some (.nx a):=rfl
@[simp] theorem Ww(g:D->Option (D×Bool))(d:D):g1 g [d]=g d:=rfl
@[simp] theorem Wv(g:D->D->Option (D×Bool))(d e:D):g2 g [d,e]=g d e:=rfl
@[simp] theorem TU(i j:Int):kD (.int i) (.int j)=some (.int (i+j),false):=rfl
@[simp] theorem OV(i j:Int):PX.gSub (.int i) (.int j)=some (.int (i-j),false):=rfl
@[simp] theorem Wi(i:Int):nC (.int i)=some (.int (-i),false):=rfl
@[simp] theorem TV(i:Int):pD (.int i)=some (.int (if i<0 then -i else i),false):=rfl
@[simp] theorem Qq(l:List D):pT (.tup l)=some (.int l.length,false):=rfl
@[simp] theorem Qr(l:List D):pT (.lst l)=some (.int l.length,false):=rfl
@[simp] theorem Vm(l:List D):lr (.lst l)=some (.tup l,false):=rfl
@[simp] theorem Vl(l:List D):lr (.tup l)=some (.tup l,false):=rfl
@[simp] theorem VD(l:List D):wd (.tup l)=some (.lst l,true):=rfl
@[simp] theorem VE(l:List D):wd (.lst l)=some (.lst l,true):=rfl
@[simp] theorem Qs(b:Bool):zK (.bl b)=some (.int (if b then 1 else 0),false):=rfl
@[simp] theorem VF(b:Int):zK (.int b)=some (.int b,false):=rfl
@[simp] theorem Wm(i j:Int):LY (.int i) (.int j)=some (.int (if j>i then j else i),false):=rfl
@[simp] theorem Wl(i j:Int):LX (.int i) (.int j)=some (.int (if j<i then j else i),false):=rfl
@[simp] theorem Wn(a:List Ty)(d:D):pU a d=some (.bl (a.any (isT d)),false):=rfl
@[simp] theorem OX(i j:Int):gEq (.int i) (.int j)=some (.bl (i==j),false):=by unfold gEq;rw[gF (by simp[D.dep])];simp[D.eqb]
@[simp] theorem Wj(i j:Int):gNe (.int i) (.int j)=some (.bl (!(i==j)),false):=by unfold gNe;rw[gF (by simp[D.dep])];simp[D.eqb]
@[simp] theorem Wq(i j:Bool):gEq (.bl i) (.bl j)=some (.bl (i==j),false):=by unfold gEq;rw[gF (by simp[D.dep])];simp[D.eqb]
@[simp] theorem Wk(i j:Bool):gNe (.bl i) (.bl j)=some (.bl (!(i==j)),false):=by unfold gNe;rw[gF (by simp[D.dep])];simp[D.eqb]
@[simp] theorem Ws(i j:Int):oM .Lt (.int i) (.int j)=some (.bl (decide (i<j)),false):=by simp[oM,lM,jF,D.dep]
@[simp] theorem Wt(i j:Int):oM .LtE (.int i) (.int j)=some (.bl (decide (i<=j)),false):=by simp[oM,lM,jF,D.dep]
@[simp] theorem VG(i j:Int):oM .Gt (.int i) (.int j)=some (.bl (decide (i>j)),false):=by simp[oM,lM,jF,D.dep]
@[simp] theorem Wu(i j:Int):oM .GtE (.int i) (.int j)=some (.bl (decide (i>=j)),false):=by simp[oM,lM,jF,D.dep]
@[simp] theorem wN(f:F)(δ:Dn):jP f δ=(f δ).bind λp=>match p.1.1 with| .lst l=>some (l,p.2)| .tup l=>some (l,p.2)|_=>none:=rfl
@[simp] theorem Vr(b:FIt)(c:Tg)(a:FS)(d:Dn):sh b c a d=(b d).bind λp=>uj c a p.1 p.2:=rfl
@[simp] theorem qO(a:Dn):iX a=some (true,a):=rfl
@[simp] theorem oZ(f:F)(a:List D)(b:Dn):iH f a b=(f b).bind λp=>if a.length<sizeLine then some (a++[p.1.1],p.2) else none:=rfl
def BJ(h:n<=10000):n<=sizeLine:=by rw[iB];omega
theorem wL(h:n<=10000):n<sizeLine:=by rw[iB];omega
abbrev enc(t:gC):D×Bool:=(.tup (t.map .int),false)
abbrev stt(a:Int)(b:Bool):Sl:=some (.lst [.int a,.bl b],true)
abbrev lsi(l:gC):Sl:=some (.lst (l.map .int),true)
@[simp] theorem MZ(b:EvF)(fs:List FO)(c:Dn):gA b fs c=(jk fs c).bind λp=>(iN p.2 p.1).bind λa=>if(gP p.1 a).Nodup then(b a).bind λq=>some (q.1,wb p.1 a q.2 p.2) else none:=rfl
@[simp] theorem Ah(δ:Dn):iN δ []=some []:=rfl
@[simp] theorem TR(b:Dn)(o:Opd)(os:List Opd):iN b (o::os)=(uB b o).bind λa=>(iN b os).bind λl=>some (a::l):=rfl
@[simp] theorem VM(a:Dn)(r:D×Bool):uB a (.val r)=some (r.1,false):=rfl
@[simp] theorem VN(a:Dn)(i:Nat):uB a (.slot i)=(a[i]?).join:=rfl
def qD(a:Int)(b:Bool)(m:Int)(c:0<m)(d:m<1073741824):
  ∃v e,0<=v/\v<m/\gD [(.lst [.int a,.bl b],true),(.int m,false)]=some ((.int v,false),[some (.lst [.int e,.bl b],true),some (.int m,false)]):=by
 cases b
 ·have h1: ∀x:Int, -18446744073709551616<x%2147483647/\x%2147483647<18446744073709551616:=λx=>by omega
  have f: ∀x:Int, -18446744073709551616<x%2147483629/\x%2147483629<18446744073709551616:=λx=>by omega
  simp only[gD,nN];simp[evF,gIx,atI,ixN,zJ,gI,LZ,nD,Cg,oX,qM,gZ,gP,wb,IQ,qy,CMul,c,d,h1,f];exact⟨Int.emod_nonneg _ (by omega),Int.emod_lt_of_pos _ c⟩
 ·simp only[gD,nN];simp[evF,gIx,atI,ixN,zJ,gI,LZ,nD,Cg,oX,qM,gZ,gP,wb,IQ,qy,CMul,c,d];exact⟨Int.emod_nonneg _ (by omega),Int.emod_lt_of_pos _ c⟩
theorem Cu(x y:Int):(x==y)=decide (x=y):=rfl
def mz{g:List D->Option (D×Bool)}{fs:List FO}{δ a:Dn}{os:List Opd}{ds:List D}{z:D×Bool}(h1:jk fs δ=some (os,a))(b:si a os=some ds)(c:g ds=some z):gJ g fs δ=some (z,a):=by
 unfold gJ;rw[h1];simp only[iz];rw[b];simp only[iz];rw[c];rfl
def kJ(h1:args.length=np/\np<=n/\(args.zipIdx.all λp=>!(p.1.2&&asg.contains p.2))=true)(a:f (args.map some++List.replicate (n-np) none)=some (.rt r δ)):evF n np asg f args=some (r,gZ args δ):=by
 unfold evF;rw[gF h1,a]
def gG(h:f δ=some (.nx δ1)):gB f g δ=g δ1:=by unfold gB;rw[h];rfl
def jt{r}(h:f δ=some (.rt r δ1)):gB f g δ=some (.rt r δ1):=by unfold gB;rw[h];rfl
def jU{r}(h:f δ=some (r,δ1)):jf f δ=some (.rt r δ1):=by unfold jf;rw[h];rfl
def jN{r}(h:f δ=some (r,δ1))(a:i<δ1.length):jx i f δ=some (.nx (δ1.set i (some r))):=by unfold jx;rw[h];simp only[iz];rw[gF a]
theorem oO(h:f δ=some ((.bl b,o),δ1)):fT f δ=some (b,δ1):=by unfold fT;rw[h];rfl
theorem gH{r}(h:f δ=some (r,δ1)):gn f δ=some (.val r,δ1):=by unfold gn;rw[h];rfl
theorem iT(h1:a δ=some (o1,δ1))(b:fb δ1=some (o2,δ2))(c:res δ2 o1=some x)(d:res δ2 o2=some y)(e:g x y=some z):gy g a fb δ=some (z,δ2):=by
 unfold gy;rw[h1];simp only[iz];rw[b];simp only[iz];rw[c,d];simp only[iz];rw[e];rfl
def kb{b:EvF}{fs:List FO}{δ δ1:Dn}{os:List Opd}{args:List (D×Bool)}{r:D×Bool}{a:Dn}(h1:jk fs δ=some (os,δ1))(c:iN δ1 os=some args)(d:(gP os args).Nodup)(e:b args=some (r,a)):gA b fs δ=some (r,wb os args a δ1):=by
 unfold gA;rw[h1];simp only[iz];rw[c];simp only[iz];rw[gF d,e];rfl
def FX(h:f δ=some (false,δ1)):yQ f g δ=g δ1:=by unfold yQ;rw[h];rfl
def qt(h:f δ=some (b,δ1)):lT f δ=some (!b,δ1):=by unfold lT;rw[h];rfl
def vT(h:t δ=some (false,δ1)):sIf t f g δ=g δ1:=by unfold sIf;rw[h];rfl
theorem Ae(h:t δ=some (true,δ1)):sIf t f g δ=f δ1:=by unfold sIf;rw[h];rfl
theorem lu{a fb:FO}{δ δ1 δ2:Dn}{o1 o2:Opd}(h1:a δ=some (o1,δ1))(b:fb δ1=some (o2,δ2)):jk [a,fb] δ=some ([o1,o2],δ2):=by
 simp only[jk];rw[h1];simp only[iz];rw[b];rfl
def sJ{a:FO}{δ δ1:Dn}{o1:Opd}(h1:a δ=some (o1,δ1)):jk [a] δ=some ([o1],δ1):=by
 simp only[jk];rw[h1];rfl
def oY(h:a δ=some (ds,δ1)):sh a tg fb δ=uj tg fb ds δ1:=by unfold sh;rw[h];rfl
def Oh{fs:List F}{δ δ1:Dn}{os:List Opd}{a:List D}(h1:jk (fs.map gn) δ=some (os,δ1))(b:nq os=some a)(c:a.length<=sizeLine):jH fs δ=some ((.lst a,true),δ1):=by
 unfold jH;rw[h1];simp only[iz];rw[b];simp only[iz];rw[gF c]
def Oq(a:gC)(k:Nat): ∃c,kI [(.lst (a.map .int),false),(.int k,false)]=some ((.int c,false),[some (.lst (a.map .int),false),some (.int k,false)]):=by
 by_cases hk:k<a.length
 ·refine⟨a[k],?_⟩;simp[kI,lJ,evF,gIx,atI,ixN,gZ,hk]
 ·refine⟨0,?_⟩;simp[kI,lJ,evF,gZ,hk]
theorem Pd:Cg (.int 10) (.int 18)=some (.int 1000000000000000000,false):=by
 have:qy 10 18:=by unfold qy;decide+kernel
 show((if qy 10 18 then some (D.int (10^(18:Int).toNat)) else none).map λz=>(z,false))=_;rw[gF this];rfl
theorem Pc:Cg (.int 10) (.int 29)=some (.int 100000000000000000000000000000,false):=by
 have:qy 10 29:=by unfold qy;decide+kernel
 show((if qy 10 29 then some (D.int (10^(29:Int).toNat)) else none).map λz=>(z,false))=_;rw[gF this];rfl
def J5(d:gC)(k:Nat): ∃a b,kQ [(.lst (d.map .int),false),(.int k,false)]=some ((.lst [.int a,.bl b],true),[some (.lst (d.map .int),false),some (.int k,false)]):=by
 obtain⟨c,e⟩:=Oq d k;by_cases h:c>=1000000000000000000
 ·refine⟨c-1000000000000000000,true,?_⟩;simp[kQ,mU,evF,e,gP,wb,Pd,h,iB,gZ]
 ·refine⟨c%2147483647,false,?_⟩;simp[kQ,mU,evF,e,gP,wb,Pd,h,iB,gZ,zJ,gI]
def st(n:Nat):List Int:=(List.range n).map λ(k:Nat)=>(1+(k:Int))
theorem E9(n:Nat):(st n).map D.int=ig 1 n:=by simp[st,ig]
def ny:Nat->List Int->List Int->List (List Int)
 |0,_,f=>[f]
 |k+1,r,f=>(List.range r.length).flatMap λv=>ny k (r.eraseIdx v) (f++[r.getD v 0*1])++ny k (r.eraseIdx v) (f++[r.getD v 0* -1])
theorem Ay(f:Int->D): ∀(l:gC) (k:Nat),(l.map f).eraseIdx k=(l.eraseIdx k).map f
 |[],k=>by simp
 |x::l,0=>by simp
 |x::l,k+1=>by simp[Ay f l k]
def IA{i:Nat}{f:FO}{a δ1:Dn}{o:Opd}{n l:List D}{k:Int}{j:Nat}{d:D}(b:a[i]?=some (some (.lst n,true)))(h1:f a=some (o,δ1))(c:res δ1 o=some (.int k))(e:δ1[i]?=some (some (.lst l,true)))(g: -(2^63)<=k/\k<2^63)(h:ixN l.length k=some j)(m:l[j]?=some d):
  sH i f a=some ((d,false),δ1.set i (some (.lst (l.eraseIdx j),true))):=by
 unfold sH;rw[b];simp only[];rw[h1];simp only[iz];rw[c,e];simp only[];rw[gF g,h];simp only[iz];rw[m];rfl
def yR{i:Nat}{f:F}{δ a:Dn}{r:D×Bool}{l0 l:List D}(b:δ[i]?=some (some (.lst l0,true)))(h1:f δ=some (r,a))(c:a[i]?=some (some (.lst l,true)))(d:l.length<sizeLine):
  lK i f δ=some ((.non,false),a.set i (some (.lst (l++[r.1]),true))):=by
 unfold lK;rw[b];simp only[];rw[h1];simp only[iz];rw[c];simp only[];rw[gF d]
def tU{r}(h:f δ=some (r,δ1)):oD f δ=some (.nx δ1):=by unfold oD;rw[h];rfl
abbrev fPop:F:=(sH 2 (gn (gA gD [(gk 0),(gn (gJ (g1 pT) [(gk 2)]))])))
abbrev UA:F:=(gy gIx (gn (jH [(fC (.int 1)),(jg nC (gn (fC (.int 1))))])) (gn (gA gD [(gk 0),(gn (fC (.int 2)))])))
abbrev fbT:FS:=(gB (oD (lK 3 (gy nD (gn fPop) (gn UA)))) gX)
def Ro(a:Int)(b:Bool)(n:Sl)(r f:gC)(x:Sl)(i:0<r.length)(l:r.length<=5): ∃v c,v<r.length/\fPop [stt a b,n,lsi r,lsi f,x]=some ((.int (r.getD v 0),false),[stt c b,n,lsi (r.eraseIdx v),lsi f,x]):=by
 obtain⟨v,c,g,hv,e⟩:=qD a b r.length (by lia) (by lia);have d:v.toNat<r.length:=by lia
 refine⟨v.toNat,c,d,?_⟩;have h:(lsi (r.eraseIdx v.toNat):Sl)=some (.lst ((r.map D.int).eraseIdx v.toNat),true):=by rw[Ay]
 rw[h];refine IA (k:=v) (δ1:=[stt c b,n,lsi r,lsi f,x]) rfl (gH (r:=(.int v,false)) (kb (δ1:=[stt a b,n,lsi r,lsi f,x]) (os:=[.slot 0,.val (.int r.length,false)]) (args:=[(.lst [.int a,.bl b],true),(.int r.length,false)]) ?_ rfl (show([0]:List Nat).Nodup from by decide) e)) rfl rfl ⟨by lia,by lia⟩ (j:=v.toNat) ?_ ?_
 ·show some ([Opd.slot 0,Opd.val (D.int ((r.map D.int).length:Nat),false)],_)=_;rw[jm]
 ·unfold ixN;rw[gF g,gF (by simpa using hv)]
 ·simp[d]
def Qe(a:Int)(b:Bool)(n y z x:Sl): ∃s c,(s=1\/s= -1)/\UA [stt a b,n,y,z,x]=some ((.int s,false),[stt c b,n,y,z,x]):=by
 obtain⟨v,c,f,hv,e⟩:=qD a b 2 (by lia) (by lia);have d: ∀δ:Dn,jH [(fC (.int 1)),(jg nC (gn (fC (.int 1))))] δ=some ((.lst [.int 1,.int (-1)],true),δ):=λδ=>rfl;refine⟨if v=0 then 1 else -1,c,by split<;>simp,?_⟩;refine iT (δ1:=[stt a b,n,y,z,x]) (gH (d _)) (gH (δ1:=[stt c b,n,y,z,x]) (kb (δ1:=[stt a b,n,y,z,x]) (os:=[.slot 0,.val (.int 2,false)]) (args:=[(.lst [.int a,.bl b],true),(.int 2,false)]) rfl rfl (show([0]:List Nat).Nodup from by decide) e)) rfl rfl ?_;rcases(show v=0\/v=1 by lia) with rfl|rfl<;>rfl
def Sn(a:Int)(b:Bool)(n:Sl)(r f:gC)(x:Sl)(j:0<r.length)(k:r.length<=5)(m:f.length<=5): ∃v s c,v<r.length/\(s=1\/s= -1)/\fbT [stt a b,n,lsi r,lsi f,x]=some (.nx [stt c b,n,lsi (r.eraseIdx v),lsi (f++[r.getD v 0*s]),x]):=by
 obtain⟨v,a1,hv,e⟩:=Ro a b n r f x j k;obtain⟨s,d,q,g⟩:=Qe a1 b n (lsi (r.eraseIdx v)) (lsi f) x;refine⟨v,s,d,hv,q,?_⟩
 have p:nD (.int (r.getD v 0)) (.int s)=some (.int (r.getD v 0*s),false):=by
  have:CMul (r.getD v 0) s:= .inr (by lia);show((if CMul (r.getD v 0) s then some (D.int (r.getD v 0*s)) else none).map λz=>(z,false))=_;rw[gF this];rfl
 have o:(f.map D.int).length<sizeLine:=by rw[jm];exact D9 m (by decide)
 have h:=yR (i:=3) (δ:=[stt a b,n,lsi r,lsi f,x]) (l0:=f.map .int) rfl (iT (gH e) (gH g) rfl rfl p) (l:=f.map .int) rfl o;refine(gG (tU h)).trans ?_;simp[gX,lsi]
theorem Pp(b:Bool)(n:Sl): ∀(c:List D) (a:Int) (r f:gC) (x:Sl),c.length=r.length->f.length+r.length<=5->
  ∃g t i j,t∈ny c.length r f/\uj (gx 4) fbT c [stt a b,n,lsi r,lsi f,x]=some (.nx [stt g b,n,lsi i,lsi t,j])
 |[],a,r,f,x,_,_=>⟨a,f,r,x,by simp[ny],rfl⟩
 |d::c,a,r,f,x,h,o=>by
  simp only[kT] at h;obtain⟨v,s,a1,hv,m,e⟩:=Sn a b n r f (some (d,false)) (by lia) (by lia) (by lia);obtain⟨g,t,i,j,k,l⟩:=Pp b n c a1 (r.eraseIdx v) (f++[r.getD v 0*s]) (some (d,false)) (by rw[AR,gF hv];lia) (by rw[AR,gF hv,pO];simp only[kT,rE];lia);refine⟨g,t,i,j,?_,?_⟩
  ·simp only[kT,ny,xl,rK,CD];refine⟨v,hv,?_⟩;rcases m with rfl|rfl
   ·exact .inl k
   ·exact .inr k
  ·unfold uj;rw[show gx 4 d [stt a b,n,lsi r,lsi f,x]=some [stt a b,n,lsi r,lsi f,some (d,false)] from rfl];simp only[iz];rw[e];simp only[iz];exact l
theorem Kj(n:Nat)(b:n<=5):gRg .lst true [.int 1,.int ((n:Int)+1)]=some (.lst ((st n).map .int),true):=by
 have:n=0\/n=1\/n=2\/n=3\/n=4\/n=5:=by lia
 have h1:RgOk 1 ((n:Int)+1):=by rcases this with rfl|rfl|rfl|rfl|rfl|rfl<;>decide+kernel
 have a:((n:Int)+1-1).toNat=n:=by lia
 show(if RgOk 1 ((n:Int)+1) then some (D.lst (ig 1 ((n:Int)+1-1).toNat),true) else none)=_;rw[gF h1,a,<-E9]
theorem pz{f:FO}{δ δ1:Dn}{o:Opd}{n:Nat}(h1:f δ=some (o,δ1))(a:res δ1 o=some (.int n))(e:n<=63):sA f δ=some (ig 0 n,δ1):=by
 have d:(-(2^62)<=(n:Int)/\(n:Int)<2^62):=⟨by lia,by lia⟩
 have b:jk [f] δ=some ([o],δ1):=by simp[jk,h1]
 have c:si δ1 [o]=some [.int n]:=by simp[si,a]
 unfold sA;rw[b];simp only[iz];rw[c];simp only[];rw[gF d];rfl
def ye(a:Int)(b:Bool)(n:Nat)(f:n<=5): ∃d t,t∈ny n (st n) []/\jn [(.lst [.int a,.bl b],true),(.int n,false)]=some (enc t,[stt d b,some (.int n,false)]):=by
 have c:(ig 0 n).length=n:=by simp[ig]
 have h:(st n).length=n:=by simp[st]
 obtain⟨d,t,j,k,g,e⟩:=Pp b (some (.int n,false)) (ig 0 n) a (st n) [] none (by rw[c,h]) (by rw[h];simpa using f);rw[c] at g;refine⟨d,t,g,?_⟩;refine kJ (δ:=[stt d b,some (.int n,false),lsi j,lsi t,k]) ⟨rfl,by decide,rfl⟩ ?_;refine(gG (δ1:=[stt a b,some (.int n,false),lsi (st n),none,none]) (jN (i:=2) (δ1:=[stt a b,some (.int n,false),none,none,none]) (mz (os:=[.val (.int 1,false),.val (.int ((n:Int)+1),false)]) rfl rfl (Kj n f)) (show 2<5 by decide))).trans ?_;refine(gG (δ1:=[stt a b,some (.int n,false),lsi (st n),lsi [],none]) rfl).trans ?_;refine(gG ((oY (pz (o:= .slot 1) rfl rfl (by lia))).trans e)).trans ?_;exact jt (jU (mz (os:=[.slot 3]) rfl rfl rfl))
theorem vt: ∀(k:Nat) (r f t:gC),r.length=k->t∈ny k r f->t.length=f.length+k
 |0,r,f,t,_,h=>by simp[ny] at h;subst h;simp
 |k+1,r,f,t,b,h=>by
  simp only[ny,xl,rK,CD] at h;obtain⟨v,hv,h⟩:=h;have a:(r.eraseIdx v).length=k:=by rw[AR,gF hv];lia
  rcases h with h|h
  ·have:=vt k _ _ t a h;simp at this;lia
  ·have:=vt k _ _ t a h;simp at this;lia
def JT{n:Nat}{t:gC}(h:t∈ny n (st n) []):t.length=n:=by
 have:=vt n (st n) [] t (by simp[st]) h;simpa using this
theorem yV: ∀t:List Int,D.depL (t.map .int)=0
 |[]=>by simp[D.depL]
 |s::t=>by simp[D.depL,D.dep,yV t]
theorem yT: ∀a b:List Int,D.eqbL (a.map .int) (b.map .int)=decide (a=b)
 |[],[]=>by simp[D.eqbL]
 |[],_::_=>by simp[D.eqbL]
 |_::_,[]=>by simp[D.eqbL]
 |x::a,y::b=>by simp[D.eqbL,D.eqb,yT a b,Bool.decide_and,Cu]
@[simp] theorem Aw(a b:gC):gEq (.lst (a.map .int)) (.lst (b.map .int))=some (.bl (decide (a=b)),false):=by unfold gEq;rw[gF (by simp[D.dep,yV])];simp[D.eqb,yT]
theorem B6: ∀(l m:gC),l.Nodup->(∀x∈l,x∈m)->m.length<=l.length->l.Perm m
 |[],m,_,_,h=>by
  have:m=[]:=MD.mp (by simpa using h);subst this;exact uI _
 |x::l,m,a,c,h=>by
  rw[wJ] at a;have g:=c x jB;have b:=IY g;refine((B6 l (m.erase x) a.2 (λy d=>?_) ?_).cons x).trans b.symm
  ·have f:=c y (jA _ d);have i:y≠x:=λe=>a.1 (e▸d);exact(IW i).mpr f
  ·have:=b.length_eq;simp only[kT] at this h
   lia
def J7:x∈st n↔1<=x/\x<=n:=by
 simp only[st,mO,CD];constructor
 ·rintro⟨k,h,rfl⟩;lia
 ·rintro⟨h1,a⟩;exact⟨(x-1).toNat,by lia,by lia⟩
def OR(n:Nat):(st n).Pairwise (· < ·):=by
 simp only[st];rw[oi];exact List.pairwise_lt_range.imp λh=>by lia
def OS(n:Nat):(st n).Nodup:=(OR n).imp λh=>by lia
theorem GZ{n:Nat}{l:gC}:l.Perm (st n)↔l.length=n/\(∀x∈l,1<=x/\x<=n)/\l.Nodup:=by
 constructor
 ·intro h;refine⟨by rw[h.length_eq];simp[st],λx a=>J7.mp (h.mem_iff.mp a),h.symm.nodup (OS n)⟩
 ·rintro⟨h1,b,c⟩;exact B6 l (st n) c (λx a=>J7.mpr (b x a)) (by simp[st,h1])
def Qb(n:Nat):((st n).map D.int).Pairwise (λa b=>ltT b a=false):=by
 rw[oi];refine(OR n).imp λ{a b} h=>?_;have h1: ¬b<a:=by lia
 have c: ¬b=a:=by lia
 rw[oH];simp[cT,h1,c]
theorem IK(h1:ltT (.int i) (.int j)=false)(c:ltT (.int j) (.int i)=false):i=j:=by
 rw[oH] at h1 c;simp only[cT] at h1 c;by_cases a:i<j
 ·simp[a] at h1
 ·by_cases b:j<i
  ·simp[b] at c
  ·lia
theorem IT{n:Nat}{l:gC}:lR ltT (l.map .int)=(st n).map .int↔l.Perm (st n):=by
 constructor
 ·intro h;have a:=jv ltT (l.map D.int);rw[h] at a;have:=(a.map λd=>match d with|D.int i=>i|_=>0)
  simp only[ir] at this;have e:((λd=>match d with|D.int i=>i|_=>0)∘D.int)=id:=rfl;rw[e,nH,nH] at this;exact this.symm
 ·intro h;refine Jh (λx y c f h1 b=>?_) (qG _) (Qb n) ((jv ltT _).trans (h.map _));obtain⟨i,_,rfl⟩:=mO.mp ((jv ltT (l.map D.int)).mem_iff.mp c);obtain⟨j,_,rfl⟩:=mO.mp f;rw[IK b h1]
def ui{l:gC}{m:List D}(h:m.Perm (l.map D.int)): ∃k:List Int,m=k.map .int:=by
 refine⟨m.map λd=>match d with|D.int i=>i|_=>0,?_⟩;rw[ir]
 symm
 rw[nh (g:=id),nH];intro d hd;obtain⟨i,_,rfl⟩:=mO.mp (h.mem_iff.mp hd);rfl
theorem vS(l:gC):qe (l.map .int)=true:=by
 unfold qe
 cases l with
 |nil=>rfl
 |cons x l=>
  rw[AU];right;simp only[jw];simp[jZ,D.pr,D.dep,lM]
def Cf(l:gC)(a:l.length<64):mT (.lst (l.map .int))=some (.lst (lR ltT (l.map .int)),true):=by
 simp only[mT,rL,iz,kH];rw[gF ⟨vS l,by first|(simpa using a)|(rw[iB];simp;lia)⟩]
def HM(l:gC)(n:Nat):gEq (.lst (lR ltT (l.map .int))) (.lst (ig 1 n))=some (.bl (decide (l.Perm (st n))),false):=by
 obtain⟨k,e⟩:=ui (jv ltT (l.map D.int));rw[<-E9,e,Aw]
 have:k=st n↔l.Perm (st n):=by
  rw[<-IT,e];constructor
  ·intro h;rw[h]
  ·intro h;have:=lP (List.map λd=>match d with|D.int i=>i|_=>0) h;simp only[ir] at this;have e:((λd=>match d with|D.int i=>i|_=>0)∘D.int)=id:=rfl;rw[e,nH,nH] at this;exact this
 simp only[this]
theorem Ab: ∀l:List Int,(∀k,(lU (l.reverse.map .int)).1 k=decide (k∈l.reverse))/\(lU (l.reverse.map .int)).2<=l.length/\((lU (l.reverse.map .int)).2=l.length↔l.Nodup)
 |[]=>⟨λk=>by simp[lU],by simp[lU],by simp[lU]⟩
 |x::l=>by
  obtain⟨h1,d,c⟩:=Ab l;rw[xK,vL,jw,oo,Ac];refine⟨λk=>?_,?_,?_⟩
  ·dsimp only;rw[h1 k];by_cases a:k∈l.reverse<;>by_cases b:k=x<;>simp_all
  ·dsimp only;rw[kT];split<;>lia
  ·dsimp only;rw[h1 x,wJ];by_cases a:x∈l
   ·simp only[List.mem_reverse,a,decide_true,ja,not_true_eq_false,false_and,iff_false,kT];lia
   ·simp only[List.mem_reverse,a,decide_false,jY,jl,not_false_eq_true,true_and,kT];rw[<-c];lia
def MT(l:gC):(lU (l.map .int)).2=l.length↔l.Nodup:=by
 have:=(Ab l.reverse).2.2;rw[List.reverse_reverse,A6,xv l |>.nodup_iff] at this;exact this
theorem BD(pre:Dn)(x:Sl)(d:D):gx pre.length d (pre++[x])=some (pre++[some (d,false)]):=by
 unfold gx;rw[gF (by simp)];simp[List.set_append]
theorem zc(f:F)(g:D->D)(pre:Dn): ∀(l a:List D) (x:Sl),(∀d∈l,∃o,f (pre++[some (d,false)])=some ((g d,o),pre++[some (d,false)]))->a.length+l.length<=sizeLine->
  ∃b,jI (gx pre.length) iX (iH f) l a (pre++[x])=some (a++l.map g,pre++[b])
 |[],a,x,_,_=>⟨x,by simp[jI]⟩
 |d::l,a,x,h,c=>by
  obtain⟨o,hd⟩:=h d jB;obtain⟨b,e⟩:=zc f g pre l (a++[g d]) (some (d,false)) (λi j=>h i (jA _ j)) (by simp at c ⊢;omega);refine⟨b,?_⟩;have k:a.length<sizeLine:=by simp at c;omega
  rw[jI,BD];simp only[iz,qO,ja,oZ];rw[hd];simp only[iz];rw[gF k];simp only[iz];rw[e];simp
theorem Mv(f:F)(g:D->Int)(pre:Dn): ∀(l a:List D) (x:Sl),(∀d∈l,∃o,f (pre++[some (d,false)])=some ((.int (g d),o),pre++[some (d,false)]))->a.length+l.length<=1000->
  ∃b,jI (gx pre.length) iX (zg f) l a (pre++[x])=some (a++l.map λd=> .int (g d),pre++[b])
 |[],a,x,_,_=>⟨x,by simp[jI]⟩
 |d::l,a,x,h,c=>by
  obtain⟨o,hd⟩:=h d jB;obtain⟨b,e⟩:=Mv f g pre l (a++[.int (g d)]) (some (d,false)) (λi j=>h i (jA _ j)) (by simp at c ⊢;omega);refine⟨b,?_⟩;have m:scanBound=4096:=rfl;have k:a.length+1<scanBound:=by simp at c;omega
  rw[jI,BD];simp only[iz,qO,ja,zg];rw[hd];simp only[iz];rw[gF k];simp only[iz];rw[e];simp
theorem AI(p:D->Bool): ∀l:List D,nR (l.map λd=> .bl (p d))=some (l.map p)
 |[]=>rfl
 |d::l=>by simp[nR,AI p l]
theorem sN(p:D->Bool)(l:List D):DL (.lst (l.map λd=> .bl (p d)))=some (.bl (l.all p),false):=by
 simp[DL,AI,List.all_map,Function.comp_def]
def ab(s:Int):Int:=if s<0 then -s else s
def wh:D->Bool
 | .int _=>true
 |_=>false
def sg(n:Int):D->Bool
 | .int s=>decide (1<=ab s)&&decide (ab s<=n)
 |_=>false
def iOf:D->Int
 | .int s=>s
 |_=>0
theorem tJ(d:D):mC [(d,false)]=some ((.bl (wh d),false),[some (d,false)]):=by
 cases d<;>simp[mC,qp,evF,gZ,wh,isT]
theorem Io(d:D):jh [(d,false)]=some ((.bl (wh d),false),[some (d,false)]):=by
 cases d<;>simp[jh,lW,evF,gZ,wh,isT]
theorem Ik(d:D)(lo a:Int):lL [(d,false),(.int lo,false),(.int a,false)]=some ((.bl (match d with| .int s=>decide (lo<=s)&&decide (s<=a)|_=>false),false),[some (d,false),some (.int lo,false),some (.int a,false)]):=by
 cases d with
 |int s=>by_cases h:lo<=s<;>simp[lL,mV,evF,gZ,tJ,wh,gP,wb,vE,jF,h]
 |_=>simp[lL,mV,evF,gZ,tJ,wh,gP,wb]
theorem G9(d:D)(n:Int):pH [(.int n,false),(d,false)]=some ((.bl (match d with| .int s=>decide (1<=s)&&decide (s<=n)|_=>false),false),[some (.int n,false),some (d,false)]):=by
 simp[pH,sD,evF,gZ,Ik,gP,wb]
theorem MR(n:Int)(d:D):lY [(.int n,false),(d,false)]=some ((.bl (sg n d),false),[some (.int n,false),some (d,false)]):=by
 cases d with
 |int s=>
  simp[lY,pE,evF,gZ,tJ,G9,wh,gP,wb,sg,ab];rfl
 |_=>simp[lY,pE,evF,gZ,tJ,G9,wh,gP,wb,sg,ab]
theorem Fe(h:sg n d=true):d= .int (iOf d):=by cases d<;>simp_all [sg,iOf]
theorem EX(h:wh d=true):d= .int (iOf d):=by cases d<;>simp_all [wh,iOf]
def tB(n:Nat):D->Bool
 | .tup l=>decide (l.length=n)&&(l.all (sg n)&&decide ((l.map λd=>ab (iOf d)).Nodup))
 |_=>false
def lB(n:Nat):D->Bool
 | .tup l=>l.all wh&&decide ((l.map λd=>ab (iOf d)).Perm (st n))
 |_=>false
theorem J3(n:Nat)(d:D):tB n d=lB n d:=by
 cases d with
 |tup l=>
  rw[tB,lB,Bool.eq_iff_iff];simp only[kZ,uN,md,GZ,jm,mO];constructor
  ·rintro⟨h1,a,b⟩;refine⟨λd hd=>?_,h1,?_,b⟩
   ·rw[Fe (a d hd)];rfl
   ·rintro x ⟨d,hd,rfl⟩;have:=a d hd;rw[Fe this] at this;simpa[sg] using this
  ·rintro⟨h1,a,b,c⟩;refine⟨a,λd hd=>?_,c⟩;have:=b _ ⟨d,hd,rfl⟩;rw[EX (h1 d hd)];simpa[sg] using this
 |_=>rfl
theorem qb(n:Nat)(d:D)(hd: ∀l,d= .tup l->l.length<=60):iM [(.int n,false),(d,false)]=some ((.bl (tB n d),false),[some (.int n,false),some (d,false)]):=by
 cases d with
 |tup l=>
  have i:=hd l rfl;by_cases h1:l.length=n
  ·obtain⟨x1,b⟩:=zc (gA lY [gk 0,gk 1]) (λd=> .bl (sg n d)) [some (.int n,false)] l [] none (λd _=>⟨false,by simp[MR,gP,wb]⟩) (by rw[iB];simp;omega);simp only[sd,rB,kT,rE,vN] at b;by_cases a:l.all (sg n)=true
   ·have h: ∀d∈l,∃o,gJ (g1 pD) [gk 0] ([]++[some (d,false)])=some ((.int (ab (iOf d)),o),([]++[some (d,false)]:Dn)):=λd hd=>⟨false,by
     rw[md] at a;rw[Fe (a d hd)];rfl⟩
    obtain⟨x2,c⟩:=Mv (gJ (g1 pD) [gk 0]) (λd=>ab (iOf d)) [] l [] none h (by simp;omega);simp only[sd,rB,kT,rE] at c
    have e:(lU (l.map λd=>D.int (ab (iOf d)))).2=l.length↔(l.map λd=>ab (iOf d)).Nodup:=by
     have:=MT (l.map λd=>ab (iOf d));rw[ir,jm] at this;exact this
    have g:(((lU (l.map λd=>D.int (ab (iOf d)))).2:Int)==(n:Int))=decide ((l.map λd=>ab (iOf d)).Nodup):=by
     rw[Cu,<-h1];by_cases q:(l.map λd=>ab (iOf d)).Nodup
     ·rw[xG q,e.mpr q];simp
     ·rw[ou q];simp only[decide_eq_false_iff_not,Int.natCast_inj];exact λz=>q (e.mp z)
    simp[iM,kr,evF,isT,h1,iC,qY,jJ,b,c,sN,a,gZ,gP,wb,tB,g]
   ·have f:l.all (sg n)=false:=by simpa using a
    simp[iM,kr,evF,isT,h1,iC,qY,jJ,b,sN,f,gZ,gP,wb,tB]
  ·have: ¬((l.length:Int)=(n:Int)):=by omega
   simp[iM,kr,evF,isT,this,h1,gZ,gP,wb,tB]
 |_=>simp[iM,kr,evF,isT,gZ,tB]
def MX(n:Nat)(a:n<=5):gRg .lst true [.int 1,.int ((n:Int)+1)]=some (.lst (ig 1 n),true):=by rw[Kj n a,E9]
def wC(n:Nat)(q:n<=5)(d:D)(hd: ∀l,d= .tup l->l.length<=60):iG [(.int n,false),(d,false)]=some ((.bl (lB n d),false),[some (.int n,false),some (d,false)]):=by
 cases d with
 |tup l=>
  have r:=hd l rfl;obtain⟨x1,b⟩:=zc (gA jh [gk 0]) (λd=> .bl (wh d)) [] l [] none (λd _=>⟨false,by simp[Io,gP,wb]⟩) (by rw[iB];simp;omega);simp only[sd,rB,kT,rE,vN] at b;by_cases a:l.all wh=true
  ·have p: ∀d∈l,∃o,gJ (g1 pD) [gk 0] ([]++[some (d,false)])=some ((.int (ab (iOf d)),o),([]++[some (d,false)]:Dn)):=λd hd=>⟨false,by
    rw[md] at a;rw[EX (a d hd)];rfl⟩
   obtain⟨x2,c⟩:=zc (gJ (g1 pD) [gk 0]) (λd=> .int (ab (iOf d))) [] l [] none p (by rw[iB];simp;omega);simp only[sd,rB,kT,rE] at c;have k:(l.map λd=>D.int (ab (iOf d)))=(l.map λd=>ab (iOf d)).map .int:=by rw[ir];rfl
   have e:=Cf (l.map λd=>ab (iOf d)) (by simp;omega);have f:=HM (l.map λd=>ab (iOf d)) n;rw[<-k] at e f
   have h:iC [] 1 (jP (jJ 1)) (gx 0) iX (iH (gA jh [(gk 0)])) [some (.int n,false),some (.tup l,false)]=some ((.lst (l.map λd=> .bl (wh d)),true),[some (.int n,false),some (.tup l,false)]):=by
    simp[iC,jJ,b,gP,wb]
   have i:iC [] 1 (jP (jJ 1)) (gx 0) iX (iH (gJ (g1 pD) [(gk 0)])) [some (.int n,false),some (.tup l,false)]=some ((.lst (l.map λd=> .int (ab (iOf d))),true),[some (.int n,false),some (.tup l,false)]):=by
    simp only[iC,jJ,wN,List.getElem?_cons_succ,List.getElem?_cons_zero,iz,List.set_cons_succ,List.set_cons_zero,oo,Ah,gP,sO,ja,rB,tf,List.replicate_zero];rw[c];rfl
   have j:gJ (g1 DL) [(gn (iC [] 1 (jP (jJ 1)) (gx 0) iX (iH (gA jh [(gk 0)]))))] [some (.int n,false),some (.tup l,false)]=some ((.bl true,false),[some (.int n,false),some (.tup l,false)]):=
    mz (sJ (gH h)) rfl ((sN wh l).trans (by rw[a]))
   have m:lB n (.tup l)=decide ((l.map λd=>ab (iOf d)).Perm (st n)):=by rw[lB,a,Bool.true_and]
   rw[m];refine kJ (δ:=[some (.int n,false),some (.tup l,false)]) ⟨rfl,by decide,rfl⟩ ?_;refine(gG (δ1:=[some (.int n,false),some (.tup l,false)]) ((vT (FX (δ1:=[some (.int n,false),some (.tup l,false)]) rfl |>.trans (qt (oO j)))).trans rfl)).trans ?_;exact jt (jU (iT (gH (mz (sJ (gH i)) rfl e)) (gH (mz (os:=[.val (.int 1,false),.val (.int ((n:Int)+1),false)]) rfl rfl (MX n q))) rfl rfl f))
  ·have g:l.all wh=false:=by simpa using a
   simp[iG,kB,evF,isT,iC,jJ,b,sN,g,gZ,gP,wb,lB]
 |_=>simp[iG,kB,evF,isT,gZ,lB]
def OkD(d:D):Prop:= ∀l,d= .tup l->l.length<=60
theorem ixl(a:0<=v)(h:v<L.length):gIx (.lst L) (.int v)=some (L.getD v.toNat .non,false):=by
 have h1:v.toNat<L.length:=by lia
 simp[gIx,atI,ixN,a,h,h1]
theorem ixi{t:gC}{v:Int}(a:0<=v)(h:v<t.length):gIx (.tup (t.map .int)) (.int v)=some (.int (t.getD v.toNat 0),false):=by
 have h1:v.toNat<t.length:=by lia
 simp[gIx,atI,ixN,a,h,h1]
def Uq{t:gC}{v:Int}(a:0<=v)(h:v<t.length):gIx (.lst (t.map .int)) (.int v)=some (.int (t.getD v.toNat 0),false):=by
 have h1:v.toNat<t.length:=by lia
 simp[gIx,atI,ixN,a,h,h1]
def zj{P:D->Prop}{L:List D}(a:P .non)(h: ∀d∈L,P d)(k:Nat):P (L.getD k .non):=by
 rw[kh]
 cases e:L[k]? with
 |none=>exact a
 |some d=>exact h d (tw e)
def BV:OkD .non:=λl h=>by cases h
theorem UI(h1:l.length<=1000)(a:m.length<=1000):kD (.tup l) (.tup m)=some (.tup (l++m),false):=by
 simp only[kD];rw[gF (by rw[iB];lia)]
theorem OF(h1:l.length<=1000)(a:m.length<=1000):kD (.lst l) (.lst m)=some (.lst (l++m),true):=by
 simp only[kD];rw[gF (by rw[iB];lia)]
def FC:List D:=[.non,.bl true,.bl false,.int (-1),.int 0,.int 1,.str "",.str "1",.tup [],.lst [],.tup [.bl true],.lst [.int 1],.oth .dct [.int 0] [.int 1],.tup [.non],.tup [.tup [.int 1]],.int 100000000000000000000000000000,.tup [.int 0],.tup [.int 1,.int 2]]
def Ii: ∀d∈FC,OkD d:=by
 intro d hd;simp only[FC,jM,kx,lD] at hd;rcases hd with rfl|rfl|rfl|rfl|rfl|rfl|rfl|rfl|rfl|rfl|rfl|rfl|rfl|rfl|rfl|rfl|rfl|rfl<;>intro l h<;>cases h<;>decide
def lj(a:Int)(b:Bool)(m:Int)(j:0<m)(f:m<1073741824): ∃v c,0<=v/\v<m/\ ∀(d:FO) (δ:Dn) (o:Opd),d (stt a b::δ)=some (o,stt a b::δ)->uB (stt a b::δ) o=some (.int m,false)->gA gD [gk 0,d] (stt a b::δ)=some ((.int v,false),stt c b::δ):=by
 obtain⟨v,c,g,h1,e⟩:=qD a b m j f;refine⟨v,c,g,h1,λd δ o h i=>?_⟩;refine(kb (os:=[.slot 0,o]) (args:=[(.lst [.int a,.bl b],true),(.int m,false)]) (lu rfl h) ?_ ?_ e).trans ?_
 ·simp[i]
 ·cases o<;>simp[gP]
 ·cases o<;>simp[wb]
def RU(a:Int)(b:Bool): ∃c d,OkD d/\pF [(.lst [.int a,.bl b],true)]=some ((d,false),[stt c b]):=by
 obtain⟨v,c,f,h1,e⟩:=lj a b 18 (by lia) (by lia);refine⟨c,FC.getD v.toNat .non,zj BV Ii _,?_⟩;refine kJ (δ:=[stt c b,some (.lst (FC.take 16),true)]) ⟨rfl,by decide,rfl⟩ ?_;refine(gG (δ1:=[stt a b,some (.lst (FC.take 16),true)]) ?_).trans ?_
 ·simp[Pc,iB,Ho,FC]
 ·refine jt (jU (iT (o1:= .val (.lst FC,true)) (o2:= .val (.int v,false)) (gH (δ1:=[stt a b,some (.lst (FC.take 16),true)]) (iT (o1:= .slot 1) (o2:= .val (.lst [.tup [.int 0],.tup [.int 1,.int 2]],true)) rfl (gH ?_) rfl rfl ?_)) (gH (e _ _ _ rfl rfl)) rfl rfl (ixl f (by simpa[FC] using h1))))
  ·simp[iB]
  ·exact OF (by decide) (by decide)
def Cp(l:List D)(lo a:Option Int):(oP l lo a).length<=l.length:=by
 unfold PX.oP;rw[tD,EE];lia
def rY(t:gC)(i:Int)(x:D):List D:=
  [.tup (oP (t.map .int) none (some i)++[x]++oP (t.map .int) (some (i+1)) none),.tup (oP (t.map .int) none (some i)++[x]++oP (t.map .int) (some i) none),.lst (t.map .int),.tup [.tup (t.map .int)],
   .tup (oP (t.map .int) none (some i)++oP (t.map .int) (some (i+1)) none),.tup (t.map .int++[.int (t.length+1)]),.tup (t.map D.int).reverse,.tup (t.map .int++oP (t.map .int) none (some 1))]
def Lk(t:gC)(c:t.length<=5)(i:Int)(x:D): ∀d∈rY t i x,OkD d:=by
 intro d hd;have a: ∀lo b,(oP (t.map D.int) lo b).length<=5:=λlo b=>mw (Cp _ _ _) (by simpa using c);have e:=a none (some i);have f:=a (some (i+1)) none;have g:=a (some i) none;have j:=a none (some 1);simp only[rY,jM,kx,lD] at hd;rcases hd with rfl|rfl|rfl|rfl|rfl|rfl|rfl|rfl<;>intro l h<;>cases h<;>simp<;>lia
def b0L:List D:=[.tup [.int 0],.tup [.int 1],.lst [],.non,.tup [.tup []],.tup [.bl true]]
def RQ: ∀d∈b0L,OkD d:=by
 intro d hd;simp only[b0L,jM,kx,lD] at hd;rcases hd with rfl|rfl|rfl|rfl|rfl|rfl<;>intro l h<;>cases h<;>decide
def Ox(a:Int)(b:Bool)(t:gC)(H:t.length<=5): ∃l d,OkD d/\iE [(.lst [.int a,.bl b],true),enc t]=some ((d,false),[stt l b,some (enc t)]):=by
 by_cases r:t.length=0
 ·have:t=[]:=MD.mp r;subst this;obtain⟨v,l,G,h1,e⟩:=lj a b 6 (by lia) (by lia);refine⟨l,b0L.getD v.toNat .non,zj BV RQ _,?_⟩;refine kJ (δ:=[stt l b,some (enc []),some (.int 0,false),none,none,none,none]) ⟨rfl,by decide,rfl⟩ ?_;refine(gG (δ1:=[stt a b,some (enc []),some (.int 0,false),none,none,none,none]) rfl).trans ?_;refine jt ((Ae (δ1:=[stt a b,some (enc []),some (.int 0,false),none,none,none,none]) (by simp)).trans ?_);refine jt (jU (iT (o1:= .val (.lst b0L,true)) (o2:= .val (.int v,false)) (gH (δ1:=[stt a b,some (enc []),some (.int 0,false),none,none,none,none]) ?_) (gH (e _ _ _ rfl rfl)) rfl rfl (ixl G (by simpa[b0L] using h1))));simp[iB,b0L]
 ·have s:(0:Int)<t.length:=by lia
  obtain⟨i,a1,I,J,A⟩:=lj a b t.length s (by lia);obtain⟨j,m,M,N,B⟩:=lj a1 b t.length s (by lia);obtain⟨w,f,T,U,C⟩:=lj m b 11 (by lia) (by lia);obtain⟨v,n,O,Q,E⟩:=lj f b 10 (by lia) (by lia)
  let c:List D:=[.int 0,.int (t.length+1),.int (-t.length-1),.bl true,.non,.str "1",.tup [.int 1],.int (t.getD j.toNat 0),.int (-(t.getD j.toNat 0)),.int (-(t.getD i.toNat 0)),.int 100000000000000000000000000000]
  let x:=c.getD w.toNat .non
  let k:List Int:=[0,0,0,1,2,3,4,5,6,7]
  let q:=k.getD v.toNat 0
  have u:0<=q/\q<8:=by
   have:v.toNat=0\/v.toNat=1\/v.toNat=2\/v.toNat=3\/v.toNat=4\/v.toNat=5\/v.toNat=6\/v.toNat=7\/v.toNat=8\/v.toNat=9:=by lia
   rcases this with h|h|h|h|h|h|h|h|h|h<;>simp[q,k,h]
  have p: ∀lo g,(oP (t.map D.int) lo g).length<=1000:=λlo g=>mw (Cp _ _ _) (by simp;lia);have z: ∀lo g,(oP (t.map D.int) lo g).length<=999:=λlo g=>mw (Cp _ _ _) (by simp;lia);have o:t.length<=1000:=by lia
  refine⟨n,(rY t i x).getD q.toNat .non,zj BV (Lk t H i x) _,?_⟩;refine kJ (δ:=[stt n b,some (enc t),some (.int t.length,false),some (.int i,false),some (.int j,false),some (x,false),some (.lst (rY t i x),true)]) ⟨rfl,by decide,rfl⟩ ?_;refine(gG (δ1:=[stt a b,some (enc t),some (.int t.length,false),none,none,none,none]) (by simp)).trans ?_;refine(gG (δ1:=[stt a b,some (enc t),some (.int t.length,false),none,none,none,none]) ((vT (by simp[r])).trans rfl)).trans ?_;refine(gG (δ1:=[stt m b,some (enc t),some (.int t.length,false),some (.int i,false),some (.int j,false),none,none]) ?_).trans ?_
  ·unfold MW;simp only[jw,oo];rw[lu (gH (A _ _ _ rfl rfl)) (gH (B _ _ _ rfl rfl))];rfl
  refine(gG (δ1:=[stt m b,some (enc t),some (.int t.length,false),some (.int i,false),some (.int j,false),some (.lst c,true),none]) ?_).trans ?_
  ·simp[ixi I J,ixi M N,Pc,iB,c]
  refine(gG (δ1:=[stt f b,some (enc t),some (.int t.length,false),some (.int i,false),some (.int j,false),some (x,false),none]) ?_).trans ?_
  ·exact jN (i:=5) (δ1:=[stt f b,some (enc t),some (.int t.length,false),some (.int i,false),some (.int j,false),some (.lst c,true),none]) (iT (o1:= .slot 5) (o2:= .val (.int w,false)) rfl (gH (C _ [some (enc t),some (.int t.length,false),some (.int i,false),some (.int j,false),some (.lst c,true),none] _ rfl rfl)) rfl rfl (ixl (L:=c) T (by simpa[c] using U))) (show 5<7 by decide)
  refine(gG (δ1:=[stt f b,some (enc t),some (.int t.length,false),some (.int i,false),some (.int j,false),some (x,false),some (.lst ((rY t i x).take 4),true)]) ?_).trans ?_
  ·generalize x=y;simp[qr,wj,gSl,UI,p,z,o,iB,rY,jJ]
  refine(gG (δ1:=[stt f b,some (enc t),some (.int t.length,false),some (.int i,false),some (.int j,false),some (x,false),some (.lst (rY t i x),true)]) ?_).trans ?_
  ·generalize x=y;simp[qr,wj,gSl,UI,OF,p,z,o,iB,rY,jJ,Mc,Uu]
  refine jt (jU (iT (o1:= .slot 6) (o2:= .val (.int q,false)) rfl (gH (iT (o1:= .val (.lst (k.map .int),true)) (o2:= .val (.int v,false)) (gH (δ1:=[stt f b,some (enc t),some (.int t.length,false),some (.int i,false),some (.int j,false),some (x,false),some (.lst (rY t i x),true)]) ?_) (gH (E _ _ _ rfl rfl)) rfl rfl ?_)) rfl rfl (ixl u.1 (by simpa[rY] using u.2))))
  ·simp[iB,k]
  ·exact Uq O (by simpa[k] using Q)
def led(u:gC)(s:Int):Int:=if 0<s then u.getD (s-1).toNat 0 else -(u.getD (-s-1).toNat 0)
def R0(u:gC)(s:Int)(a:s≠0)(h1: -(u.length:Int)<=s)(b:s<=u.length):
  mB [enc u,(.int s,false)]=some ((.int (led u s),false),[some (enc u),some (.int s,false)]):=by
 simp only[mB,qm];by_cases h:0<s
 ·have:=ixi (t:=u) (v:=s-1) (by omega) (by omega);simp only[evF];simp[h,led,this,gZ]
 ·have:=ixi (t:=u) (v:= -s-1) (by omega) (by omega);simp only[evF];simp[h,led,this,gZ]
theorem Ui(x:Int):nD (.int x) (.int 1)=some (.int x,false):=by
 have:CMul x 1:= .inr (by omega);show((if CMul x 1 then some (D.int (x*1)) else none).map λz=>(z,false))=_;rw[gF this,xR];rfl
theorem Uh(x:Int):nD (.int x) (.int (-1))=some (.int (-x),false):=by
 have:CMul x (-1):= .inr (by omega);show((if CMul x (-1) then some (D.int (x*(-1))) else none).map λz=>(z,false))=_;rw[gF this,Int.mul_neg,xR];rfl
theorem pm0:gIx (.lst [.int 1,.int (-1)]) (.int 0)=some (.int 1,false):=rfl
theorem pm1:gIx (.lst [.int 1,.int (-1)]) (.int 1)=some (.int (-1),false):=rfl
def NY(u:gC)(s:Int)(b:s≠0)(h1: -(u.length:Int)<=s)(c:s<=u.length):
  ip [enc u,(.int s,false)]=some ((.int (led u s),false),[some (enc u),some (.int s,false)]):=by
 simp only[ip,kW];by_cases h:0<s
 ·have:=ixi (t:=u) (v:=s-1) (by omega) (by omega);have a: ¬s<0:=by omega
  simp only[evF];simp[h,a,led,this,gZ,iB,pm0,Ui]
 ·have:=ixi (t:=u) (v:= -s-1) (by omega) (by omega);have a:s<0:=by omega
  simp only[evF];simp[h,a,led,this,gZ,iB,pm1,Uh]
def yf(a:Int)(b:Bool)(m:Int)(l:0<m)(h:m<1073741824): ∃v f,0<=v/\v<m/\ ∀(g:FO) (c d:Sl) (δ:Dn) (o:Opd),g (c::d::stt a b::δ)=some (o,c::d::stt a b::δ)->uB (c::d::stt a b::δ) o=some (.int m,false)->gA gD [gk 2,g] (c::d::stt a b::δ)=some ((.int v,false),c::d::stt f b::δ):=by
 obtain⟨v,f,i,h1,e⟩:=qD a b m l h;refine⟨v,f,i,h1,λg c d δ o j k=>?_⟩;refine(kb (os:=[.slot 2,o]) (args:=[(.lst [.int a,.bl b],true),(.int m,false)]) (lu rfl j) ?_ ?_ e).trans ?_
 ·simp[k]
 ·cases o<;>simp[gP]
 ·cases o<;>simp[wb]
def CW(a:Int)(b:Bool)(n:Nat)(l:n<=5): ∃t g,t∈ny n (st n) []/\ ∀(h:FO) (d f:Sl) (c δ:Dn) (o:Opd),h c=some (o,d::f::stt a b::δ)->gk 2 c=some (.slot 2,c)->uB (d::f::stt a b::δ) o=some (.int n,false)->gA jn [gk 2,h] c=some (enc t,d::f::stt g b::δ):=by
 obtain⟨g,t,m,e⟩:=ye a b n l;refine⟨t,g,m,λh d f c δ o i k j=>?_⟩;refine(kb (os:=[.slot 2,o]) (args:=[(.lst [.int a,.bl b],true),(.int n,false)]) (lu k i) ?_ ?_ e).trans ?_
 ·simp[j]
 ·cases o<;>simp[gP]
 ·cases o<;>simp[wb]
theorem HD(b:Bool)(t:gC)(l:t.length<=5): ∀(ds c:List D) (a:Int) (x:Sl),(∀d∈c,OkD d)->c.length+ds.length<=1000->
  ∃i g j,(∀d∈g,OkD d)/\g.length=c.length+ds.length/\jI (gx 2) iX (iH (gA iE [gk 0,gk 1])) ds c [stt a b,some (enc t),x]=some (g,[stt i b,some (enc t),j])
 |[],c,a,x,h,_=>⟨a,c,x,h,by simp,rfl⟩
 |d::ds,c,a,x,h,k=>by
  obtain⟨a1,z,r,n⟩:=Ox a b t l
  obtain⟨i,g,j,p,m,e⟩:=HD b t l ds (c++[z]) a1 (some (d,false)) (λy f=>by
   rcases rK.mp f with f|f
   ·exact h y f
   ·simp at f;subst f;exact r) (by simp at k ⊢;omega)
  refine⟨i,g,j,p,by simp at m ⊢;omega,?_⟩;have q:c.length<sizeLine:=by rw[iB];simp at k;omega
  have o:gA iE [gk 0,gk 1] [stt a b,some (enc t),some (d,false)]=some ((z,false),[stt a1 b,some (enc t),some (d,false)]):=
   kb (δ1:=[stt a b,some (enc t),some (d,false)]) (os:=[.slot 0,.slot 1]) (args:=[(.lst [.int a,.bl b],true),enc t]) rfl rfl (show([0]:List Nat).Nodup by decide) n
  rw[jI,show gx 2 d [stt a b,some (enc t),x]=some [stt a b,some (enc t),some (d,false)] from rfl];simp only[iz,qO,ja,oZ];rw[o];simp only[iz];rw[gF q];exact e
def Au(h:f δ=some ((.lst l,o),δ1)):jP f δ=some (l,δ1):=by unfold jP;rw[h];rfl
def ClOk(n:Nat)(c:gC):Prop:=c≠[]/\(c.map ab).Pairwise (· < ·)/\ ∀s∈c,1<=ab s/\ab s<=n
def CA(j:Int)(c:gC):Prop:=(c.map ab).Pairwise (· < ·)/\ ∀s∈c,1<=ab s/\ab s<j
theorem oh(h:0<=i):ab i=i:=by unfold ab;rw[hJ (by omega)]
theorem zm(h:0<=i):ab (-i)=i:=by unfold ab;split<;>omega
def CA.snoc{j s:Int}{c:gC}(h:CA j c)(h1:ab s=j)(e:1<=j):CA (j+1) (c++[s]):=by
 refine⟨?_,λx a=>?_⟩
 ·rw[vL,uF];refine⟨h.1,by simp,λx a y b=>?_⟩;obtain⟨z,d,rfl⟩:=mO.mp a;simp at b;subst b;have:=h.2 z d;omega
 ·rcases rK.mp a with a|a
  ·have:=h.2 x a;omega
  ·simp at a;subst a;omega
theorem CA.up(h:CA j c):CA (j+1) c:=⟨h.1,λx a=>by have:=h.2 x a;omega⟩
def FY{i:Nat}{f:F}{a δ1:Dn}{r:D×Bool}{l0 l:List D}(b:a[i]?=some (some (.lst l0,true)))(h1:f a=some (r,δ1))(c:δ1[i]?=some (some (.lst l,true)))(d:l.length<=10000):
  gB (oD (lK i f)) gX a=some (.nx (δ1.set i (some (.lst (l++[r.1]),true)))):=
 (gG (tU (yR b h1 c (wL d)))).trans rfl
theorem N8(h1:f δ=some (o1,δ1))(a:g δ1=some (o2,δ2))(b:res δ2 o1=some (.int i))(c:res δ2 o2=some (.int j))(d:0<=i/\i<=1000)(e:0<=j/\j<=1000):FQ f g δ=some (ig i (j-i).toNat,δ2):=by
 unfold FQ;rw[lu h1 a];simp only[iz,Qo,MY,b,c];rw[gF ⟨by omega,by omega,by omega,by omega⟩]
theorem FF{b:Type}[BEq b][LawfulBEq b]: ∀(l m:List b),l.Nodup->(∀x∈l,x∈m)->l.length<=m.length
 |[],m,_,_=>mF _
 |x::l,m,a,c=>by
  rw[wJ] at a;have i:=c x jB;have h:=IY i
  have:=FF l (m.erase x) a.2 (λy d=>by
   have f:=c y (jA _ d);have j:y≠x:=λe=>a.1 (e▸d);exact(IW j).mpr f)
  have g:=h.length_eq;simp only[kT] at g ⊢;omega
def GR{l:gC}(h:l.Pairwise (· < ·)):l.Nodup:=h.imp λh=>by omega
theorem ClOk.len{n:Nat}{c:gC}(h:ClOk n c):c.length<=n:=by
 have:=FF (c.map ab) (st n) (GR h.2.1) (λx b=>by
  obtain⟨s,a,rfl⟩:=mO.mp b;exact J7.mpr (h.2.2 s a))
 simpa[st] using this
def TOk(n:Nat)(t:gC):Prop:=t.length=n/\ ∀x∈t,1<=ab x/\ab x<=n
theorem ng(i:Int):ab (-i)=ab i:=by unfold ab;split<;>split<;>omega
def kn{l:gC}{k:Nat}(h:k<l.length):l.getD k 0∈l:=by
 rw[kh,iW h];exact List.getElem_mem h
def R3{n:Nat}{t:gC}(b:TOk n t){s:Int}(h1:1<=ab s)(a:ab s<=n):1<=ab (led t s)/\ab (led t s)<=n:=by
 unfold led;unfold ab at h1 a;have c:=b.1;split
 ·rename_i h;rw[hJ (by omega)] at h1 a;exact b.2 _ (kn (by omega))
 ·rename_i h;rw[ng];split at h1
  ·rw[gF (by assumption)] at a;exact b.2 _ (kn (by omega))
  ·omega
abbrev cD(c:gC):D:= .tup (c.map .int)
theorem F3(c:gC):D.dep (cD c)=1:=by simp[D.dep,yV]
theorem Co: ∀a:List (List Int),D.depL (a.map cD)<=1
 |[]=>by simp[D.depL]
 |c::a=>by
  have:=Co a;simp only[jw,D.depL,F3];omega
theorem Mh(a b:gC):D.eqb (cD a) (cD b)=decide (a=b):=by simp[D.eqb,yT]
theorem My(c:gC): ∀a:List (List Int),(a.map cD).any (λd=>D.eqb d (cD c))=decide (c∈a)
 |[]=>by simp
 |x::a=>by
  simp only[jw,uS,My c a,Mh,jM];by_cases h:x=c
  ·simp[h]
  ·have: ¬c=x:=λe=>h e.symm;simp[h,this]
def zk:Nat->List (List Int)
 |0=>[[]]
 |k+1=>zk k++((zk k).map λc=>c++[((k:Int)+1)])++((zk k).map λc=>c++[-((k:Int)+1)])
theorem uC: ∀(k:Nat) (c:gC),(c.map ab).Pairwise (· < ·)->(∀s∈c,1<=ab s/\ab s<=k)->c∈zk k
 |0,c,_,h=>by
  cases c with
  |nil=>simp[zk]
  |cons s c=>have:=h s jB;omega
 |k+1,c,b,h=>by
  simp only[zk,rK,mO];by_cases d:c=[]
  ·subst d;exact .inl (.inl (uC k [] (by simp) (by simp)))
  ·have hd:=D8 d;generalize c.dropLast=i at hd;generalize c.getLast d=s at hd;subst hd;rw[vL,uF] at b;have g:=h s (by simp);have f: ∀x∈i,1<=ab x/\ab x<ab s:=λx a=>⟨(h x (by simp[a])).1,b.2.2 (ab x) (xm a) (ab s) (by simp)⟩
   by_cases q:ab s<=k
   ·refine .inl (.inl (uC k _ ?_ λx a=>?_))
    ·rw[vL,uF];exact b
    ·rcases rK.mp a with a|a
     ·have:=f x a;omega
     ·simp at a;subst a;omega
   ·have e:ab s=(k:Int)+1:=by omega
    have hk:=uC k i b.1 λx a=>by have:=f x a;omega
    unfold ab at e;split at e
    ·exact .inr ⟨i,hk,by rw[show s= -((k:Int)+1) by omega]⟩
    ·exact .inl (.inr ⟨i,hk,by rw[show s=((k:Int)+1) by omega]⟩)
theorem AQ: ∀(k:Nat) (n:Nat),n<=k->(zk n).length<=(zk k).length
 |0,n,h=>by rw[show n=0 by omega];exact iY _
 |k+1,n,h=>by
  by_cases e:n=k+1
  ·subst e;exact iY _
  ·have:=AQ k n (by omega);simp only[zk,pO,jm];omega
def CsOk(n:Nat)(cs:kE):Prop:=cs.Nodup/\ ∀c∈cs,ClOk n c
theorem CsOk.len(b:n<=5)(h:CsOk n cs):cs.length<=243:=by
 have h1:=FF cs (zk n) h.1 λc a=>uC n c (h.2 c a).2.1 (h.2 c a).2.2;have d:=AQ 5 n b;have e:(zk 5).length=243:=by decide
 omega
def CsOk.snoc{n:Nat}{b:kE}{c:gC}(h:CsOk n b)(f:ClOk n c)(g:c∉b):CsOk n (b++[c]):=by
 refine⟨?_,λx a=>?_⟩
 ·rw[List.nodup_append];exact⟨h.1,by simp,λx a y d e=>by simp at d;subst d;subst e;exact g a⟩
 ·rcases rK.mp a with a|a
  ·exact h.2 x a
  ·simp at a;subst a;exact f
abbrev lsC(cs:kE):Sl:=some (.lst (cs.map cD),true)
def uD(a:kE)(c:gC):List (List Int):=if c∈a then a else a++[c]
def dd(a:kE):List (List Int):=a.foldl uD []
theorem yp: ∀l:List Int,D.prL (l.map .int)=true
 |[]=>by simp[D.prL]
 |x::l=>by simp[D.prL,D.pr,yp l]
theorem AF(c:CmpOp): ∀a b:List Int,(pJ c (a.map .int) (b.map .int)).isSome=true
 |[],b=>by simp[pJ]
 |x::a,[]=>by simp[pJ]
 |x::a,y::b=>by
  simp only[jw,pJ];split
  ·exact AF c a b
  ·simp[lM]
def qH(cs:kE)(h: ∀c∈cs,c≠[]):qe (cs.map cD)=true:=by
 have hk: ∀c:List Int,c≠[]->jZ (cD c)=some 1:=λc g=>by
  cases c with
  |nil=>exact absurd rfl g
  |cons=>rfl
 unfold qe
 cases cs with
 |nil=>rfl
 |cons c cs=>
  rw[AU];right;simp only[jw];rw[kZ,kZ,hk c (h c jB)];refine⟨⟨rfl,?_⟩,?_⟩
  ·rw[md];intro d hd;rw[<-jw (f:=cD)] at hd;obtain⟨x,b,rfl⟩:=mO.mp hd;rw[hk x (h x b),F3];simp[D.pr,yp]
  ·rw[md];intro d hd;rw[md];intro e a;rw[<-jw (f:=cD)] at hd a;obtain⟨x,b,rfl⟩:=mO.mp hd;obtain⟨y,i,rfl⟩:=mO.mp a;simp only[lM];exact AF _ _ _
def unC:D->List Int
 | .tup l=>l.map iOf
 |_=>[]
theorem yd(c:gC):unC (cD c)=c:=by
 simp only[unC,ir];rw[nh (g:=id),nH];intro x _;rfl
def F4(h:m.Perm (cs.map cD)): ∃a:List (List Int),m=a.map cD/\a.Perm cs:=by
 refine⟨m.map unC,?_,?_⟩
 ·rw[ir]
  symm
  rw[nh (g:=id),nH];intro d hd;obtain⟨c,_,rfl⟩:=mO.mp (h.mem_iff.mp hd);simp only[Function.comp,yd];rfl
 ·have:=h.map unC;rw[ir] at this;rw[show List.map (unC∘cD) cs=List.map id cs from nh (λc _=>yd c),nH] at this;exact this
def SrtC(c:kE):Prop:=c.Pairwise λa b=>ltT (cD b) (cD a)=false
theorem SrtC.take(h:SrtC a)(m:Nat):SrtC (a.take m):=List.Pairwise.sublist (xP m a) h
theorem CsOk.take(h:CsOk n a)(m:Nat):CsOk n (a.take m):=⟨List.Nodup.sublist (xP m a) h.1,λc b=>h.2 c (AZ b)⟩
def Gk(n:Nat)(a:kE):Prop:=n<=5/\CsOk n a/\SrtC a/\a.length<=30
abbrev rD'(n:Nat)(ks:kE):D:= .tup [.int n,.tup (ks.map cD)]
abbrev ii(n:Int):Sl:=some (.int n,false)
abbrev frz(a:List D):Dn:=a.map λd=>some (d,false)
theorem ue: ∀(os:List Opd) (a:List D),gP os (a.map λd=>(d,false))=[]
 |[],_=>by simp[gP]
 |_::_,[]=>by simp[gP]
 |o::os,d::a=>by cases o<;>simp[gP,ue os a]
theorem Gw: ∀(os:List Opd) (b:List D) (a c:Dn),wb os (b.map λd=>(d,false)) a c=c
 |[],_,_,_=>by simp[wb]
 |_::_,[],_,_=>by simp[wb]
 |_::_,_::_,[],_=>by simp[wb]
 |o::os,d::b,x::xs,c=>by cases o<;>simp[wb,Gw os b xs]
theorem SN{f:F}{ti:FT}{g:D->D}{p:D->Bool}{pre:Dn}: ∀(l a:List D) (x:Sl),(∀d∈l,ti (pre++[some (d,false)])=some (p d,pre++[some (d,false)])/\(p d=true-> ∃o,f (pre++[some (d,false)])=some ((g d,o),pre++[some (d,false)])))->a.length+l.length<=sizeLine->
  ∃b,jI (gx pre.length) ti (iH f) l a (pre++[x])=some (a++(l.filter p).map g,pre++[b])
 |[],a,x,_,_=>⟨x,by simp[jI]⟩
 |d::l,a,x,h,j=>by
  obtain⟨h1,m⟩:=h d jB;have n:a.length<sizeLine:=by simp at j;omega
  rw[jI,BD];simp only[iz];rw[h1]
  cases k:p d with
  |false=>
   obtain⟨b,e⟩:=SN l a (some (d,false)) (λc i=>h c (jA _ i)) (by simp at j ⊢;omega);exact⟨b,by simp[e,k]⟩
  |true=>
   obtain⟨o,hd⟩:=m k;obtain⟨b,e⟩:=SN l (a++[g d]) (some (d,false)) (λc i=>h c (jA _ i)) (by simp at j ⊢;omega);refine⟨b,?_⟩;simp only[iz,ja,oZ];rw[hd];simp only[iz];rw[gF n];simp only[iz];rw[e];simp[k]
theorem SF{b:iI}{i:FIt}{f:F}{ti:FT}{j c:Dn}{l a:List D}(g:D->D)(p:D->Bool)(h1:i j=some (l,c))(k:iN c (b.map .slot)=some (a.map λd=>(d,false)))(m:a.length=b.length)
  (h: ∀d∈l,ti (frz a++[some (d,false)])=some (p d,frz a++[some (d,false)])/\(p d=true-> ∃o,f (frz a++[some (d,false)])=some ((g d,o),frz a++[some (d,false)])))(n:l.length<=10000):
  iC b 1 i (gx b.length) ti (iH f) j=some ((.lst ((l.filter p).map g),true),c):=by
 obtain⟨q,e⟩:=SN (f:=f) (ti:=ti) (g:=g) (p:=p) (pre:=frz a) l [] none h (by rw[iB];simp;omega);unfold iC;rw[h1];simp only[iz];rw[k];simp only[iz,ue,sO,ja,ir,Gw];rw[show gx b.length=gx (frz a).length from by rw[jm,m]];rw[show((a.map (some∘λd=>(d,false)))++List.replicate 1 none:Dn)=frz a++[none] from rfl,e];simp
theorem yX{caps:iI}{fi:FIt}{f:F}{δ δ1:Dn}{l args:List D}(g:D->D)(h1:fi δ=some (l,δ1))(a:iN δ1 (caps.map .slot)=some (args.map λd=>(d,false)))(b:args.length=caps.length)
  (h: ∀d∈l,∃o,f (frz args++[some (d,false)])=some ((g d,o),frz args++[some (d,false)]))(c:l.length<=10000):
  iC caps 1 fi (gx caps.length) iX (iH f) δ=some ((.lst (l.map g),true),δ1):=by
 rw[SF g (λ_=>true) h1 a b (λd hd=>⟨rfl,λ_=>h d hd⟩) c,List.filter_eq_self.mpr λ_ _=>rfl]
theorem qX{tg:Tg}{fb:FS}(I:List D->Dn->Prop)(step: ∀d ds δ,I (d::ds) δ-> ∃δ1 b,tg d δ=some δ1/\fb δ1=some (.nx b)/\I ds b): ∀(ds:List D) (δ:Dn),I ds δ-> ∃a,I [] a/\uj tg fb ds δ=some (.nx a)
 |[],δ,h=>⟨δ,h,rfl⟩
 |d::ds,δ,h=>by
  obtain⟨δ1,b,h1,c,e⟩:=step d ds δ h;obtain⟨a,f,g⟩:=qX I step ds b e;refine⟨a,f,?_⟩;unfold uj;rw[h1];simp only[iz];rw[c];exact g
theorem qu{caps:iI}{k:Nat}{fi:FIt}{tg:Tg}{c:FT}{fb:FB}{δ δ1 b:Dn}{l a:List D}{args:List (D×Bool)}(h1:fi δ=some (l,δ1))(d:iN δ1 (caps.map .slot)=some args)(e:(gP (caps.map .slot) args).Nodup)(f:jI tg c fb l [] (args.map some++List.replicate k none)=some (a,b)):
  iC caps k fi tg c fb δ=some ((.lst a,true),wb (caps.map .slot) args (gZ args b) δ1):=by
 unfold iC;rw[h1];simp only[iz];rw[d];simp only[iz];rw[gF e,f];rfl
def Sw(h:f δ=some ((.bl true,o),δ1)):zL f g δ=g δ1:=by rw[Qw,h];rfl
def soB(t:gC)(s:Int):Bool:=t.getD ((ab s).toNat-1) 0==(if s>0 then 1 else 0)
def V0(t:gC)(s:Int)(h:1<=ab s/\ab s<=t.length):gIx (.tup (t.map .int)) (.int (ab s-1))=some (.int (t.getD ((ab s).toNat-1) 0),false):=by
 have h1:0<=ab s-1:=by omega
 have b:ab s-1<((t.map D.int).length:Int):=by simp;omega
 have c:(ab s-1).toNat=(ab s).toNat-1:=by omega
 have d:(ab s).toNat-1<t.length:=by omega
 have a:ixN (t.map D.int).length (ab s-1)=some ((ab s).toNat-1):=by unfold ixN;rw[gF h1,gF b,c]
 rw[jm] at a;simp[gIx,atI,a,d]
theorem TK(t:gC)(s:Int)(h:1<=ab s/\ab s<=t.length):um [enc t,(.int s,false)]=some ((.bl (soB t s),false),[some (enc t),some (.int s,false)]):=by
 have:=V0 t s h;unfold ab at this;by_cases a:s>0<;>simp[um,yM,evF,gZ,this,a,soB,ab]
def og:Nat->List (List Int)
 |0=>[[]]
 |n+1=>(og n).flatMap λt=>[t++[0],t++[1]]
theorem D3: ∀{n:Nat} {t:gC},t∈og n->t.length=n/\ ∀x∈t,x=0\/x=1
  |0,t,h=>by simp[og] at h;simp[h]
  |n+1,t,h=>by
    rw[og,xl] at h;obtain⟨u,c,h⟩:=h;obtain⟨h1,b⟩:=D3 c;simp only[jM,kx,lD] at h
    rcases h with rfl|rfl<;>
      (refine⟨by simp[h1],λx a=>?_⟩
       rcases rK.mp a with a|a
       · exact b x a
       · simp at a;simp[a])
def Ia{n:Nat}(a:n<=5):2^n<=32:=Nat.pow_le_pow_right (n:=2) (by decide) a
def Ug{t:gC}(h:t.length<=60):OkD (cD t):=λl e=>by cases e;simpa using h
def LW{d:D}(h:d.dep<=50):gNe d d=some (.bl false,false):=by unfold gNe;rw[gF ⟨h,h⟩,D.eqb_refl];rfl
theorem Ol(L:kE):(D.lst (L.map cD)).dep<=50:=by have:=Co L;rw[D.dep];omega
def SA(n:Nat)(a:kE):(rD' n a).dep<=50:=by have:=Co a;simp only[D.dep,D.depL];omega
theorem SD(l:List D)(v:Nat):PX.oP l none (some (v:Int))=l.take v:=by
 unfold PX.oP;rw[HT.S0,HT.TN,List.drop_zero,Nat.sub_zero];by_cases h:v<=l.length
 ·rw[xq h]
 ·rw[Nat.min_eq_right (by omega),A0 (iY _),A0 (by omega)]
def TT(n:Nat)(t:gC):Prop:=(t.map ab).Perm (st n)
def SG(n:Nat)(s:Int):Prop:=1<=ab s/\ab s<=n
def beh(t u:gC):List Int:=t.map (led u)
theorem TT.len{n:Nat}{t:gC}(h:TT n t):t.length=n:=by simpa using(GZ.mp h).1
theorem TT.sg{n:Nat}{t:gC}(h:TT n t){x:Int}(a:x∈t):SG n x:=(GZ.mp h).2.1 _ (xm a)
def TT.tok{n:Nat}{t:gC}(h:TT n t):TOk n t:=⟨h.len,λx a=>h.sg a⟩
def TM{n:Nat}{s:Int}(h:SG n s):s≠0:=by rintro rfl;have:=h.1;simp[ab] at this
theorem Qf{n:Nat}{s:Int}(h:SG n s):SG n (-s):=by unfold SG;rw[ng];exact h
def lF{n:Nat}{s:Int}(h:SG n s): ∃k:Nat,k<n/\(s=(k:Int)+1\/s= -((k:Int)+1)):=by
 have:=h;unfold SG ab at this;split at this
 ·exact⟨(-s-1).toNat,by lia,.inr (by lia)⟩
 ·exact⟨(s-1).toNat,by lia,.inl (by lia)⟩
theorem GF{n k:Nat}(h:k<n):SG n ((k:Int)+1):=by unfold SG;rw[oh (by lia)];lia
theorem kf(t:gC)(k:Nat):led t ((k:Int)+1)=t.getD k 0:=by
 unfold led;rw[gF (by lia),show((k:Int)+1-1).toNat=k by lia]
theorem lg(t:gC)(k:Nat):led t (-((k:Int)+1))= -t.getD k 0:=by
 unfold led;rw[hJ (by lia),show(- -((k:Int)+1)-1).toNat=k by lia]
theorem wW{n:Nat}(t:gC){s:Int}(h:SG n s):led t (-s)= -led t s:=by
 obtain⟨k,_,rfl|rfl⟩:=lF h
 ·rw[kf,lg]
 ·rw[Int.neg_neg,kf,lg,Int.neg_neg]
theorem Mz{n:Nat}{t:gC}(a:t.length=n){s:Int}(h:SG n s):ab (led t s)=(t.map ab).getD ((ab s).toNat-1) 0:=by
 obtain⟨k,hk,rfl|rfl⟩:=lF h
 ·rw[kf,oh (i:=(k:Int)+1) (by lia),show(((k:Int)+1).toNat-1)=k by lia];simp[kh,a,hk]
 ·rw[lg,ng,zm (by lia),show(((k:Int)+1).toNat-1)=k by lia];simp[kh,a,hk]
theorem TT.led{n:Nat}{t:gC}(h:TT n t){s:Int}(a:SG n s):SG n (led t s):=R3 h.tok a.1 a.2
theorem Hf{n:Nat}{t:gC}(h:TT n t)(u:gC){s:Int}(b:SG n s):PV.led (beh t u) s=PV.led u (PV.led t s):=by
 obtain⟨k,hk,rfl|rfl⟩:=lF b
 ·rw[kf,kf];simp[beh,kh,h.len,hk]
 ·have a:t.getD k 0∈t:=kn (by rw[h.len];exact hk);rw[lg,lg,wW u (h.sg a)];simp[beh,kh,h.len,hk]
theorem TT.beh{n:Nat}{t u:gC}(h:TT n t)(a:TT n u):TT n (beh t u):=by
 unfold TT
 have e:(PV.beh t u).map ab=(t.map ab).map λj=>(u.map ab).getD (j.toNat-1) 0:=by
  unfold PV.beh;rw[ir,ir];refine nh λx d=>?_;exact Mz a.len (h.sg d)
 rw[e];refine(h.map _).trans (List.Perm.trans (D7 ?_) a);apply xo
 ·simp[st,a.len]
 ·intro i h1 f;have c:i<n:=by simpa[st] using h1
  have b:((1:Int)+(i:Int)).toNat-1=i:=by lia
  simp only[st,ir,uH,List.getElem_range,Function.comp,b];simp[kh,a.len,c]
theorem B8{n:Nat}{t:gC}(h:TT n t){s r:Int}(g:SG n s)(f:SG n r)(e:PV.led t s=PV.led t r):s=r:=by
 have k:=(GZ.mp h).2.2
 have c: ∀{i j:Nat},i<n->j<n->ab (t.getD i 0)=ab (t.getD j 0)->i=j:=λ{i j} a b e=>by
  have l:=h.len
  have:=(EO (xs:=t.map ab) (i:=i) (j:=j) (h₀:=by simpa[l] using a) (h₁:=by simpa[l] using b) k).mp (by
   simp only[uH];simpa[kh,l,a,b] using e)
  exact this
 have d: ∀{i:Nat},i<n->t.getD i 0≠0:=λ{i} a=>TM (h.sg (kn (by rw[h.len];exact a)));obtain⟨i,a,rfl|rfl⟩:=lF g<;>obtain⟨j,b,rfl|rfl⟩:=lF f
 ·rw[kf,kf] at e;rw[c a b (by rw[e])]
 ·rw[kf,lg] at e;have:=c a b (by rw[e,ng]);subst this;exact absurd (show t.getD i 0=0 by lia) (d a)
 ·rw[kf,lg] at e;have:=c a b (by rw[<-e,ng]);subst this;exact absurd (show t.getD i 0=0 by lia) (d a)
 ·rw[lg,lg] at e;rw[c a b (by rw[show t.getD i 0=t.getD j 0 by lia])]
def He{n:Nat}{t u:gC}(h1:t.length=n)(a:u.length=n)(h: ∀s,SG n s->PV.led t s=PV.led u s):t=u:=by
 apply xo (by rw[h1,a]);intro i b c;have:=h _ (GF (n:=n) (k:=i) (by lia));rw[kf,kf] at this;simpa[kh,b,c] using this
theorem E8(n:Nat):(st n).length=n:=by simp[st]
def TJ(n:Nat):TT n (st n):=by
 have:(st n).map ab=st n:=by
  conv=>rhs;rw[<-nH (st n)]
  refine nh λx a=>?_;have:=J7.mp a;exact oh (by lia)
 unfold TT;rw[this]
theorem Lz{n:Nat}{s:Int}(h:SG n s):PV.led (st n) s=s:=by
 obtain⟨k,hk,rfl|rfl⟩:=lF h
 ·rw[kf];simp[st,kh,hk];lia
 ·rw[lg];simp[st,kh,hk];lia
def BK(n:Nat)(t w:gC):Prop:=w.length=n/\ ∀s,SG n s->PV.led w (PV.led t s)=s
theorem BK.tt{n:Nat}{t w:gC}(h:BK n t w)(f:TT n t):TT n w:=by
 refine(B6 (st n) (w.map ab) (OS n) (λx g=>?_) (by simp[E8,h.1])).symm;have i:=J7.mp g;have c:SG n x:=by unfold SG;rw[oh (by lia)];lia
 have e:=h.2 x c;have a:=f.led c;have b:ab (PV.led w (PV.led t x))=x:=by rw[e,oh (by lia)]
 rw[Mz h.1 a] at b;rw[<-b];have d:(ab (PV.led t x)).toNat-1<(w.map ab).length:=by have:=a.2;have:=a.1;rw[jm,h.1];lia
 exact kn d
def BK.sym{n:Nat}{t w:gC}(h:BK n t w)(b:TT n t):BK n w t:=by
 refine⟨b.len,λs a=>?_⟩;have c:=h.tt b;exact B8 c (b.led (c.led a)) a (h.2 _ (c.led a))
theorem BK.still{n:Nat}{t w:gC}(h:BK n t w)(b:TT n t):beh t w=st n:=
 He (n:=n) (by simp[beh,b.len]) (E8 n) λs a=>by rw[Hf b w a,h.2 s a,Lz a]
theorem sm: ∀(k:Nat) (r f t:gC),r.length=k->(∀x∈r,0<=x)->t∈ny k r f->(t.map ab).Perm (f.map ab++r)
 |0,r,f,t,c,_,h=>by
  simp[ny] at h;subst h;rw[MD.mp c];simp
 |k+1,r,f,t,c,h0,h=>by
  simp only[ny,xl,rK,CD] at h;obtain⟨v,hv,h⟩:=h;have b:(r.eraseIdx v).length=k:=by rw[AR,gF hv];lia
  have d: ∀x∈r.eraseIdx v,0<=x:=λx a=>h0 x (List.mem_of_mem_eraseIdx a);have a:=h0 _ (kn hv)
  have fin: ∀y:Int,ab y=r.getD v 0->(List.map ab (f++[y])++r.eraseIdx v).Perm (f.map ab++r):=λy i=>by
   rw[vL,pN];refine List.Perm.append_left _ ?_;simp only[jw,oo,sd,rB,i];have e:r.getD v 0=r[v]:=by simp[kh,hv]
   rw[e];rw[List.eraseIdx_eq_take_drop_succ];have g:r=r.take v++r[v]::r.drop (v+1):=by rw[<-uQ hv,xt]
   conv=>rhs;rw[g]
   exact List.perm_middle.symm
  rcases h with h|h
  ·exact(sm k _ _ t b d h).trans (fin _ (by rw[xR];exact oh a))
  ·exact(sm k _ _ t b d h).trans (fin _ (by rw[Int.mul_neg,xR];exact zm a))
def Gz{n:Nat}{t:gC}(h:t∈ny n (st n) []):TT n t:=by
 have:=sm n (st n) [] t (E8 n) (λx a=>by have:=J7.mp a;lia) h;unfold TT;simpa using this
def lc(t c:gC):List Int:=(lR ltA ((c.map (led t)).map D.int)).map iOf
def LCs(t c d:gC):Prop:=d.Perm (c.map (led t))/\(d.map ab).Pairwise (· < ·)
def LP{m:List D}{l:gC}(h:m.Perm (l.map D.int)):m=(m.map iOf).map D.int/\(m.map iOf).Perm l:=by
 obtain⟨k,rfl⟩:=ui h;have e:(k.map D.int).map iOf=k:=by rw[ir];exact nH k
 rw[e];refine⟨rfl,?_⟩;have:=h.map iOf
 rwa [e,ir,show List.map (iOf∘D.int) l=l from nH l] at this
def vJ{n:Nat}{t c:gC}(h:TT n t)(h1:(c.map ab).Nodup)(g: ∀s∈c,SG n s):((c.map (led t)).map ab).Nodup:=by
 rw[ir,List.Nodup,oi];rw[List.Nodup,oi] at h1;refine h1.imp_of_mem λ{a b} j k d e=>d ?_;have e:ab (led t a)=ab (led t b):=e;have i:=g a j;have f:=g b k;by_cases q:led t a=led t b
 ·rw[B8 h i f q]
 ·have:led t a=led t (-b):=by
   rw[wW t f];unfold ab at e;split at e<;>split at e<;>omega
  rw[B8 h i (Qf f) this,ng]
theorem pv{n:Nat}{t c:gC}(j:TT n t)(g:ClOk n c):LCs t c (lc t c)/\(lR ltA ((c.map (led t)).map D.int))=(lc t c).map D.int:=by
 obtain⟨e,i⟩:=LP (jv ltA ((c.map (led t)).map D.int));refine⟨⟨i,?_⟩,e⟩;have k:=vJ j (GR g.2.1) λs f=>g.2.2 s f;have d:((lc t c).map ab).Nodup:=(i.map ab).symm.nodup k;have f:=vh ((c.map (led t)).map D.int);rw[e,oi] at f;rw[oi];rw[List.Nodup,oi] at d;refine(f.and d).imp λ{a b} h=>?_;have h1:ab a<=ab b:=h.1;have l:ab a≠ab b:=h.2;omega
theorem LCs.uniq{n:Nat}{t c d e:gC}(h1:LCs t c d)(f:LCs t c e):d=e:=by
 have g:=h1.2;have h:=f.2;rw[oi] at g h;refine(h1.1.trans f.1.symm).eq_of_pairwise (le:=λa b=>ab a<ab b) (λa b _ _ x y=>absurd x (by omega)) g h
def LCs.cl{n:Nat}{t c d:gC}(h:LCs t c d)(f:TT n t)(a:ClOk n c):ClOk n d:=by
 refine⟨λe=>a.1 ?_,h.2,λs b=>?_⟩
 ·have:=h.1.length_eq;rw[e] at this;simp at this;exact MD.mp this.symm
 ·obtain⟨x,g,rfl⟩:=mO.mp (h.1.mem_iff.mp b);exact f.led (a.2.2 x g)
def Dx{n:Nat}{t c:gC}(b:TT n t)(a:ClOk n c):ClOk n (lc t c):=(pv b a).1.cl b a
theorem Um{n:Nat}{t u c:gC}(b:TT n t)(e:TT n u)(a:ClOk n c):lc u (lc t c)=lc (beh t u) c:=by
 have h1:=(pv b a).1;have d:=(pv e (Dx b a)).1;refine LCs.uniq (n:=n) (t:=beh t u) (c:=c) ⟨d.1.trans ?_,d.2⟩ (pv (b.beh e) a).1;refine(h1.1.map _).trans (D7 ?_);rw[ir];exact nh λs f=>(Hf b u (a.2.2 s f)).symm
theorem Ul{n:Nat}{c:gC}(a:ClOk n c):lc (st n) c=c:=by
 refine LCs.uniq (n:=n) (t:=st n) (c:=c) (pv (TJ n) a).1 ⟨D7 ?_,a.2.1⟩
 conv=>lhs;rw[<-nH c]
 exact nh λs b=>(Lz (a.2.2 s b)).symm
theorem Pm{n:Nat}{t w c:gC}(a:TT n t)(d:BK n t w)(b:ClOk n c):lc w (lc t c)=c:=by
 rw[Um a (d.tt a) b,d.still a,Ul b]
def LR(t:gC)(cs a:kE):Prop:=a.Perm (cs.map (lc t))/\SrtC a
def LR.rd{n:Nat}{t w:gC}{j ds:kE}(h:LR t j ds)(i:TT n t)(k:BK n t w)(f:Gk n j):Gk n ds:=by
 refine⟨f.1,⟨h.1.symm.nodup ?_,λd hd=>?_⟩,h.2,by rw[h.1.length_eq,jm];exact f.2.2.2⟩
 ·have p:=f.2.1.1;rw[List.Nodup,oi];refine p.imp_of_mem λ{a b} m o g e=>g ?_;rw[<-Pm i k (f.2.1.2 a m),e,Pm i k (f.2.1.2 b o)]
 ·obtain⟨c,l,rfl⟩:=mO.mp (h.1.mem_iff.mp hd);exact Dx i (f.2.1.2 c l)
def D4(n:Nat)(a:gC):Prop:=a.length=n/\ ∀x∈a,x=0\/x=1
def SR: ∀{n:Nat} {a:gC},a∈og n↔D4 n a:=λ{n a}=>by
 constructor
 ·exact λh=>D3 h
 ·intro h
  induction n generalizing a with
  |zero=>rw[MD.mp h.1];simp[og]
  |succ n f=>
   have b:a≠[]:=λe=>by have:=h.1;rw[e] at this;simp at this
   have e:=D8 b;have c:=h.2 _ (List.getLast_mem b);have:=f (a:=a.dropLast) ⟨by rw[Ew,h.1];rfl,λx d=>h.2 x (IV _ d)⟩;simp only[og,xl];refine⟨a.dropLast,this,?_⟩;rcases c with z|z
   ·rw[z] at e;rw[e];simp
   ·rw[z] at e;rw[e];simp
def laF(w a:gC):List Int:=w.map λs=>if soB a s=true then 1 else 0
def RJ(b:FO)(a:Dn)(d:D):Prop:= ∃o,b a=some (o,a)/\res a o=some d
def FJ(a:FO)(δ:Dn)(d:D):Prop:= ∃o,a δ=some (o,δ)/\res δ o=some d/\uB δ o=some (d,false)
theorem FJ.r{c:FO}{δ:Dn}{d:D}(h:FJ c δ d):RJ c δ d:=let⟨o,a,b,_⟩:=h;⟨o,a,b⟩
theorem jV{i:Nat}{δ:Dn}{d:D}(h:δ[i]?=some (some (d,false))):FJ (gk i) δ d:=⟨.slot i,by unfold gk;rw[h],by unfold res;simp[h],by simp[h]⟩
theorem jR{i:Nat}{δ:Dn}{d:D}{b:Bool}(h:δ[i]?=some (some (d,b))):RJ (gk i) δ d:=⟨.slot i,by unfold gk;rw[h],by unfold res;simp[h]⟩
theorem jE{f:F}{δ:Dn}{d:D}{b:Bool}(h:f δ=some ((d,b),δ)):FJ (gn f) δ d:=⟨.val (d,b),gH h,rfl,rfl⟩
theorem jU1{c:EvF}{e:FO}{δ:Dn}{a:D}{r:D×Bool}{b:Dn}(h:c [(a,false)]=some (r,b))(g:FJ e δ a):gA c [e] δ=some (r,δ):=by
 obtain⟨o,h1,_,f⟩:=g;refine(kb (sJ h1) (args:=[a].map λd=>(d,false)) (by simp[f]) (by rw[ue];exact sO) h).trans ?_;rw[Gw]
theorem jU2{e:EvF}{f fb:FO}{δ:Dn}{a b:D}{r:D×Bool}{c:Dn}(h:e [(a,false),(b,false)]=some (r,c))(i:FJ f δ a)(j:FJ fb δ b):gA e [f,fb] δ=some (r,δ):=by
 obtain⟨o,h1,_,g⟩:=i;obtain⟨m,k,_,l⟩:=j;refine(kb (lu h1 k) (args:=[a,b].map λd=>(d,false)) (by simp[g,l]) (by rw[ue];exact sO) h).trans ?_;rw[Gw]
theorem jO{g:D->D->Option (D×Bool)}{c fb:FO}{δ:Dn}{a b:D}{r:D×Bool}(h:g a b=some r)(e:RJ c δ a)(f:RJ fb δ b):gy g c fb δ=some (r,δ):=by
 obtain⟨o,h1,d⟩:=e;obtain⟨k,i,j⟩:=f;exact iT h1 i d j h
theorem jC{g:D->Option (D×Bool)}{b:FO}{δ:Dn}{a:D}{r:D×Bool}(h:g a=some r)(d:RJ b δ a):gJ (g1 g) [b] δ=some (r,δ):=by
 obtain⟨o,h1,c⟩:=d;exact mz (ds:=[a]) (sJ h1) (by simp[c]) h
def Ql{f:F}{np:Nat}{args:List (D×Bool)}{r:D×Bool}{δ:Dn}(h1:args.length=np/\np<=np/\(args.zipIdx.all λp=>!(p.1.2&&([]:List Nat).contains p.2))=true)(a:f (args.map some++List.replicate (np-np) none)=some (r,δ)):evF np np [] (gB (jf f) gX) args=some (r,gZ args δ):=
 kJ h1 (jt (jU a))
def OT{n:Nat}{s:Int}(h:SG n s):s≠0/\ -(n:Int)<=s/\s<=n:=by
 obtain⟨k,hk,rfl|rfl⟩:=lF h<;>lia
def VX{n:Nat}{u:gC}(d:u.length=n){s:Int}(h:SG n s):mB [enc u,(.int s,false)]=some ((.int (led u s),false),[some (enc u),some (.int s,false)]):=by
 obtain⟨a,b,c⟩:=OT h;exact R0 u s a (by rw[d];exact b) (by rw[d];exact c)
theorem Lx(f:Int->Int)(l:gC):(l.map D.int).map (λd=>D.int (f (iOf d)))=(l.map f).map D.int:=by rw[ir,ir];rfl
def AD{a:iI}{fi:FIt}{f:F}{δ b:Dn}{l:gC}{args:List D}(g:Int->Int)(h1:fi δ=some (l.map D.int,b))(c:iN b (a.map .slot)=some (args.map λd=>(d,false)))(e:args.length=a.length)
  (h: ∀x∈l,∃o,f (frz args++[some (.int x,false)])=some ((.int (g x),o),frz args++[some (.int x,false)]))(i:l.length<=10000):
  iC a 1 fi (gx a.length) iX (iH f) δ=some ((.lst ((l.map g).map D.int),true),b):=by
 rw[yX (λd=> .int (g (iOf d))) h1 c e (λd hd=>by obtain⟨x,j,rfl⟩:=mO.mp hd;exact h x j) (by simpa using i),Lx]
def CV{n:Nat}(b:n<=5){t:gC}(a:TT n t):iM [(.int n,false),enc t]=some ((.bl true,false),[ii n,some (enc t)]):=by
 have h:tB n (cD t)=true:=by
  rw[J3];simp only[lB,kZ,md,uN,ir];refine⟨λd hd=>?_,a⟩;obtain⟨x,_,rfl⟩:=mO.mp hd;rfl
 rw[qb n (cD t) (λl e=>by cases e;rw[jm,a.len];lia),h]
def DU{n:Nat}(a:n<=5){t:gC}(b:TT n t):iQ [(.int n,false),enc t]=some ((.non,false),[ii n,some (enc t)]):=by
 have:sIf (lT (fT (gA iM [(gk 0),(gk 1)]))) (gB BP gX) gX [ii n,some (enc t)]=some (.nx [ii n,some (enc t)]):=
  (vT (qt (oO (jU2 (CV a b) (jV rfl) (jV rfl))))).trans rfl
 have e:kP [ii n,some (enc t)]=some (.nx [ii n,some (enc t)]):=(gG this).trans rfl;simp only[iQ,evF];rw[gF ⟨rfl,by decide,rfl⟩];show(match kP [ii n,some (enc t)] with|some (.rt r δ)=>some (r,gZ _ δ)|some (.nx δ)=>some ((D.non,false),gZ _ δ)|_=>none)=_;rw[e];rfl
def sgJ(t:gC)(j:Nat):Int:=if t.getD j 0>0 then(j:Int)+1 else -((j:Int)+1)
def IvB(n:Nat)(t:gC)(k:Nat)(w:gC):Prop:=w.length=n/\ ∀j,j<k->w.getD ((ab (t.getD j 0)).toNat-1) 0=sgJ t j
def R7{n:Nat}{t w:gC}(a:TT n t)(h:IvB n t n w):BK n t w:=by
 refine⟨h.1,λs g=>?_⟩
 have one: ∀j,j<n->led w (t.getD j 0)=(j:Int)+1:=λj b=>by
  have c:=a.sg (kn (l:=t) (k:=j) (by rw[a.len];exact b));have e:=h.2 j b;unfold sgJ at e;unfold led;unfold SG at c;by_cases d:t.getD j 0>0
  ·rw[gF d] at e ⊢;rw[oh (by lia)] at e;rw[show(t.getD j 0-1).toNat=(t.getD j 0).toNat-1 by lia,e]
  ·have f:ab (t.getD j 0)= -t.getD j 0:=by unfold ab;split<;>lia
   rw[hJ d] at e ⊢;rw[f] at e c;rw[show(-t.getD j 0-1).toNat=(-t.getD j 0).toNat-1 by lia,e]
   lia
 obtain⟨k,hk,rfl|rfl⟩:=lF g
 ·rw[kf];exact one k hk
 ·rw[wW t (GF hk),wW w (a.led (GF hk)),kf,one k hk]
def LL{n:Nat}{t w:gC}(a:TT n t){k:Nat}(hk:k<n)(h:IvB n t k w):IvB n t (k+1) (w.set ((ab (t.getD k 0)).toNat-1) (sgJ t k)):=by
 have b: ∀j,j<n->1<=ab (t.getD j 0)/\ab (t.getD j 0)<=n:=λj c=>a.sg (kn (l:=t) (k:=j) (by rw[a.len];exact c));refine⟨by simp[h.1],λj c=>?_⟩;have d:=b k hk;have f:=b j (by lia);by_cases e:j=k
 ·subst e;rw[kh,mv (by rw[h.1];lia)];rfl
 ·have ne:ab (t.getD j 0)≠ab (t.getD k 0):=λq=>e (by
   have l:=a.len
   have:=(EO (xs:=t.map ab) (i:=j) (j:=k) (h₀:=by simp[l];lia) (h₁:=by simp[l];lia) (GZ.mp a).2.2).mp (by
    simp only[uH];simpa[kh,l,hk,show j<n by lia] using q)
   exact this)
  rw[kh,mI (by lia),<-kh];exact h.2 j (by lia)
abbrev fbB:FS:=(gB (oX 1 (fIf (fT (gy (oM .Gt) (gk 3) (gn (fC (.int 0))))) (jJ 2) (jg nC (gk 2))) (gn (gy gSub (gn (gJ (g1 pD) [(gk 3)])) (gn (fC (.int 1)))))) gX)
theorem Su{n:Nat}{t w:gC}(c:TT n t){k:Nat}(hk:k<n)(f:w.length=n):fbB [some (enc t),lsi w,ii ((k:Int)+1),ii (t.getD k 0)]=some (.nx [some (enc t),lsi (w.set ((ab (t.getD k 0)).toNat-1) (sgJ t k)),ii ((k:Int)+1),ii (t.getD k 0)]):=by
 have b:=c.sg (kn (l:=t) (k:=k) (by rw[c.len];exact hk))
 have d:fIf (fT (gy (oM .Gt) (gk 3) (gn (fC (.int 0))))) (jJ 2) (jg nC (gk 2)) [some (enc t),lsi w,ii ((k:Int)+1),ii (t.getD k 0)]=some ((.int (sgJ t k),false),[some (enc t),lsi w,ii ((k:Int)+1),ii (t.getD k 0)]):=by
  rw[OW,oO (o:=false) (jO (VG _ _) (jV rfl).r (jE rfl).r)];simp only[iz];unfold sgJ;by_cases a:t.getD k 0>0
  ·rw[gF (by simpa using a),gF a];rfl
  ·rw[hJ (by simpa using a),hJ a];rfl
 have e:gn (gy gSub (gn (gJ (g1 pD) [(gk 3)])) (gn (fC (.int 1)))) [some (enc t),lsi w,ii ((k:Int)+1),ii (t.getD k 0)]=some (.val (.int (ab (t.getD k 0)-1),false),[some (enc t),lsi w,ii ((k:Int)+1),ii (t.getD k 0)]):=rfl
 have g:ixN (w.map D.int).length (ab (t.getD k 0)-1)=some ((ab (t.getD k 0)).toNat-1):=by
  have:=b.1;have:=b.2;unfold ixN;rw[jm,f,gF (by lia),gF (by lia)]
  congr 1;lia
 refine(gG (δ1:=[some (enc t),lsi (w.set ((ab (t.getD k 0)).toNat-1) (sgJ t k)),ii ((k:Int)+1),ii (t.getD k 0)]) ?_).trans rfl;unfold oX;rw[d];simp only[iz,List.getElem?_cons_succ,List.getElem?_cons_zero];rw[e];simp only[iz,Kr,List.getElem?_cons_succ,List.getElem?_cons_zero];rw[g];simp[lsi,List.map_set]
theorem Uw{n:Nat}{t:gC}(c:TT n t): ∀(m k:Nat) (w:gC) (x y:Sl),k+m=n->IvB n t k w-> ∃b d f,IvB n t n b/\uj (ly [(gx 2),(gx 3)]) fbB ((List.range' k m).map λ(j:Nat)=> .tup [.int ((j:Int)+1),.int (t.getD j 0)]) [some (enc t),lsi w,x,y]=some (.nx [some (enc t),lsi b,d,f])
 |0,k,w,x,y,h,a=>⟨w,x,y,by rw[show k=n by lia] at a;exact a,rfl⟩
 |m+1,k,w,x,y,h,a=>by
  obtain⟨b,d,f,h1,e⟩:=Uw c m (k+1) _ (ii ((k:Int)+1)) (ii (t.getD k 0)) (by lia) (LL c (by lia) a);refine⟨b,d,f,h1,?_⟩;rw[Ek,jw];unfold uj;rw[show ly [(gx 2),(gx 3)] (.tup [.int ((k:Int)+1),.int (t.getD k 0)]) [some (enc t),lsi w,x,y]=some [some (enc t),lsi w,ii ((k:Int)+1),ii (t.getD k 0)] from rfl];simp only[iz];rw[Su c (by lia) a.1];exact e
theorem Sy(t:gC):(((t.map D.int).zipIdx).map λq=>D.tup [.int (1+q.2),q.1])=(List.range' 0 t.length).map λ(j:Nat)=> .tup [.int ((j:Int)+1),.int (t.getD j 0)]:=by
 apply xo
 ·simp
 ·intro i h1 b;have a:i<t.length:=by simpa using h1
  simp[kh,a,Int.add_comm]
def wZ{n:Nat}{t:gC}(b:TT n t): ∃w,BK n t w/\uo [enc t]=some (enc w,[some (enc t)]):=by
 obtain⟨w,x,y,h,e⟩:=Uw b n 0 t none none (by lia) ⟨b.len,λj c=>absurd c (by lia)⟩;refine⟨w,R7 b h,?_⟩;refine kJ (δ:=[some (enc t),lsi w,x,y]) ⟨rfl,by decide,rfl⟩ ?_;refine(gG (δ1:=[some (enc t),lsi t,none,none]) rfl).trans ((gG ((oY (δ1:=[some (enc t),lsi t,none,none]) (ds:=(List.range' 0 n).map λ(j:Nat)=> .tup [.int ((j:Int)+1),.int (t.getD j 0)]) ?_).trans e)).trans ?_)
 ·show some ((((t.map D.int).zipIdx).map λq=>D.tup [.int (1+q.2),q.1]),([some (enc t),lsi t,none,none]:Dn))=_;rw[Sy,b.len]
 ·exact jt (jU (jC (a:= .lst (w.map D.int)) rfl (jR rfl)))
theorem BK.uniq{n:Nat}{t w v:gC}(c:TT n t)(h1:BK n t w)(a:BK n t v):w=v:=
 He h1.1 a.1 λs b=>by
  have e:=(h1.sym c).2 s b;have:=a.2 _ ((h1.tt c).led b);rw[e] at this;exact this.symm
theorem OB{n:Nat}{t w:gC}(a:TT n t)(b:BK n t w):uo [enc t]=some (enc w,[some (enc t)]):=by
 obtain⟨v,h1,e⟩:=wZ a;rw[b.uniq a h1];exact e
def ML{c:FT}{b:FS}{k:Nat}{d a δ2:Dn}(h:c d=some (true,a))(e:b a=some (.nx δ2)):lX c b (k+1) d=lX c b k δ2:=by
 rw[lX,h];simp only[iz,ja];rw[e];rfl
def MM{b:FT}{d:FS}{k:Nat}{c a:Dn}(h:b c=some (false,a)):lX b d (k+1) c=some (.nx a):=by
 rw[lX,h];rfl
def Pk{n:Nat}{t:gC}(h:t.length=n):pT (cD t)=some (.int n,false):=by rw[Qq,jm,h]
def Kc{n:Nat}{t c:gC}(h:n<=5)(b:TT n t)(a:ClOk n c):vC (.lst ((c.map (led t)).map D.int))=some (.lst ((lc t c).map D.int),true):=by
 have:=a.len;show(if((c.map (led t)).map D.int).all isI=true/\(((c.map (led t)).map D.int).map aD).Nodup/\((c.map (led t)).map D.int).length<64 then some (D.lst (lR ltA ((c.map (led t)).map D.int)),true) else none)=_
 have e:((c.map (led t)).map D.int).all isI=true:=by
  rw[md];intro d hd;obtain⟨x,_,rfl⟩:=mO.mp hd;rfl
 have f:(((c.map (led t)).map D.int).map aD).Nodup:=by
  rw[ir];exact vJ b (GR a.2.1) λs g=>a.2.2 s g
 rw[gF ⟨e,f,by simp;omega⟩,(pv b a).2]
def N0{n:Nat}(f:n<=5){t c:gC}(e:TT n t)(d:ClOk n c):nW [enc c,enc t]=some (enc (lc t c),[some (enc c),some (enc t)]):=by
 have:=d.len;refine Ql ⟨rfl,by decide,rfl⟩ (jC (a:= .lst ((lc t c).map D.int)) rfl (jE (b:=true) (jC (Kc f e d) (jE (b:=true) (AD (args:=[cD t]) (led t) rfl rfl rfl (λx g=>⟨false,?_⟩) (by omega))).r)).r);exact jU2 (VX e.len (d.2.2 x g)) (jV rfl) (jV rfl)
def Hy{caps:iI}{a:FIt}{f:F}{δ δ1:Dn}{l:kE}{args:List D}(g:List Int->List Int)(h1:a δ=some (l.map cD,δ1))(b:iN δ1 (caps.map .slot)=some (args.map λd=>(d,false)))(c:args.length=caps.length)
  (h: ∀x∈l,∃o,f (frz args++[some (cD x,false)])=some ((cD (g x),o),frz args++[some (cD x,false)]))(e:l.length<=10000):
  iC caps 1 a (gx caps.length) iX (iH f) δ=some ((.lst ((l.map g).map cD),true),δ1):=by
 rw[yX (λd=>cD (g (unC d))) h1 b c (λd hd=>by obtain⟨x,i,rfl⟩:=mO.mp hd;rw[yd];exact h x i) (by simpa using e)];rw[ir,ir,nh (g:=cD∘g) λx _=>by simp only[Function.comp,yd]]
def wK{cs:kE}(h:qe (cs.map cD)=true)(b:cs.length<=10000): ∃a:List (List Int),a.Perm cs/\SrtC a/\kH (cs.map cD)=some (.lst (a.map cD),true):=by
 obtain⟨a,e,c⟩:=F4 (jv ltT (cs.map cD));refine⟨a,c,?_,?_⟩
 ·have:=qG (cs.map cD);rw[e,oi] at this;exact this
 ·unfold kH;rw[gF ⟨h,by rw[jm];exact BJ b⟩,e]
def wg{f g:F}{δ:Dn}{a b:D×Bool}(h1:f δ=some (a,δ))(c:g δ=some (b,δ)):jG [f,g] δ=some ((.tup [a.1,b.1],false),δ):=by
 rw[Qt,show[f,g].map gn=[gn f,gn g] from rfl,lu (gH h1) (gH c)];simp[iB]
def LA{n:Nat}{t:gC}{cs:kE}(f:TT n t)(d:Gk n cs): ∃ds,LR t cs ds/\nX [(rD' n cs,false),enc t]=some ((rD' n ds,false),[some (rD' n cs,false),some (enc t)]):=by
 have h:=d.1;have i:=d.2.2.2
 obtain⟨ds,k,m,e⟩:=wK (cs:=cs.map (lc t)) (qH _ λc j=>by
  obtain⟨x,g,rfl⟩:=mO.mp j;exact(Dx f (d.2.1.2 x g)).1) (by simp;omega)
 refine⟨ds,⟨k,m⟩,?_⟩;refine kJ (δ:=[some (rD' n cs,false),some (enc t),ii n,some (.tup (cs.map cD),false)]) ⟨rfl,by decide,rfl⟩ ?_;refine(gG (δ1:=[some (rD' n cs,false),some (enc t),ii n,some (.tup (cs.map cD),false)]) rfl).trans ?_;refine(gG (tU (jU2 (DU h f) (jV rfl) (jV rfl)))).trans (jt (jU (wg (a:=(.int n,false)) (b:=(.tup (ds.map cD),false)) rfl (jC (a:= .lst (ds.map cD)) rfl (jE (b:=true) (jC e (jE (b:=true) (Hy (l:=cs) (args:=[cD t]) (lc t) rfl rfl rfl (λx g=>⟨false,?_⟩) (by omega))).r)).r))));exact jU2 (N0 h f (d.2.1.2 x g)) (jV rfl) (jV rfl)
def wV{n:Nat}(g:n<=5){t w a:gC}(c:TT n t)(e:BK n t w)(d:D4 n a):iL [enc a,enc t]=some (enc (laF w a),[some (enc a),some (enc t)]):=by
 have f:=e.tt c;refine kJ (δ:=[some (enc a),some (enc t)]) ⟨rfl,by decide,rfl⟩ ?_;refine(gG (tU (jU2 (DU g c) (jE (jC (Pk d.1) (jV rfl).r)) (jV rfl)))).trans (jt (jU (jC (a:= .lst ((laF w a).map D.int)) rfl (jE (b:=true) (AD (args:=[cD a]) (λs=>if soB a s=true then 1 else 0) (fi:=jP (gA uo [(gk 1)])) (l:=w) ?_ rfl rfl (λx h=>⟨false,?_⟩) (by rw[f.len];omega))).r)))
 ·rw[wN,jU1 (OB c e) (jV rfl)];rfl
 ·rw[OW,oO (jU2 (TK a x (by have:=f.sg h;rw[d.1];exact this)) (jV rfl) (jV rfl))];cases soB a x<;>rfl
theorem Mu: ∀(l:kE) (a:List D) (x y:Sl),(∀p∈l,∃i j,p=[i,j])->a.length+l.length<=1000-> ∃b c,jI (ly [(gx 0),(gx 1)]) iX (iH (jJ 1)) (l.map cD) a [x,y]=some (a++l.map λp=>D.int (p.getD 1 0),[b,c])
 |[],a,x,y,_,_=>⟨x,y,by simp[jI]⟩
 |p::l,a,x,y,h,d=>by
  obtain⟨i,j,rfl⟩:=h p jB;obtain⟨b,c,e⟩:=Mu l (a++[.int j]) (ii i) (ii j) (λq f=>h q (jA _ f)) (by simp at d ⊢;omega);refine⟨b,c,?_⟩;rw[jw,jI];rw[show ly [(gx 0),(gx 1)] (cD [i,j]) [x,y]=some [ii i,ii j] from rfl];simp only[iz,qO,ja,oZ];rw[show jJ 1 [ii i,ii j]=some ((.int j,false),[ii i,ii j]) from rfl];simp only[iz];rw[gF (wL (by simp at d;omega))];simp only[iz];rw[e];simp
def Ot{a s b r:Int}(h:ltT (cD [b,r]) (cD [a,s])=false):a<=b:=by
 rw[oH] at h;by_cases q:b<a
 ·exact absurd (by simp[cT,cL,q]) h
 ·omega
def Ly{n:Nat}(T:n<=5){t c:gC}(o:TT n t)(k:ClOk n c): ∃I,jd [enc c,enc t]=some (enc (lc t c),[some (enc c),I])/\I=some (enc t):=by
 have Q:=k.len
 let pr:Int->List Int:=λs=>[ab (led t s),led t s]
 obtain⟨f,m,C,e⟩:=wK (cs:=c.map pr) (qH _ λx E=>by obtain⟨y,_,rfl⟩:=mO.mp E;simp[pr]) (by simp;omega)
 have z:iC [1] 1 (jP (jJ 0)) (gx 1) iX (iH (jG [(gJ (g1 pD) [(gn (gA ip [(gk 0),(gk 1)]))]),(gA ip [(gk 0),(gk 1)])])) [some (enc c),some (enc t),none]=some ((.lst ((c.map pr).map cD),true),[some (enc c),some (enc t),none]):=by
  refine(yX (caps:=[1]) (args:=[cD t]) (l:=c.map D.int) (δ1:=[some (enc c),some (enc t),none]) (λd=>cD (pr (iOf d))) rfl rfl rfl (λd hd=>?_) (by simp;omega)).trans ?_
  rotate_left
  ·rw[ir,ir];rfl
  ·obtain⟨x,E,rfl⟩:=mO.mp hd;obtain⟨a1,J,z⟩:=OT (k.2.2 x E);have j:gA ip [(gk 0),(gk 1)] (frz [cD t]++[some (.int x,false)])=some ((.int (led t x),false),frz [cD t]++[some (.int x,false)]):=jU2 (NY t x a1 (by rw[o.len];exact J) (by rw[o.len];exact z)) (jV rfl) (jV rfl);exact⟨false,wg (jC (TV _) (jE j).r) j⟩
 have A: ∀v:Sl,∃u w,jI (ly [(gx 0),(gx 1)]) iX (iH (jJ 1)) (f.map cD) [] [none,none]=some (f.map λp=>D.int (p.getD 1 0),[u,w]):=λv=>by
  obtain⟨u,w,e⟩:=Mu f [] none none (λp B=>by
   obtain⟨y,_,rfl⟩:=mO.mp (m.mem_iff.mp B);exact⟨_,_,rfl⟩) (by rw[m.length_eq];simp;omega)
  exact⟨u,w,by simpa using e⟩
 obtain⟨u,w,A⟩:=A none
 have L:(f.map λp=>p.getD 1 0)=lc t c:=by
  have j:(f.map λp=>p.getD 1 0).Perm (c.map (led t)):=by
   have:=m.map λp=>p.getD 1 0
   rwa [ir] at this
  have g: ∀p∈f,p=[ab (p.getD 1 0),p.getD 1 0]:=λp B=>by
   obtain⟨y,_,rfl⟩:=mO.mp (m.mem_iff.mp B);rfl
  refine LCs.uniq (n:=n) (t:=t) (c:=c) ⟨j,?_⟩ (pv o k).1;have H:((f.map λp=>p.getD 1 0).map ab).Nodup:=(j.map ab).symm.nodup (vJ o (GR k.2.1) λs C=>k.2.2 s C);rw[ir,oi];rw[ir,List.Nodup,oi] at H;refine(List.Pairwise.and C H).imp_of_mem λ{p q} h1 N h=>?_;have G:=h.1;rw[g p h1,g q N] at G;have:=Ot G;have O:=h.2;simp only[Function.comp] at O ⊢;omega
 refine⟨_,?_,rfl⟩;refine kJ (δ:=[some (enc c),some (enc t),some (.lst ((c.map pr).map cD),true)]) ⟨rfl,by decide,rfl⟩ ?_;refine(gG (jN (i:=2) z (show 2<3 by decide))).trans (jt (jU (jC (a:= .lst ((lc t c).map D.int)) rfl (jE (b:=true) ?_).r)));rw[qu (l:=f.map cD) (δ1:=[some (enc c),some (enc t),some (.lst ((c.map pr).map cD),true)]) (args:=[]) (fi:=jP (gJ (g1 mT) [(gk 2)])) ?_ rfl (by simp[gP]) A]
 ·have M:(f.map λp=>D.int (p.getD 1 0))=(lc t c).map D.int:=by rw[<-L,ir];rfl
  rw[M];rfl
 ·rw[wN,jC (show mT (.lst ((c.map pr).map cD))=some (.lst (f.map cD),true) from e) (jR rfl)];rfl
abbrev fsg:F:=(gy gIx (gn (jH [(fC (.int 1)),(jg nC (gn (fC (.int 1))))])) (gn (gA gD [(gk 0),(gn (fC (.int 2)))])))
def Ke(a:Int)(b:Bool): ∃(s c:Int),(s=1\/s= -1)/\ ∀δ:Dn,fsg (stt a b::δ)=some ((.int s,false),stt c b::δ):=by
 obtain⟨v,c,d,f,e⟩:=lj a b 2 (by lia) (by lia);refine⟨if v=0 then 1 else -1,c,by split<;>simp,λδ=>?_⟩;refine iT (o1:= .val (.lst [.int 1,.int (-1)],true)) (δ1:=stt a b::δ) rfl (gH (e _ δ _ rfl rfl)) rfl rfl ?_;rcases(show v=0\/v=1 by lia) with rfl|rfl<;>rfl
def Pj{x s:Int}(h:s=1\/s= -1): ∃y,(y=x\/y= -x)/\nD (.int x) (.int s)=some (.int y,false):=by
 rcases h with rfl|rfl
 ·exact⟨x,.inl rfl,Ui x⟩
 ·exact⟨-x,.inr rfl,Uh x⟩
abbrev tiC:FT:=(fT (gy gEq (gn (gA gD [(gk 0),(gn (fC (.int 2)))])) (gn (fC (.int 0)))))
theorem PF(b:Bool): ∀(m j:Nat) (a:Int) (c:gC) (x:Sl),1<=j->CA j c->c.length+m<=10-> ∃f d i,CA (j+m:Nat) d/\d.length<=10/\jI (gx 1) tiC (iH (gy nD (gk 1) (gn fsg))) ((List.range' j m).map λ(k:Nat)=>D.int (k:Int)) (c.map .int) [stt a b,x]=some (d.map .int,[stt f b,i])
 |0,j,a,c,x,_,l,t=>⟨a,c,x,by simpa using l,by lia,rfl⟩
 |m+1,j,a,c,x,E,l,t=>by
  obtain⟨v,a1,G,H,n⟩:=lj a b 2 (by lia) (by lia)
  have C:tiC [stt a b,ii j]=some (v==0,[stt a1 b,ii j]):=
   oO (o:=false) (iT (o1:= .val (.int v,false)) (δ1:=[stt a1 b,ii j]) (o2:= .val (.int 0,false)) (gH (n _ [ii j] _ rfl rfl)) rfl rfl rfl (OX _ _))
  rw[Ek,jw]
  have st: ∀(g:Int) (h:gC),CA (j+1:Nat) h->h.length+m<=10->(if(v==0)=true then iH (gy nD (gk 1) (gn fsg)) (c.map .int) [stt a1 b,ii j] else some (c.map .int,[stt a1 b,ii j]))=some (h.map .int,[stt g b,ii j])->
    ∃f d i,CA (j+(m+1):Nat) d/\d.length<=10/\jI (gx 1) tiC (iH (gy nD (gk 1) (gn fsg))) (D.int j::(List.range' (j+1) m).map λ(k:Nat)=>D.int (k:Int)) (c.map .int) [stt a b,x]=some (d.map .int,[stt f b,i]):=λg h h1 r e=>by
   obtain⟨f,d,i,z,A,B⟩:=PF b m (j+1) g h (ii j) (by lia) h1 r;refine⟨f,d,i,by rw[show j+(m+1)=j+1+m by lia];exact z,A,?_⟩;rw[jI,show gx 1 (.int j) [stt a b,x]=some [stt a b,ii j] from rfl];simp only[iz];rw[C];simp only[iz];rw[e];exact B
  by_cases hv:v=0
  ·obtain⟨s,g,u,p⟩:=Ke a1 b;obtain⟨y,w,q⟩:=Pj (x:=j) u;refine st g (c++[y]) (by have:=l.snoc (s:=y) (by rcases w with rfl|rfl;exact oh (by lia);exact zm (by lia)) (by lia);simpa using this) (by simp;lia) ?_;rw[hv,gF (show((0:Int)==0)=true from rfl),oZ,iT (o1:= .slot 1) (δ1:=[stt a1 b,ii j]) rfl (gH (p [ii j])) rfl rfl q];simp only[iz];rw[gF (wL (by simp;lia))];simp
  ·refine st a1 c (by simpa using l.up) (by lia) ?_;rw[hJ (by simpa using hv)]
theorem HS(n:Nat):ig 1 n=(List.range' 1 n).map λ(k:Nat)=>D.int (k:Int):=by
 unfold ig;rw[List.range'_eq_map_range,ir];exact nh λk _=>by simp
def F6(a:Int)(b:Bool)(n:Nat)(h1:1<=n)(E:n<=5): ∃t c,ClOk n c/\jQ [(.lst [.int a,.bl b],true),(.int n,false)]=some (enc c,[stt t b,ii n]):=by
 obtain⟨a1,c,x,p,G,u⟩:=PF b n 1 a [] none (by lia) ⟨by simp,by simp⟩ (by simp;lia)
 have C:FQ (gn (fC (.int 1))) (gn (gy kD (gk 1) (gn (fC (.int 1))))) [stt a b,ii n,none]=some (((List.range' 1 n).map λ(k:Nat)=>D.int (k:Int)),[stt a b,ii n,none]):=by
  rw[N8 (o1:= .val (.int 1,false)) (o2:= .val (.int ((n:Int)+1),false)) (i:=1) (j:=(n:Int)+1) rfl rfl rfl rfl (by lia) (by lia),show((n:Int)+1-1).toNat=n by lia,HS]
 have pre: ∀g,gB (jx 2 (iC [0] 1 (FQ (gn (fC (.int 1))) (gn (gy kD (gk 1) (gn (fC (.int 1)))))) (gx 1) tiC (iH (gy nD (gk 1) (gn fsg))))) g [stt a b,ii n,none]=g [stt a1 b,ii n,lsi c]:=λg=>
  gG (jN (i:=2) (δ1:=[stt a1 b,ii n,none]) ((qu (caps:=[0]) (args:=[(.lst [.int a,.bl b],true)]) C rfl (show([0]:List Nat).Nodup by decide) u).trans rfl) (show 2<3 by decide))
 have f:fT (gy gEq (gk 2) (gn (jH []))) [stt a1 b,ii n,lsi c]=some (decide (c=[]),[stt a1 b,ii n,lsi c]):=
  oO (o:=false) (iT (o1:= .slot 2) (o2:= .val (.lst [],true)) (δ2:=[stt a1 b,ii n,lsi c]) rfl (gH (by simp[iB])) rfl rfl (Aw c []))
 by_cases e:c=[]
 ·obtain⟨i,m,H,I,v⟩:=lj a1 b n (by lia) (by lia);obtain⟨s,d,l,w⟩:=Ke m b;obtain⟨y,B,A⟩:=Pj (x:=1+i) l;have h:ab y=1+i:=by rcases B with rfl|rfl;exact oh (by lia);exact zm (by lia)
  refine⟨d,[y],⟨by simp,by simp,λz q=>by simp at q;subst q;rw[h];lia⟩,?_⟩;refine kJ (δ:=[stt d b,ii n,lsi [y]]) ⟨rfl,by decide,rfl⟩ ((pre _).trans ?_);rw[e] at f;rw[e];refine(gG ((Ae f).trans ((gG (δ1:=[stt d b,ii n,lsi [y]]) (jN (i:=2) (δ1:=[stt d b,ii n,lsi []]) (r:=(.lst [.int y],true)) ?_ (show 2<3 by decide))).trans rfl))).trans (jt (jU (jC (a:= .lst [.int y]) rfl (jR rfl))));refine Oh (os:=[.val (.int y,false)]) (sJ (gH (iT (o1:= .val (.int (1+i),false)) (δ1:=[stt m b,ii n,lsi []]) (gH (iT (o1:= .val (.int 1,false)) (δ1:=[stt a1 b,ii n,lsi []]) rfl (gH (v _ [ii n,lsi []] (.slot 1) rfl rfl)) rfl rfl (TU _ _))) (gH (w [ii n,lsi []])) rfl rfl A))) rfl (BJ (by simp))
 ·refine⟨a1,c,⟨e,p.1,λs l=>by have:=p.2 s l;lia⟩,?_⟩;refine kJ (δ:=[stt a1 b,ii n,lsi c]) ⟨rfl,by decide,rfl⟩ ((pre _).trans ?_);rw[ou e] at f;exact(gG ((vT f).trans rfl)).trans (jt (jU (jC (a:= .lst (c.map D.int)) rfl (jR rfl))))
def dC(cs:kE):D:= .oth .dct (cs.map cD) (cs.map λ_=> .bl true)
theorem Ar: ∀l:List Int,(DC (l.map .int)).isSome=true
 |[]=>rfl
 |x::l=>by
  have:=Ar l;simp only[jw,DC,yE]
  cases h:DC (l.map D.int) with
  |none=>rw[h] at this;cases this
  |some k=>rfl
theorem Hh(c:gC):(Ca (cD c)).isSome=true:=Ar c
theorem N6(a:kE):((a.map cD).all λk=>(Ca k).isSome)=true:=by
 rw[md];intro d hd;obtain⟨c,_,rfl⟩:=mO.mp hd;exact Hh c
theorem Dz(a:kE)(c:gC):oJ (a.map cD) (cD c)=true:=by
 unfold oJ;rw[Hh,N6];simp
theorem Kl(c:gC): ∀a:List (List Int),rN (a.map cD) (a.map λ_=> .bl true) (cD c) (.bl true)=a.map λ_=> .bl true
 |[]=>rfl
 |x::a=>by simp[rN,Kl c a]
theorem Ra(a:kE)(c:gC):D.oth .dct (rn (a.map cD) (a.map λ_=> .bl true) (cD c) (.bl true)).1 (rn (a.map cD) (a.map λ_=> .bl true) (cD c) (.bl true)).2=dC (uD a c):=by
 unfold rn uD dC;rw[My];by_cases h:c∈a
 ·rw[gF (by simpa using h),gF h,Kl]
 ·rw[hJ (by simpa using h),hJ h];simp
theorem Hb(c:gC): ∀a:List (List Int),(kc (a.map cD) (a.map λ_=> .bl true) (cD c)).isSome=decide (c∈a)
 |[]=>rfl
 |x::a=>by
  simp only[jw,kc,Mh];by_cases h:x=c
  ·simp[h]
  ·have: ¬c=x:=λe=>h e.symm;simp[h,this,Hb c a]
def Il(c:gC)(cs:kE):qW (cD c) (dC cs)=some (.bl (!decide (c∈cs)),false):=by
 show(if oJ (cs.map cD) (cD c)=true then some (D.bl (!(kc (cs.map cD) (cs.map λ_=>D.bl true) (cD c)).isSome),false) else none)=_;rw[gF (Dz cs c),Hb]
def CsOk.add{n:Nat}{a:kE}{c:gC}(h:CsOk n a)(b:ClOk n c):CsOk n (uD a c):=by
 unfold uD;split
 ·exact h
 ·exact h.snoc b (by assumption)
def Hu{i:Nat}{f:F}{g:FO}{a δ1 δ2:Dn}{o:Opd}{x:D×Bool}{b:Bool}{cs:kE}{c:gC}(h1:f a=some ((.bl true,b),δ1))(d:δ1[i]?=some (some x))(e:g δ1=some (o,δ2))(h:res δ2 o=some (cD c))(j:δ2[i]?=some (some (dC cs,true)))(k:cs.length<10000):vU i f g a=some (.nx (δ2.set i (some (dC (uD cs c),true)))):=by
 unfold vU;rw[h1];simp only[iz];rw[d];simp only[];rw[e];simp only[iz];rw[h,j];unfold dC;simp only[];rw[gF ⟨Dz cs c,by simpa using k⟩,Ra];rfl
abbrev fbD:FS:=(gB (vU 3 (fC (.bl true)) (gn (gA jQ [(gk 0),(gk 1)]))) gX)
def Sq(a:Int)(b:Bool){n:Nat}(h1:1<=n)(k:n<=5){d:kE}(l:CsOk n d)(f g:Sl): ∃h j,CsOk n j/\fbD [stt a b,ii n,f,some (dC d,true),g,none,none,none]=some (.nx [stt h b,ii n,f,some (dC j,true),g,none,none,none]):=by
 obtain⟨h,c,o,e⟩:=F6 a b n h1 k;refine⟨h,uD d c,l.add o,(gG (δ1:=[stt h b,ii n,f,some (dC (uD d c),true),g,none,none,none]) ?_).trans rfl⟩
 have m:gn (gA jQ [(gk 0),(gk 1)]) [stt a b,ii n,f,some (dC d,true),g,none,none,none]=some (.val (enc c),[stt h b,ii n,f,some (dC d,true),g,none,none,none]):=
  gH (kb (δ1:=[stt a b,ii n,f,some (dC d,true),g,none,none,none]) (os:=[.slot 0,.slot 1]) (args:=[(.lst [.int a,.bl b],true),(.int n,false)]) rfl rfl (show([0]:List Nat).Nodup by decide) e)
 exact Hu (i:=3) (b:=false) rfl rfl m rfl rfl (by have:=l.len k;lia)
def V9(b:Bool){n:Nat}(h1:1<=n)(q:n<=5)(g:Sl)(l:List D)(a:Int)(cs:kE)(c:Sl)(o:CsOk n cs): ∃i f m,CsOk n f/\uj (gx 4) fbD l [stt a b,ii n,g,some (dC cs,true),c,none,none,none]=some (.nx [stt i b,ii n,g,some (dC f,true),m,none,none,none]):=by
 obtain⟨s,⟨i,f,m,k,rfl⟩,e⟩:=qX (fb:=fbD) (tg:=gx 4) (λ_ δ=> ∃a cs c,CsOk n cs/\δ=[stt a b,ii n,g,some (dC cs,true),c,none,none,none]) (λd l δ h=>by
  obtain⟨a,cs,c,o,rfl⟩:=h;obtain⟨a1,j,r,p⟩:=Sq a b h1 q o g (some (d,false));exact⟨_,_,rfl,p,a1,j,_,r,rfl⟩) l _ ⟨a,cs,c,o,rfl⟩
 exact⟨i,f,m,k,e⟩
abbrev ftF:FT:=(fT (gy gNe (gk 6) (gn (jH []))))
abbrev fbF:FS:=(gB (jx 7 (gA jd [(gn (PX.fPop 6)),(gk 5)])) (gB (sIf (fT (gy qW (gk 7) (gk 3))) (gB (vU 3 (fC (.bl true)) (gk 7)) (gB (oD (lK 6 (jJ 7))) gX)) gX) gX))
def Ob(fs:kE):gNe (.lst (fs.map cD)) (.lst [])=some (.bl (!decide (fs=[])),false):=by
 unfold gNe;rw[gF ⟨Ol fs,by decide⟩];cases fs<;>simp[D.eqb,D.eqbL]
def So{n:Nat}(m:n<=5){t:gC}(q:TT n t){cs fs:kE}{c:gC}(p:CsOk n cs)(v:fs.length<=1000)(s:ClOk n c)(a d f g j:Sl):
  fbF [a,d,f,some (dC cs,true),g,some (enc t),lsC (fs++[c]),j]=some (.nx [a,d,f,some (dC (uD cs (lc t c)),true),g,some (enc t),lsC (if lc t c∈cs then fs else fs++[lc t c]),some (enc (lc t c))]):=by
 obtain⟨_,e,rfl⟩:=Ly m q s
 have u:gn (PX.fPop 6) [a,d,f,some (dC cs,true),g,some (enc t),lsC (fs++[c]),j]=some (.val (enc c),[a,d,f,some (dC cs,true),g,some (enc t),lsC fs,j]):=by
  refine gH ?_;unfold PX.fPop;simp[lsC]
 refine(gG (δ1:=[a,d,f,some (dC cs,true),g,some (enc t),lsC fs,some (enc (lc t c))]) (jN (i:=7) (δ1:=[a,d,f,some (dC cs,true),g,some (enc t),lsC fs,j]) (kb (δ1:=[a,d,f,some (dC cs,true),g,some (enc t),lsC fs,j]) (os:=[.val (enc c),.slot 5]) (args:=[enc c,enc t]) (lu u rfl) rfl (by simp[gP]) e) (show 7<8 by decide))).trans ?_
 have k:fT (gy qW (gk 7) (gk 3)) [a,d,f,some (dC cs,true),g,some (enc t),lsC fs,some (enc (lc t c))]=some (!decide (lc t c∈cs),[a,d,f,some (dC cs,true),g,some (enc t),lsC fs,some (enc (lc t c))]):=
  oO (jO (Il _ _) (jV rfl).r (jR rfl))
 by_cases h:lc t c∈cs
 ·rw[xG h] at k;refine(gG ((vT k).trans rfl)).trans ?_;rw[gF h,show uD cs (lc t c)=cs from gF h];rfl
 ·rw[ou h] at k;refine(gG (δ1:=[a,d,f,some (dC (uD cs (lc t c)),true),g,some (enc t),lsC (fs++[lc t c]),some (enc (lc t c))]) ((Ae k).trans ((gG (δ1:=[a,d,f,some (dC (uD cs (lc t c)),true),g,some (enc t),lsC fs,some (enc (lc t c))]) ?_).trans ((FY (i:=6) (l0:=fs.map cD) (l:=fs.map cD) (r:=enc (lc t c)) (δ1:=[a,d,f,some (dC (uD cs (lc t c)),true),g,some (enc t),lsC fs,some (enc (lc t c))]) rfl rfl rfl (by simp;lia)).trans ?_)))).trans ?_
  ·exact Hu (i:=3) (b:=false) (o:= .slot 7) (cs:=cs) (δ1:=[a,d,f,some (dC cs,true),g,some (enc t),lsC fs,some (enc (lc t c))]) (δ2:=[a,d,f,some (dC cs,true),g,some (enc t),lsC fs,some (enc (lc t c))]) rfl rfl rfl rfl rfl (by have:=p.len m;lia)
  ·simp[lsC]
  ·rw[hJ h];rfl
theorem JO{n:Nat}(v:n<=5){t:gC}(w:TT n t)(d f g i:Sl): ∀(a:Nat) (cs fs:kE) (j:Sl),CsOk n cs->(∀c∈fs,ClOk n c)->fs.length<=500->2*(243-cs.length)+fs.length<a-> ∃l s r,CsOk n l/\lX ftF fbF a [d,f,g,some (dC cs,true),i,some (enc t),lsC fs,j]=some (.nx [d,f,g,some (dC l,true),i,some (enc t),s,r])
 |0,_,_,_,_,_,_,h=>by lia
 |a+1,cs,fs,j,u,hf,H,h=>by
  have m:ftF [d,f,g,some (dC cs,true),i,some (enc t),lsC fs,j]=some (!decide (fs=[]),[d,f,g,some (dC cs,true),i,some (enc t),lsC fs,j]):=
   oO (o:=false) (iT (o1:= .slot 6) (o2:= .val (.lst [],true)) (δ2:=[d,f,g,some (dC cs,true),i,some (enc t),lsC fs,j]) rfl (gH (by simp[iB])) rfl rfl (Ob fs))
  by_cases b:fs=[]
  ·rw[xG b] at m;exact⟨cs,_,j,u,MM m⟩
  ·rw[ou b] at m;have e:=D8 b;have A:fs.dropLast.length+1=fs.length:=by rw[Ew];have:=ME.mpr b;lia
   have B:=hf _ (List.getLast_mem b);have y:=So v w u (fs:=fs.dropLast) (by lia) B d f g i j;rw[e] at y;have x:=Dx w B;have C:=u.add x;have p:=C.len v
   obtain⟨l,s,r,E,G⟩:=JO v w d f g i a _ (if lc t (fs.getLast b)∈cs then fs.dropLast else fs.dropLast++[lc t (fs.getLast b)]) (some (enc (lc t (fs.getLast b)))) C (λc k=>by
    have dl: ∀c∈fs.dropLast,ClOk n c:=λc k=>hf c (IV _ k);split at k
    ·exact dl c k
    ·rcases rK.mp k with z|z
     ·exact dl c z
     ·cases Gm.mp z;exact x) (by split<;>simp<;>lia) (by
    unfold uD at p ⊢;split
    ·rename_i q;simp only[q,ja] at p ⊢;lia
    ·rename_i q;simp only[q,jl] at p ⊢;simp at p ⊢;lia)
   exact⟨l,s,r,E,(ML m y).trans G⟩
def VW(cs:kE)(a:cs.length<=243){k:Int}(h:k=0\/k=1): ∃fs:List (List Int),(∀c∈fs,c∈cs)/\fs.length<=243/\DJ (.lst (cs.map cD)) (.int k)=some (.lst (fs.map cD),true):=by
 have b:=BJ (n:=243) (by decide);rcases h with rfl|rfl
 ·refine⟨[],by simp,by simp,?_⟩;show(if(0:Int)<=0/\(0:Int)<1000/\(cs.map cD).length*0<=sizeLine then some (D.lst (List.replicate 0 (cs.map cD)).flatten,true) else none)=_;rw[gF ⟨by decide,by decide,by simp⟩];rfl
 ·refine⟨cs,λ_ h=>h,a,?_⟩;show(if(0:Int)<=1/\(1:Int)<1000/\(cs.map cD).length*1<=sizeLine then some (D.lst (List.replicate 1 (cs.map cD)).flatten,true) else none)=_;rw[gF ⟨by decide,by decide,by simp;exact mw a b⟩];simp
def Fj(a:Int)(b:Bool)(n:Nat)(e:n<=5): ∃G ks,Gk n ks/\kR [(.lst [.int a,.bl b],true),(.int n,false)]=some ((rD' n ks,false),[stt G b,ii n]):=by
 have C: ∀δ:Dn,fT (gy gEq (gk 1) (gn (fC (.int 0)))) (stt a b::ii n::δ)=some (decide ((n:Int)=0),stt a b::ii n::δ):=λδ=>
  oO (o:=false) (jO ((OX _ _).trans (by rw[Cu])) (jV rfl).r (jE rfl).r)
 by_cases R:n=0
 ·subst R;refine⟨a,[],⟨by lia,⟨by simp,by simp⟩,List.Pairwise.nil,by simp⟩,?_⟩;refine kJ (δ:=[stt a b,ii (0:Nat),none,none,none,none,none,none]) ⟨rfl,by decide,rfl⟩ (jt ((Ae (C _)).trans (jt (jU ?_))));exact wg (a:=(.int 0,false)) (b:=(.tup [],false)) rfl (by simp)
 ·have S:1<=n:=by lia
  obtain⟨u,a1,V,W,J⟩:=lj a b 3 (by lia) (by lia)
  let l:List Int:=[3,5,12]
  let m:=l.getD u.toNat 0
  have Z:0<m/\m<=12:=by
   rcases(show u=0\/u=1\/u=2 by lia) with rfl|rfl|rfl<;>decide
  obtain⟨q,A,q0,q1,L⟩:=lj a1 b (m+1) (by lia) (by lia);obtain⟨p,rfl⟩: ∃p:Nat,q=p:=⟨q.toNat,by lia⟩
  obtain⟨s,cs,d,w,M⟩:=V9 b S e (ii m) (ig 0 p) A [] none ⟨by simp,by simp⟩;obtain⟨f,t,z,N⟩:=ye s b n e;have z:=Gz z;obtain⟨v,g,v0,v1,O⟩:=lj f b 2 (by lia) (by lia);have X:=w.len e;obtain⟨fs,D,K,Q⟩:=VW cs X (k:=if v=0 then 1 else 0) (by split<;>simp);obtain⟨x,H,I,j,T⟩:=JO e z (stt g b) (ii n) (ii m) d UJ cs fs none w (λc h=>w.2 c (D c h)) (by lia) (by show _<100000;lia);have y:=j.len e;obtain⟨ks,B,P,U⟩:=wK (cs:=x) (qH _ λc F=>(j.2 c F).1) (by lia);have hk:CsOk n ks:=⟨B.symm.nodup j.1,λc h=>j.2 c (B.mem_iff.mp h)⟩
  refine⟨g,ks.take 30,⟨e,hk.take 30,P.take 30,by rw[tD];lia⟩,?_⟩;refine kJ (δ:=[stt g b,ii n,ii m,some (dC x,true),d,some (enc t),H,I]) ⟨rfl,by decide,rfl⟩ ?_;have E:=C [none,none,none,none,none,none];rw[ou (show ¬(n:Int)=0 by lia)] at E;refine(gG ((vT E).trans rfl)).trans ?_;refine(gG (jN (i:=2) (δ1:=[stt a1 b,ii n,none,none,none,none,none,none]) (iT (o1:= .val (.lst (l.map .int),true)) (o2:= .val (.int u,false)) (gH (δ1:=[stt a b,ii n,none,none,none,none,none,none]) (by simp[l,iB])) (gH (J _ [ii n,none,none,none,none,none,none] _ rfl rfl)) rfl rfl (Uq V (by simpa[l] using W))) (show 2<8 by decide))).trans ?_;refine(gG (δ1:=[stt a1 b,ii n,ii m,some (dC [],true),none,none,none,none]) rfl).trans ?_;refine(gG ((oY (pz (o:= .val (.int p,false)) (δ1:=[stt A b,ii n,ii m,some (dC [],true),none,none,none,none]) (gH (L _ [ii n,ii m,some (dC [],true),none,none,none,none] (.val (.int (m+1),false)) rfl rfl)) rfl (by lia))).trans M)).trans ?_;refine(gG (jN (i:=5) (δ1:=[stt f b,ii n,ii m,some (dC cs,true),d,none,none,none]) (kb (δ1:=[stt s b,ii n,ii m,some (dC cs,true),d,none,none,none]) (os:=[.slot 0,.slot 1]) (args:=[(.lst [.int s,.bl b],true),(.int n,false)]) rfl rfl (show([0]:List Nat).Nodup by decide) N) (show 5<8 by decide))).trans ?_;refine(gG (jN (i:=6) (δ1:=[stt g b,ii n,ii m,some (dC cs,true),d,some (enc t),none,none]) (iT (o1:= .val (.lst (cs.map cD),true)) (o2:= .val (.int (if v=0 then 1 else 0),false)) (δ1:=[stt f b,ii n,ii m,some (dC cs,true),d,some (enc t),none,none]) rfl (gH (iT (o1:= .val (.lst [.int 1,.int 0],true)) (δ1:=[stt f b,ii n,ii m,some (dC cs,true),d,some (enc t),none,none]) rfl (gH (O _ [ii n,ii m,some (dC cs,true),d,some (enc t),none,none] _ rfl rfl)) rfl rfl ?_)) rfl rfl Q) (show 6<8 by decide))).trans ?_
  ·rcases(show v=0\/v=1 by lia) with rfl|rfl<;>rfl
  refine(gG T).trans (jt (jU (wg (a:=(.int n,false)) (b:=(.tup ((ks.take 30).map cD),false)) rfl (jC (a:= .lst ((ks.take 30).map cD)) rfl (jE (b:=true) ?_).r))));have Y:nB (dC x)=some (.lst (ks.map cD),true):=U;unfold qr;rw[gH (jC Y (jR rfl))];simp only[iz,Qp,VL,Kr];rw[show gSl none (some 30) (.lst (ks.map cD))=some (.lst (PX.oP (ks.map cD) none (some ((30:Nat):Int))),true) from rfl,SD,List.map_take];rfl
def PH(n:Nat):List (List Int):=(List.range (2^n)).map λ(k:Nat)=>(List.range n).map λ(j:Nat)=>Builtin.bitAnd ((k:Int) / 2^(n-1-j)) 1
theorem IM: ∀n:Nat,n<6->PH n=og n:=by decide+kernel
def Ov{n:Nat}(f:n<=5):nQ [(.int n,false)]=some ((.lst ((og n).map cD),true),[ii n]):=by
 have p: ∀k:Nat,k<=5->Sg (.int 1) (.int k)=some (.int (2^k:Nat),false):=by
  intro k hk;have:k=0\/k=1\/k=2\/k=3\/k=4\/k=5:=by lia
  have i:qy 1 (k:Int):=by rcases this with rfl|rfl|rfl|rfl|rfl|rfl<;>(unfold qy;decide+kernel)
  show((if qy 1 (k:Int) then some (D.int (1*2^(k:Int).toNat)) else none).map λz=>(z,false))=_;rw[gF i];simp
 have h:=Ia f;have g: ∀(m:Nat),ig 0 m=(List.range m).map λ(k:Nat)=>D.int (k:Int):=λm=>by unfold ig;simp
 have c: ∀k:Nat,gJ (g1 lr) [(gn (iC [1,0] 1 (sA (gk 0)) (gx 2) iX (iH (gy L0 (gn (gy Sf (gk 0) (gn (gy gSub (gn (gy gSub (gk 1) (gn (fC (.int 1))))) (gk 2))))) (gn (fC (.int 1)))))))] (frz [.int n]++[some (.int k,false)])=some ((cD ((List.range n).map λ(j:Nat)=>Builtin.bitAnd ((k:Int) / 2^(n-1-j)) 1),false),frz [.int n]++[some (.int k,false)]):=λk=>by
  refine jC (a:= .lst (((List.range n).map λ(j:Nat)=>Builtin.bitAnd ((k:Int) / 2^(n-1-j)) 1).map D.int)) rfl (jE (b:=true) ?_).r;refine(yX (caps:=[1,0]) (args:=[.int k,.int n]) (l:=(List.range n).map λ(j:Nat)=>D.int (j:Int)) (δ1:=frz [.int n]++[some (.int k,false)]) (λd=> .int (Builtin.bitAnd ((k:Int) / 2^(n-1-(iOf d).toNat)) 1)) ?_ rfl rfl (λd hd=>?_) (by simp;lia)).trans ?_
  ·rw[pz (n:=n) (o:= .slot 0) rfl rfl (by lia),g]
  ·obtain⟨j,e,rfl⟩:=mO.mp hd;have e:=CD.mp e;refine⟨false,jO (a:= .int ((k:Int) / 2^(n-1-j))) rfl (jE (b:=false) (jO ?_ (jV (d:= .int k) rfl).r (jE (b:=false) (jO (OV _ _) (jE (b:=false) (jO (OV _ _) (jV (d:= .int n) rfl).r (jE rfl).r)).r (jV (d:= .int j) rfl).r)).r)).r (jE rfl).r⟩;show((if(0:Int)<=(n:Int)-1-j then some (D.int ((k:Int) / 2^((n:Int)-1-j).toNat)) else none).map λz=>(z,false))=_;rw[gF (by lia),show((n:Int)-1-j).toNat=n-1-j by lia];rfl
  ·rw[ir,ir];rfl
 refine Ql (δ:=[ii n]) ⟨rfl,by decide,rfl⟩ ((yX (caps:=[0]) (args:=[.int n]) (l:=(List.range (2^n)).map λ(k:Nat)=>D.int (k:Int)) (δ1:=[ii n]) (λd=>cD ((List.range n).map λ(j:Nat)=>Builtin.bitAnd (iOf d / 2^(n-1-j)) 1)) ?_ rfl rfl (λd hd=>?_) (by simp;lia)).trans ?_)
 ·refine(pz (n:=2^n) (o:= .val (.int (2^n:Nat),false)) (gH (jO (p n f) (jE rfl).r (jV rfl).r)) rfl (by lia)).trans ?_;rw[g];rfl
 ·obtain⟨k,_,rfl⟩:=mO.mp hd;exact⟨false,c k⟩
 ·rw[<-IM n (by lia),PH,ir,ir];rfl
def Lp{a b:D}{c fb:FO}{δ:Dn}(h:a=b)(hd:a.dep<=50)(d:RJ c δ a)(e:RJ fb δ b):fT (gy gNe c fb) δ=some (false,δ):=by
 subst h;exact oO (o:=false) (jO (LW hd) d e)
def Pw(c:gC):(cD c).dep<=50:=by rw[F3];decide
def no{t:FT}{f:FS}{δ:Dn}(g:FS)(h:t δ=some (false,δ)):gB (sIf t f gX) g δ=g δ:=(gG ((vT h).trans rfl))
def J8{k l:kE}(g:k.Perm l)(h1:SrtC k)(f:SrtC l):k=l:=by
 refine g.eq_of_pairwise (le:=λa b=>ltT (cD b) (cD a)=false) (λa b _ _ x y=>?_) h1 f;rw[oH] at x y;have d: ∀x:List Int,D.pr (cD x)=true:=λx=>by simp[D.pr,yp]
 have e:cT (cD a) (cD b)= .eq:=by
  rw[uy] at x
  cases c:cT (cD a) (cD b) with
  |lt=>exact absurd c y
  |gt=>rw[c] at x;exact absurd rfl x
  |eq=>rfl
 have:=zb _ _ (d a) (d b) e;simpa[yd] using lP unC this
def zp(ev:EvF)(d:D):Prop:=ev [(d,false),(d,false)]=some ((.bl true,false),[some (d,false),some (d,false)])
theorem blU{ev:EvF}: ∀(l a:List D) (x y:Sl),(∀d∈l,zp ev d)->a.length+l.length<=10000-> ∃b c,jI (ly [(gx 0),(gx 1)]) iX (iH (gA ev [(gk 0),(gk 1)])) ((l.zip l).map λp=> .tup [p.1,p.2]) a [x,y]=some (a++l.map λ_=> .bl true,[b,c])
 |[],a,x,y,_,_=>⟨x,y,by simp[jI]⟩
 |d::l,a,x,y,h,f=>by
  obtain⟨b,c,e⟩:=blU l (a++[.bl true]) (some (d,false)) (some (d,false)) (λg i=>h g (jA _ i)) (by simp at f ⊢;omega);refine⟨b,c,?_⟩;have j:a.length<sizeLine:=by rw[iB];simp at f;omega
  simp only[List.zip_cons_cons,jw,jI];rw[show ly [(gx 0),(gx 1)] (.tup [d,d]) [x,y]=some [some (d,false),some (d,false)] from rfl];simp only[iz,qO,ja,oZ];rw[jU2 (h d jB) (jV rfl) (jV rfl)];simp only[iz];rw[gF j];simp only[iz];rw[e];simp
def MU{ev:EvF}{l:List D}(h: ∀d∈l,zp ev d)(f:l.length<=1000):zp (evF 2 2 [] (jK ev)) (.tup l):=by
 obtain⟨g,i,e⟩:=blU (ev:=ev) l [] none none h (by simp;omega)
 let δ:Dn:=[some (.tup l,false),some (.tup l,false)]
 have c:iC [] 2 (ql (gk 0) (gk 1)) (ly [(gx 0),(gx 1)]) iX (iH (gA ev [(gk 0),(gk 1)])) δ=some ((.lst (l.map λ_=> .bl true),true),δ):=by
  unfold iC;rw[show ql (gk 0) (gk 1) δ=some ((l.zip l).map λp=> .tup [p.1,p.2],δ) from rfl];simp only[iz,oo,Ah,gP,sO,ja,rB,tf,List.replicate_zero];rw[e];rfl
 have b:gJ (g1 DL) [(gn (iC [] 2 (ql (gk 0) (gk 1)) (ly [(gx 0),(gx 1)]) iX (iH (gA ev [(gk 0),(gk 1)]))))] δ=some ((.bl true,false),δ):=
  jC (a:= .lst (l.map λ_=> .bl true)) (by rw[sN (λ_=>true)];simp) (jE c).r
 refine kJ (δ:=δ) ⟨rfl,by decide,rfl⟩ (jt ((Ae (δ1:=δ) rfl).trans ?_));refine(gG ((vT (δ1:=δ) (by simp[δ,isT])).trans rfl)).trans (jt (jU ((Sw (δ1:=δ) (o:=false) ?_).trans b)));simp[δ]
def Sb(ev:EvF)(i:Int):zp (evF 2 2 [] (jK ev)) (.int i):=by
 simp[zp,jK,evF,gZ,isT]
def rdU(n:Nat){ks:kE}(a:ks.length<=1000)(h: ∀c∈ks,c.length<=1000):zp (gW RD) (rD' n ks):=
 MU (ev:=gW 5) (λd hd=>by
  rcases jM.mp hd with rfl|hd
  ·exact Sb (gW 4) n
  ·cases Gm.mp hd
   exact MU (ev:=gW 4) (λd hd=>by
    obtain⟨t,b,rfl⟩:=mO.mp hd
    exact MU (ev:=gW 3) (λd hd=>by
     obtain⟨i,_,rfl⟩:=mO.mp hd;exact Sb (gW 2) i) (by simpa using h t b)) (by simpa using a)) (by simp)
def MJ{f:FS}{x:XS}{a δ1:Dn}(h:f a=some (.nx δ1))(b:FW δ1=true):JH f x a=x δ1:=by unfold JH;rw[h];simp only[iz];rw[gF b]
theorem Tb{t:FT}{x y:XS}{a:Dn}(h:t a=some (true,a))(b:FW a=true):zIf t x y a=x a:=by unfold zIf;rw[h];simp only[iz];rw[gF b];rfl
def yS{n np:Nat}{a:iI}{f:FS}{args:List (D×Bool)}(h:f (args.map some++List.replicate (n-np) none)=none):evF n np a f args=none:=by
 unfold evF;split
 ·rw[h]
 ·rfl
def Og{b:iI}{f:F}{x:XS}{n i:Nat}{fs:FS}{g:Str->Option Nat}{e:Dn}{args:List (D×Bool)}{c:Str}{C:Nat}{d:D}(h1:iN e (b.map .slot)=some args)(h:(args.all λa=>!a.2)=true)(j:f (args.map some)=none)(k:x (args.map some)=some c)(l:g c=some C)(m:vR n i fs (.oth (.exc C) [] [])=some d):vD b f x n i fs g e=some ((d,false),e):=by
 unfold vD;rw[h1];simp only[iz];rw[gF h,j];simp only[];rw[k];simp only[iz];rw[l];simp only[iz];rw[m];rfl
def Md{b:iI}{f:F}{x:XS}{n i:Nat}{fs:FS}{e:Str->Option Nat}{c:Dn}{args:List (D×Bool)}{r}{d:D}(h1:iN c (b.map .slot)=some args)(g:(args.all λa=>!a.2)=true)(h:f (args.map some)=some r)(j:vR n i fs .non=some d):vD b f x n i fs e c=some ((d,false),c):=by
 unfold vD;rw[h1];simp only[iz];rw[gF g,h];simp only[];rw[j];rfl
def sG{a:EvF}{fs:List FO}{b δ1:Dn}{os:List Opd}{args:List (D×Bool)}(h1:jk fs b=some (os,δ1))(c:iN δ1 os=some args)(d:a args=none):gA a fs b=none:=by
 rw[MZ,h1];simp only[iz];rw[c];simp only[iz];rw[d];split<;>rfl
def xX{b:List D->Option Str}{fs:List FO}{d δ1:Dn}{os:List Opd}{args:List (D×Bool)}{c:Str}(h1:jk fs d=some (os,δ1))(e:iN δ1 os=some args)(f:(args.all λa=>!a.2)=true)(g:b (args.map (·.1))=some c):ox b fs d=some c:=by
 unfold ox;rw[h1];simp only[iz];rw[e];simp only[iz];rw[gF f];exact g
def E6:vR 5 1 (hW CT oj) (.oth (.exc 61) [] [])=some (.str "turning"):=by kernel_rfl
def HK:vR 5 1 (hW CT oj) .non=some .non:=by kernel_rfl
def Vj:(λz=>oj.lookup z) ("NoTurning":Str)=some 61:=by kernel_rfl
def J2{n:Nat}{d:D}(h:tB n d=true): ∃t,d=cD t/\TT n t:=by
 rw[J3] at h
 cases d with
 |tup l=>
  simp only[lB,kZ,md,uN] at h;refine⟨l.map iOf,?_,?_⟩
  ·have:l=(l.map iOf).map D.int:=by
    rw[ir]
    conv=>lhs;rw[<-nH l]
    exact nh λd hd=>EX (h.1 d hd)
   exact lP D.tup this
  ·unfold TT;rw[ir];exact h.2
 |_=>cases h
section
variable {n:Nat}{d:D}{c:kE}{a:gC}
theorem Pz(hd:OkD d)(h:tB n d=false):lT (fT (gA iM [(gk 0),(gk 1)])) [ii n,some (d,false)]=some (true,[ii n,some (d,false)]):=
 qt (b:=false) (oO (jU2 ((qb n d hd).trans (by rw[h])) (jV rfl) (jV rfl)))
def Mp(hd:OkD d)(h:tB n d=false):iQ [(.int n,false),(d,false)]=none/\kL [.int n,d]=some "NoTurning":=by
 constructor
 ·refine yS ?_;show gB _ _ [ii n,some (d,false)]=none;rw[Fm,Ae (Pz hd h)];rfl
 ·show kK [ii n,some (d,false)]=some "NoTurning";unfold kK;rw[Tb (Pz hd h) rfl];rfl
def RZ(hd:OkD d)(h:tB n d=false):nX [(rD' n c,false),(d,false)]=none/\xY [rD' n c,d]=some "NoTurning":=by
 obtain⟨e,f⟩:=Mp hd h;have s1:HR (ly [(gx 2),(gx 3)]) (jJ 0) [some (rD' n c,false),some (d,false),none,none]=some (.nx [some (rD' n c,false),some (d,false),ii n,some (.tup (c.map cD),false)]):=rfl;constructor
 ·refine yS ((gG s1).trans ?_);have b:gA iQ [(gk 2),(gk 1)] [some (rD' n c,false),some (d,false),ii n,some (.tup (c.map cD),false)]=none:=sG (os:=[.slot 2,.slot 1]) (lu rfl rfl) rfl e;rw[Fm,GN,b];rfl
 ·show Bv [some (rD' n c,false),some (d,false),none,none]=some "NoTurning";unfold Bv;exact(MJ s1 rfl).trans (xX (os:=[.slot 2,.slot 1]) (δ1:=[some (rD' n c,false),some (d,false),ii n,some (.tup (c.map cD),false)]) (args:=[(.int n,false),(d,false)]) (lu rfl rfl) rfl rfl f)
def N2(i:a.length=n)(hd:OkD d)(h:tB n d=false):iL [enc a,(d,false)]=none/\la [cD a,d]=some "NoTurning":=by
 obtain⟨f,g⟩:=Mp hd h;have b:gn (gJ (g1 pT) [(gk 0)]) [some (enc a),some (d,false)]=some (.val (.int n,false),[some (enc a),some (d,false)]):=gH (jC (Pk i) (jV rfl).r);constructor
 ·refine yS ?_;show gB _ _ [some (enc a),some (d,false)]=none;have e:gA iQ [(gn (gJ (g1 pT) [(gk 0)])),(gk 1)] [some (enc a),some (d,false)]=none:=sG (os:=[.val (.int n,false),.slot 1]) (lu b rfl) rfl f;rw[Fm,GN,e];rfl
 ·show mf [some (enc a),some (d,false)]=some "NoTurning";unfold mf;exact xX (os:=[.val (.int n,false),.slot 1]) (δ1:=[some (enc a),some (d,false)]) (args:=[(.int n,false),(d,false)]) (lu b rfl) rfl rfl g
def rq(n:Nat)(d:D):D:=if tB n d=true then .non else .str "turning"
def BQ{b:EvF}{e:List D->Option Str}{i j:Nat}{r:D}{δ:Dn}{x}(h1:iN δ [.slot i,.slot j]=some [(r,false),(d,false)])(l:tB n d=true->b [(r,false),(d,false)]=some x)(k:tB n d=false->b [(r,false),(d,false)]=none/\e [r,d]=some "NoTurning"):
  vD [i,j] (gA b [(gk 0),(gk 1)]) (ox e [(gk 0),(gk 1)]) 5 1 (hW CT oj) (λz=>oj.lookup z) δ=some ((rq n d,false),δ):=by
 unfold rq
 cases h:tB n d with
 |true=>exact Md (args:=[(r,false),(d,false)]) h1 rfl (jU2 (l h) (jV rfl) (jV rfl)) HK
 |false=>
  obtain⟨f,g⟩:=k h;exact Og (args:=[(r,false),(d,false)]) h1 rfl (sG (os:=[.slot 0,.slot 1]) (δ1:=[some (r,false),some (d,false)]) (lu rfl rfl) rfl f) (xX (os:=[.slot 0,.slot 1]) (δ1:=[some (r,false),some (d,false)]) (args:=[(r,false),(d,false)]) (lu rfl rfl) rfl rfl g) Vj E6
end
def RY{n:Nat}{t:gC}{cs ds:kE}(i:TT n t)(d:Gk n cs)(h:LR t cs ds):pG [(rD' n cs,false),enc t]=some ((rD' n ds,false),[some (rD' n cs,false),some (enc t)]):=by
 have m:=d.1;have j:=d.2.2.2
 obtain⟨f,o,p,e⟩:=wK (cs:=cs.map (lc t)) (qH _ λc k=>by
  obtain⟨x,g,rfl⟩:=mO.mp k;exact(Dx i (d.2.1.2 x g)).1) (by simp;lia)
 obtain rfl:f=ds:=J8 (o.trans h.1.symm) p h.2;refine Ql ⟨rfl,by decide,rfl⟩ (wg (a:=(.int n,false)) (b:=(.tup (f.map cD),false)) (jO rfl (jV rfl).r (jE rfl).r) (jC (a:= .lst (f.map cD)) rfl (jE (b:=true) (jC e (jE (b:=true) (Hy (l:=cs) (caps:=[1]) (args:=[cD t]) (lc t) ?_ rfl rfl (λx g=>⟨false,?_⟩) (by lia))).r)).r))
 ·rw[wN,jO (r:=(.tup (cs.map cD),false)) rfl (jV rfl).r (jE rfl).r];rfl
 ·obtain⟨q,e,_⟩:=Ly m i (d.2.1.2 x g);exact jU2 e (jV rfl) (jV rfl)
def pA(a t:gC):List (Int×Int):=(a.zip t).map λp=>(ab p.2,if p.2>0 then p.1 else 1-p.1)
def NG{n:Nat}{a t:gC}(h1:a.length=n)(b:t.length=n):(pA a t).map (·.1)=t.map ab:=by
 unfold pA;rw[ir];have:(a.zip t).map Prod.snd=t:=List.map_snd_zip (by lia)
 conv=>rhs;rw[<-this]
 rw[ir];rfl
theorem Ni{l:List (Int×Int)}{p:Int×Int}(h:p.1∉l.map (·.1)):yo l p=l++[p]:=by
 unfold yo;rw[hJ];intro z;obtain⟨q,a,e⟩:=List.any_eq_true.mp z;exact h (mO.mpr ⟨q,a,by simpa using e⟩)
theorem Hn: ∀(a l:List (Int×Int)),((l++a).map (·.1)).Nodup->a.foldl yo l=l++a
 |[],l,_=>by simp
 |p::a,l,h=>by
  have b:p.1∉l.map (·.1):=by
   rw[vL,List.nodup_append] at h;exact λz=>h.2.2 _ z _ (by simp) rfl
  rw[xH,Ni b,Hn a (l++[p]) (by simpa using h)];simp
theorem Ha{k v:Int}: ∀{a:List (Int×Int)},(a.map (·.1)).Nodup->(k,v)∈a->kc (a.map λp=>D.int p.1) (a.map λp=>D.int p.2) (.int k)=some (.int v)
 |[],_,h=>by simp at h
 |p::a,b,h=>by
  simp only[jw,kc,D.eqb];simp only[jw,wJ] at b;rcases jM.mp h with rfl|h
  ·simp
  ·have:p.1≠k:=λe=>b.1 (e▸mO.mpr ⟨_,h,rfl⟩);simp[this,Ha b.2 h]
def N5{n:Nat}{t w a:gC}(l:TT n t)(m:BK n t w)(h:D4 n a){k:Nat}(hk:k<n):((k:Int)+1,(laF w a).getD k 0)∈pA a t:=by
 have u:(k:Int)+1∈t.map ab:=l.mem_iff.mpr (J7.mpr ⟨by lia,by lia⟩);obtain⟨j,s,c⟩:=A5 u;have i:=l.len;have d:j<n:=by simpa[i] using s
 have f:ab (t.getD j 0)=(k:Int)+1:=by
  rw[uH] at c;simpa[kh,i,d] using c
 have b:=m.2 _ (GF d);rw[kf] at b;have o:a.getD j 0=0\/a.getD j 0=1:=h.2 _ (kn (by rw[h.1];exact d))
 have r:(laF w a).getD k 0=if t.getD j 0>0 then a.getD j 0 else 1-a.getD j 0:=by
  have p:(laF w a).getD k 0=if soB a (w.getD k 0)=true then 1 else 0:=by simp[laF,kh,m.1,hk]
  rw[p];unfold led at b;unfold ab at f;by_cases g:t.getD j 0>0
  ·rw[gF g] at b;rw[hJ (by lia)] at f;rw[show(t.getD j 0-1).toNat=k by lia] at b;rw[b,gF g];unfold soB;rw[oh (by lia),show(((j:Int)+1).toNat-1)=j by lia,gF (show(j:Int)+1>0 by lia)];rcases o with e|e<;>rw[e]<;>rfl
  ·rw[hJ g] at b;have q: -t.getD j 0=(k:Int)+1:=by split at f<;>lia
   rw[show(-t.getD j 0-1).toNat=k by lia] at b;rw[show w.getD k 0= -((j:Int)+1) by lia,hJ g];unfold soB;rw[zm (by lia),show(((j:Int)+1).toNat-1)=j by lia,hJ (show ¬ -((j:Int)+1)>0 by lia)];rcases o with e|e<;>rw[e]<;>rfl
 unfold pA;refine mO.mpr ⟨(a.getD j 0,t.getD j 0),?_,by rw[f,r]⟩
 have v:(a.zip t)[j]?=some (a.getD j 0,t.getD j 0):=by
  rw[Gp];simp[kh,i,h.1,d]
 exact tw v
abbrev fPr:F:=(jG [(gJ (g1 pD) [(gk 1)]),(gy gIx (gn (jH [(gy gSub (gn (fC (.int 1))) (gk 0)),(jJ 0)])) (gn (gJ (g1 zK) [(gn (gy (oM .Gt) (gk 1) (gn (fC (.int 0)))))])))])
theorem PD: ∀(l:List (Int×Int)) (a:List D) (x y:Sl),a.length+l.length<=1000-> ∃b c,jI (ly [(gx 0),(gx 1)]) iX (iH fPr) (l.map λp=> .tup [.int p.1,.int p.2]) a [x,y]=some (a++l.map λp=> .tup [.int (ab p.2),.int (if p.2>0 then p.1 else 1-p.1)],[b,c])
 |[],a,x,y,_=>⟨x,y,by simp[jI]⟩
 |p::l,a,x,y,h=>by
  obtain⟨b,c,e⟩:=PD l (a++[.tup [.int (ab p.2),.int (if p.2>0 then p.1 else 1-p.1)]]) (ii p.1) (ii p.2) (by simp at h ⊢;lia);refine⟨b,c,?_⟩
  have d:fPr [ii p.1,ii p.2]=some ((.tup [.int (ab p.2),.int (if p.2>0 then p.1 else 1-p.1)],false),[ii p.1,ii p.2]):=by
   by_cases f:p.2>0<;>simp[f,iB,jJ,gIx,atI,ixN,ab]
  rw[jw,jI];rw[show ly [(gx 0),(gx 1)] (.tup [.int p.1,.int p.2]) [x,y]=some [ii p.1,ii p.2] from rfl];simp only[iz,qO,ja,oZ];rw[d];simp only[iz];rw[gF (wL (by simp at h;lia))];simp only[iz];rw[e];simp
theorem Rm(a:List (Int×Int)):H9 (a.map λp=> .tup [.int p.1,.int p.2])=some a:=by
 induction a with
 |nil=>rfl
 |cons p a b=>simp[H9,prD,b]
def N1{n:Nat}(L:n<=5){t w a:gC}(e:TT n t)(q:BK n t w)(h:D4 n a):lp [enc a,enc t]=some (enc (laF w a),[some (enc a),some (enc t)]):=by
 have j:=e.len
 let c:=pA a t
 have hk:c.map (·.1)=t.map ab:=NG h.1 j;have s:(c.map (·.1)).Nodup:=by rw[hk];exact(GZ.mp e).2.2
 have G:c.length=n:=by have:=lP List.length hk;simpa[j] using this
 let dd:D:= .oth .dct (c.map λp=> .int p.1) (c.map λp=> .int p.2)
 have B:nE c=c:=by have:=Hn c [] (by simpa using s);simpa[nE] using this
 have g:Cj (.lst (c.map λp=> .tup [.int p.1,.int p.2]))=some (dd,true):=by
  show((H9 (c.map λp=> .tup [.int p.1,.int p.2])).bind λc=>if c.length<=1000 then some (D.oth .dct ((nE c).map λp=> .int p.1) ((nE c).map λp=> .int p.2),true) else none)=_;rw[Rm];simp only[iz];rw[gF (by lia),B]
 obtain⟨M,N,u⟩:=PD (a.zip t) [] none none (by simp[j,h.1];lia)
 have y:((a.zip t).map λp=>D.tup [.int (ab p.2),.int (if p.2>0 then p.1 else 1-p.1)])=c.map λp=> .tup [.int p.1,.int p.2]:=by
  show _=(pA a t).map _;unfold pA;rw[ir];rfl
 have z:((a.map D.int).zip (t.map D.int)).map (λp=>D.tup [p.1,p.2])=(a.zip t).map λp=> .tup [.int p.1,.int p.2]:=by
  rw[List.zip_map,ir];rfl
 have m:nB dd=some (.lst ((st n).map .int),true):=by
  have v:(c.map λp=>D.int p.1)=(t.map ab).map D.int:=by rw[<-hk,ir];rfl
  show kH (c.map λp=>D.int p.1)=_;rw[v];unfold kH;rw[gF ⟨vS _,by rw[iB];simp;lia⟩,IT.mpr e]
 obtain⟨O,f⟩:=zc (gy DK (gk 0) (gk 1)) (λd=> .int ((laF w a).getD ((iOf d).toNat-1) 0)) [some (dd,true)] ((st n).map .int) [] none (by
   intro d hd;obtain⟨x,H,rfl⟩:=mO.mp hd;obtain⟨h1,A⟩:=J7.mp H;obtain⟨k,rfl⟩: ∃k:Nat,x=(k:Int)+1:=⟨(x-1).toNat,by lia⟩
   have E:=N5 e q h (k:=k) (by lia);refine⟨false,iT (o1:= .slot 0) (o2:= .slot 1) rfl rfl rfl rfl ?_⟩;simp only[DK,dd];rw[gF (by simp[oJ,yE]),Ha s E];simp[iOf]) (by rw[iB];simp[st];lia)
 have J:(((st n).map D.int).map λd=>D.int ((laF w a).getD ((iOf d).toNat-1) 0))=(laF w a).map .int:=by
  rw[ir];have o:(laF w a).length=n:=by simp[laF,q.1]
  apply xo
  ·simp[st,o]
  ·intro i h1 A;have C:i<n:=by simpa[st] using h1
   simp only[st,ir,uH,List.getElem_range,Function.comp,iOf];rw[show((1:Int)+(i:Int)).toNat-1=i by lia];simp[kh,o,C]
 rw[J] at f;simp only[sd,rB,kT,rE,vN] at f;refine kJ (δ:=[some (enc a),some (enc t),some (dd,true)]) ⟨rfl,by decide,rfl⟩ ?_;refine(gG (jN (i:=2) (δ1:=[some (enc a),some (enc t),none]) (r:=(dd,true)) (jC g (jE (b:=true) ?_).r) (show 2<3 by decide))).trans (jt (jU (mz (os:=[.val (.lst ((laF w a).map .int),true)]) (sJ (gH ?_)) rfl rfl)))
 ·refine(qu (l:=(a.zip t).map λp=> .tup [.int p.1,.int p.2]) (δ1:=[some (enc a),some (enc t),none]) (args:=[]) ?_ rfl (by simp[gP]) u).trans ?_
  ·rw[<-z];rfl
  ·rw[y];rfl
 ·have I:jP (gJ (g1 nB) [(gk 2)]) [some (enc a),some (enc t),some (dd,true)]=some ((st n).map .int,[some (enc a),some (enc t),some (dd,true)]):=Au (mz (os:=[.slot 2]) rfl rfl m);refine(qu (caps:=[2]) (k:=1) I (args:=[(dd,true)]) rfl (show(gP [Opd.slot 2] [(dd,true)]).Nodup from(show([2]:List Nat).Nodup by decide)) f).trans rfl
def cU{c:gC}(h:c.length<=1000):zp (gW RD) (cD c):=MU (ev:=gW 5) (λd hd=>by
 obtain⟨i,_,rfl⟩:=mO.mp hd;exact Sb (gW 4) i) (by simpa using h)
abbrev Uz:FS:=(gB (sIf (lT (fT (gA (gW RD) [(gn (gA nX [(gk 3),(gk 4)])),(gn (gA pG [(gk 3),(gk 4)]))]))) (gB (jf (fC (.bl false))) gX) gX) gX)
abbrev Uy:FS:=(gB (sIf (lT (fT (gA (gW RD) [(gn (gA iL [(gk 7),(gk 4)])),(gn (gA lp [(gk 7),(gk 4)]))]))) (gB (jf (fC (.bl false))) gX) gX) gX)
abbrev Sr:FS:=(gB (jx 10 (gy gIx (gn (jH [(fC .non),(fC (.str "turning"))])) (gn (gJ (g1 zK) [(gn (DO (gA iG [(gn (gy gIx (gk 3) (gn (fC (.int 0))))),(gk 9)])))])))) (gB (sIf (fT (gy gNe (gn (vD [3,9] (gA nX [(gk 0),(gk 1)]) (ox xY [(gk 0),(gk 1)]) 5 1 (hW CT oj) (λz=>oj.lookup z))) (gk 10))) (gB (jf (fC (.bl false))) gX) gX) (gB (sIf (fT (gy gNe (gn (vD [7,9] (gA iL [(gk 0),(gk 1)]) (ox la [(gk 0),(gk 1)]) 5 1 (hW CT oj) (λz=>oj.lookup z))) (gk 10))) (gB (jf (fC (.bl false))) gX) gX) gX)))
def Hs(n:Nat)(d:D):(rq n d).dep<=50:=by unfold rq;split<;>simp[D.dep]
def Of{n:Nat}{c:kE}(y:Gk n c){a:gC}(u:D4 n a){d:D}(hd:OkD d)(j k l m o p q f:Sl):Sr [j,k,l,some (rD' n c,false),m,o,p,some (enc a),q,some (d,false),f]=some (.nx [j,k,l,some (rD' n c,false),m,o,p,some (enc a),q,some (d,false),some (rq n d,false)]):=by
 have v:=y.1
 let δ:Sl->Dn:=λx=>[j,k,l,some (rD' n c,false),m,o,p,some (enc a),q,some (d,false),x]
 have G:FJ (gn (gy gIx (gk 3) (gn (fC (.int 0))))) (δ f) (.int n):=jE (jO rfl (jV (d:=rD' n c) rfl).r (jE rfl).r);have B:gA iG [(gn (gy gIx (gk 3) (gn (fC (.int 0))))),(gk 9)] (δ f)=some ((.bl (tB n d),false),δ f):=jU2 ((wC n v d hd).trans (by rw[J3])) G (jV rfl)
 have C:gy gIx (gn (jH [(fC .non),(fC (.str "turning"))])) (gn (gJ (g1 zK) [(gn (DO (gA iG [(gn (gy gIx (gk 3) (gn (fC (.int 0))))),(gk 9)])))])) (δ f)=some ((rq n d,false),δ f):=by
  refine jO (a:= .lst [.non,.str "turning"]) ?_ (jE (b:=true) (by simp[iB])).r (jE (jC (Qs (!tB n d)) (jE (b:=false) (by rw[Qu,B];rfl)).r)).r;unfold rq;cases tB n d<;>rfl
 refine(gG (δ1:=δ (some (rq n d,false))) (jN (i:=10) C (show 10<11 by decide))).trans ?_
 have s:tB n d=true-> ∃x,nX [(rD' n c,false),(d,false)]=some x:=λh=>by
  obtain⟨t,rfl,g⟩:=J2 h;obtain⟨ds,_,e⟩:=LA g y;exact⟨_,e⟩
 have A:tB n d=true-> ∃x,iL [enc a,(d,false)]=some x:=λh=>by
  obtain⟨t,rfl,g⟩:=J2 h;obtain⟨w,E,_⟩:=wZ g;exact⟨_,wV v g E u⟩
 have H:vD [3,9] (gA nX [(gk 0),(gk 1)]) (ox xY [(gk 0),(gk 1)]) 5 1 (hW CT oj) (λz=>oj.lookup z) (δ (some (rq n d,false)))=some ((rq n d,false),δ (some (rq n d,false))):=by
  cases h:tB n d with
  |true=>obtain⟨x,e⟩:=s h;exact BQ (r:=rD' n c) rfl (λ_=>e) λz=>absurd h (by rw[z];decide)
  |false=>exact BQ (r:=rD' n c) (x:=((.non,false),[])) rfl (λz=>absurd h (by rw[z];decide)) λh=>RZ hd h
 have I:vD [7,9] (gA iL [(gk 0),(gk 1)]) (ox la [(gk 0),(gk 1)]) 5 1 (hW CT oj) (λz=>oj.lookup z) (δ (some (rq n d,false)))=some ((rq n d,false),δ (some (rq n d,false))):=by
  cases h:tB n d with
  |true=>obtain⟨x,e⟩:=A h;exact BQ (r:=cD a) rfl (λ_=>e) λz=>absurd h (by rw[z];decide)
  |false=>exact BQ (r:=cD a) (x:=((.non,false),[])) rfl (λz=>absurd h (by rw[z];decide)) λh=>N2 u.1 hd h
 exact(no (δ:=δ (some (rq n d,false))) _ (Lp rfl (Hs n d) (jE H).r (jV rfl).r)).trans ((no (δ:=δ (some (rq n d,false))) _ (Lp rfl (Hs n d) (jE I).r (jV rfl).r)).trans rfl)
abbrev Pr:FS:=(gB (jx 2 (gA kQ [(gk 0),(gk 1)])) (gB (jx 3 (gA kR [(gk 2),(gn (gA gD [(gk 2),(gn (fC (.int 6)))]))])) (gB (jx 4 (gA jn [(gk 2),(gn (gy gIx (gk 3) (gn (fC (.int 0)))))])) (gB (jx 5 (gA nQ [(gn (gy gIx (gk 3) (gn (fC (.int 0)))))])) (gB (sh (sA (gn (fC (.int 2)))) (gx 6) Uz) (gB (sh (jP (jJ 5)) (gx 7) Uy) (gB (jx 7 (gy gIx (gk 5) (gn (gA gD [(gk 2),(gn (gJ (g1 pT) [(gk 5)]))])))) (gB (jx 8 (gy kD (gn (jH [(gA pF [(gk 2)])])) (gn (iC [2,4] 1 (sA (gn (fC (.int 3)))) (gx 2) iX (iH (gA iE [(gk 0),(gk 1)])))))) (gB (sh (jP (gy kD (gk 8) (gn (jH [(gA jn [(gk 2),(gn (gA gD [(gk 2),(gn (fC (.int 6)))]))])])))) (gx 9) Sr) gX)))))))))
def OE: ∀n:Nat,n<6->0<(og n).length/\(og n).length<=32:=by decide+kernel
def G7{f:F}{δ δ1:Dn}{d:D}(h:f δ=some ((d,false),δ1)):jH [f] δ=some ((.lst [d],true),δ1):=by
 rw[Qv,show[f].map gn=[gn f] from rfl,sJ (gH h)];simp[iB]
def Mb(ns:gC)(k:Nat)(c2 M G E B z p g j:Sl): ∃d2 d3 d4 d5 d6 d7 d8 d9 cz,Pr [some (.lst (ns.map .int),false),ii k,c2,M,G,E,B,z,p,g,j]=some (.nx [some (.lst (ns.map .int),false),ii k,d2,d3,d4,d5,d6,d7,d8,d9,cz]):=by
 let e:Sl:=some (.lst (ns.map .int),false)
 obtain⟨a,b,e0⟩:=J5 ns k;obtain⟨v,a1,v0,v1,e1⟩:=yf a b 6 (by lia) (by lia);obtain⟨n,rfl⟩: ∃n:Nat,v=n:=⟨v.toNat,by lia⟩
 have N:n<=5:=by lia
 obtain⟨F,cs,P,e2⟩:=Fj a1 b n N
 let R:Sl:=some (rD' n cs,false)
 obtain⟨t,C,I,e3⟩:=CW F b n N;have I:=Gz I;obtain⟨w,S,_⟩:=wZ I;obtain⟨ds,hL,e4⟩:=LA I P;have hd:=hL.rd I S P;obtain⟨l0,l1⟩:=OE n (by lia);obtain⟨q,O,q0,q1,e5⟩:=yf C b ((og n).length:Int) (by lia) (by lia)
 let A:=(og n).getD q.toNat []
 have X:A∈og n:=by
  have:q.toNat<(og n).length:=by lia
  simp only[A];rw[kh,iW this];exact List.getElem_mem this
 obtain⟨Q,od,bX,e6⟩:=RU O b;obtain⟨L,bs,x',Z,U,e7⟩:=HD b t (by rw[I.len];exact N) (ig 0 3) [] Q none (by simp) (by simp[ig]);obtain⟨u,a7,u0,u1,e8⟩:=yf L b 6 (by lia) (by lia);obtain⟨m,rfl⟩: ∃m:Nat,u=m:=⟨u.toNat,by lia⟩
 obtain⟨V,K,dR,e9⟩:=CW a7 b m (by lia);have ae:=JT dR
 let T:Sl:=some (enc t)
 let s:Bool->Sl:=λf=>some (.lst ((og n).map cD),f)
 let Y:List D:=od::bs
 have hth: ∀d∈Y++[cD V],OkD d:=by
  intro d hd;rcases rK.mp hd with hd|hd
  ·rcases jM.mp hd with rfl|hd
   ·exact bX
   ·exact Z d hd
  ·cases Gm.mp hd;exact Ug (by lia)
 obtain⟨_,⟨x6,rfl⟩,f1⟩:=qX (tg:=gx 6) (fb:=Uz) (λ_ δ=> ∃x,δ=[e,ii k,stt C b,R,T,s true,x,z,p,g,j]) (λd l δ ⟨x,h⟩=>by
  subst h;refine⟨_,_,rfl,(no (δ:=[e,ii k,stt C b,R,T,s true,some (d,false),z,p,g,j]) _ (qt (b:=true) (oO (jU2 (rdU n (ks:=ds) (by have:=hd.2.2.2;lia) λc hc=>by have:=(hd.2.1.2 c hc).len;lia) (jE (jU2 e4 (jV rfl) (jV rfl))) (jE (jU2 (RY I P hL) (jV rfl) (jV rfl))))))).trans rfl,_,rfl⟩) (ig 0 2) [e,ii k,stt C b,R,T,s true,B,z,p,g,j] ⟨B,rfl⟩
 obtain⟨_,⟨x7,_,rfl⟩,f2⟩:=qX (tg:=gx 7) (fb:=Uy) (λl δ=> ∃x,(∀d∈l,∃a,a∈og n/\d=cD a)/\δ=[e,ii k,stt C b,R,T,s false,x6,x,p,g,j]) (λd l δ ⟨x,h1,h⟩=>by
  subst h;obtain⟨a,W,rfl⟩:=h1 d jB;have l5:=SR.mp W
  refine⟨_,_,rfl,(no (δ:=[e,ii k,stt C b,R,T,s false,x6,some (enc a),p,g,j]) _ (qt (b:=true) (oO (jU2 (cU (c:=laF w a) (by simp[laF,S.1];lia)) (jE (jU2 (wV N I S l5) (jV rfl) (jV rfl))) (jE (jU2 (N1 N I S l5) (jV rfl) (jV rfl))))))).trans rfl,_,λx hx=>h1 x (jA _ hx),rfl⟩) ((og n).map cD) [e,ii k,stt C b,R,T,s false,x6,z,p,g,j] ⟨z,λd hd=>by
   obtain⟨a,W,rfl⟩:=mO.mp hd;exact⟨a,W,rfl⟩,rfl⟩
 let H:Sl:=some (.lst Y,true)
 obtain⟨_,⟨x9,x10,_,rfl⟩,f3⟩:=qX (tg:=gx 9) (fb:=Sr) (λl δ=> ∃x y,(∀d∈l,OkD d)/\δ=[e,ii k,stt K b,R,T,s false,x6,some (enc A),H,x,y]) (λd l δ ⟨x,y,h1,h⟩=>by
  subst h;exact⟨_,_,rfl,Of P (SR.mp X) (h1 d jB) _ _ _ _ _ _ _ _,_,_,λx hx=>h1 x (jA _ hx),rfl⟩) (Y++[cD V]) [e,ii k,stt K b,R,T,s false,x6,some (enc A),H,g,j] ⟨g,j,hth,rfl⟩
 refine⟨stt K b,R,T,s false,x6,some (enc A),H,x9,x10,?_⟩;refine(gG (δ1:=[e,ii k,stt a b,M,G,E,B,z,p,g,j]) (jN (i:=2) (δ1:=[e,ii k,c2,M,G,E,B,z,p,g,j]) (jU2 e0 (jV rfl) (jV rfl)) (show 2<11 by decide))).trans ?_;refine(gG (δ1:=[e,ii k,stt F b,R,G,E,B,z,p,g,j]) (jN (i:=3) (δ1:=[e,ii k,stt F b,M,G,E,B,z,p,g,j]) (kb (δ1:=[e,ii k,stt a1 b,M,G,E,B,z,p,g,j]) (os:=[.slot 2,.val (.int n,false)]) (args:=[(.lst [.int a1,.bl b],true),(.int n,false)]) (lu rfl (gH (e1 _ e (ii k) [M,G,E,B,z,p,g,j] _ rfl rfl))) rfl (show([2]:List Nat).Nodup by decide) e2) (show 3<11 by decide))).trans ?_;have i0: ∀(x2:Sl) (δ:Dn),gy gIx (gk 3) (gn (fC (.int 0))) (e::ii k::x2::R::δ)=some ((.int n,false),e::ii k::x2::R::δ):=λx2 δ=>jO rfl (jV (d:=rD' n cs) rfl).r (jE rfl).r;refine(gG (δ1:=[e,ii k,stt C b,R,T,E,B,z,p,g,j]) (jN (i:=4) (δ1:=[e,ii k,stt C b,R,G,E,B,z,p,g,j]) (e3 _ e (ii k) [e,ii k,stt F b,R,G,E,B,z,p,g,j] [R,G,E,B,z,p,g,j] (.val (.int n,false)) (gH (i0 _ _)) rfl rfl) (show 4<11 by decide))).trans ?_;refine(gG (δ1:=[e,ii k,stt C b,R,T,s true,B,z,p,g,j]) (jN (i:=5) (δ1:=[e,ii k,stt C b,R,T,E,B,z,p,g,j]) (jU1 (Ov N) (jE (i0 _ _))) (show 5<11 by decide))).trans ?_;refine(gG ((oY (δ1:=[e,ii k,stt C b,R,T,s true,B,z,p,g,j]) (pz (n:=2) (o:= .val (.int 2,false)) rfl rfl (by decide))).trans f1)).trans ?_;refine(gG ((oY (δ1:=[e,ii k,stt C b,R,T,s false,x6,z,p,g,j]) (ds:=(og n).map cD) rfl).trans f2)).trans ?_;refine(gG (δ1:=[e,ii k,stt O b,R,T,s false,x6,some (enc A),p,g,j]) (jN (i:=7) (δ1:=[e,ii k,stt O b,R,T,s false,x6,x7,p,g,j]) (iT (o1:= .slot 5) (o2:= .val (.int q,false)) (δ1:=[e,ii k,stt C b,R,T,s false,x6,x7,p,g,j]) rfl (gH (e5 _ e (ii k) [R,T,s false,x6,x7,p,g,j] (.val (.int (og n).length,false)) (gH (jC (by rw[Qr,jm]) (jV rfl).r)) rfl)) rfl rfl ?_) (show 7<11 by decide))).trans ?_
 ·rw[ixl q0 (by rw[jm];exact q1)];have hq:q.toNat<(og n).length:=by lia
  simp only[A,kh,jL,iW hq];rfl
 have J:iC [2,4] 1 (sA (gn (fC (.int 3)))) (gx 2) iX (iH (gA iE [(gk 0),(gk 1)])) [e,ii k,stt Q b,R,T,s false,x6,some (enc A),p,g,j]=some ((.lst bs,true),[e,ii k,stt L b,R,T,s false,x6,some (enc A),p,g,j]):=
  (qu (caps:=[2,4]) (k:=1) (args:=[(.lst [.int Q,.bl b],true),enc t]) (δ1:=[e,ii k,stt Q b,R,T,s false,x6,some (enc A),p,g,j]) (pz (n:=3) (o:= .val (.int 3,false)) rfl rfl (by decide)) rfl (show([2]:List Nat).Nodup by decide) e7).trans rfl
 refine(gG (δ1:=[e,ii k,stt L b,R,T,s false,x6,some (enc A),H,g,j]) (jN (i:=8) (δ1:=[e,ii k,stt L b,R,T,s false,x6,some (enc A),p,g,j]) (iT (o1:= .val (.lst [od],true)) (o2:= .val (.lst bs,true)) (δ1:=[e,ii k,stt Q b,R,T,s false,x6,some (enc A),p,g,j]) (gH (G7 (kb (δ1:=[e,ii k,stt O b,R,T,s false,x6,some (enc A),p,g,j]) (os:=[.slot 2]) (args:=[(.lst [.int O,.bl b],true)]) rfl rfl (show([2]:List Nat).Nodup by decide) e6))) (gH J) rfl rfl (OF (by simp) (by simp[ig] at U;lia))) (show 8<11 by decide))).trans ?_;refine(gG ((oY (δ1:=[e,ii k,stt K b,R,T,s false,x6,some (enc A),H,g,j]) (ds:=Y++[cD V]) (Au (o:=true) (iT (o1:= .slot 8) (o2:= .val (.lst [cD V],true)) (δ1:=[e,ii k,stt L b,R,T,s false,x6,some (enc A),H,g,j]) rfl (gH (G7 (e9 _ e (ii k) [e,ii k,stt L b,R,T,s false,x6,some (enc A),H,g,j] [R,T,s false,x6,some (enc A),H,g,j] (.val (.int m,false)) (gH (e8 _ e (ii k) [R,T,s false,x6,some (enc A),H,g,j] (.val (.int 6,false)) rfl rfl)) rfl rfl))) rfl rfl (OF (by simp[Y];simp[ig] at U;lia) (by simp))))).trans f3)).trans rfl
def rd0:Gk 0 []:=⟨by lia,⟨by simp,by simp⟩,List.Pairwise.nil,by simp⟩
def S6(f:gC)(hl:f.length<=63): ∃o z,rW [(.lst (f.map .int),false)]=some ((.bl true,o),z):=by
 let C:Sl:=some (.lst (f.map .int),false)
 let N:Nat:=if 1<min f.length 6 then min f.length 6 else 1
 let c:Dn:=[C,none,none,none,none,none,none,none,none,none,none]
 obtain⟨_,⟨A,l,m,n,p,t,u,v,y,g,_,rfl⟩,e⟩:=qX (tg:=gx 1) (fb:=Pr) (λds δ=> ∃A l m n p t u v y g,(∀d∈ds,∃k:Nat,d= .int k)/\δ=[C,A,l,m,n,p,t,u,v,y,g]) (λd ds δ ⟨A,l,m,n,p,t,u,v,y,g,h1,h⟩=>by
  subst h;obtain⟨k,rfl⟩:=h1 d jB;obtain⟨g2,g3,P,R,S,V,W,X,T,e⟩:=Mb f k l m n p t u v y g
  exact⟨_,_,rfl,e,_,_,_,_,_,_,_,_,_,_,λx F=>h1 x (jA _ F),rfl⟩) (ig 0 N) c ⟨none,none,none,none,none,none,none,none,none,none,λd hd=>by
   obtain⟨k,_,rfl⟩:=mO.mp hd;exact⟨k,by simp⟩,rfl⟩
 refine⟨false,_,kJ (δ:=[C,A,l,m,n,p,t,u,v,y,g]) ⟨rfl,by decide,rfl⟩ ?_⟩;have L:TT 0 []:=uI _;have M:BK 0 [] []:=⟨rfl,λs h=>by have:=h.1;have:=h.2;lia⟩
 obtain⟨ds,U,Q⟩:=LA L rd0;have E:ds=[]:=by simpa using U.1
 subst E;have G:TT 2 [-2,1]:=by unfold TT;decide+kernel
 obtain⟨w,H,_⟩:=wZ G
 have O:laF w [1,0]=[0,0]:=by
  have D:BK 2 [-2,1] [2, -1]:=⟨rfl,λs h=>by
   obtain⟨k,hk,q⟩:=lF h;have:k=0\/k=1:=by lia
   rcases this with rfl|rfl<;>rcases q with rfl|rfl<;>rfl⟩
  rw[H.uniq G D];rfl
 have I:FJ (gn (jG [(fC (.int 0)),(jG [])])) c (rD' 0 []):=jE (b:=false) (wg (a:=(.int 0,false)) (b:=(.tup [],false)) rfl (by simp));have B:FJ (gn (jG [])) c (cD []):=jE (b:=false) (by simp);have J: ∀i j:Int,FJ (gn (jG [(fC (.int i)),(fC (.int j))])) c (cD [i,j]):=λi j=>jE (b:=false) (wg (a:=(.int i,false)) (b:=(.int j,false)) rfl rfl);have K:FJ (gn (jG [(jg nC (gn (fC (.int 2)))),(fC (.int 1))])) c (cD [-2,1]):=jE (b:=false) (wg (a:=(.int (-2),false)) (b:=(.int 1,false)) rfl rfl);refine(no (δ:=c) _ ((FX (Lp rfl (SA 0 []) (jE (jU2 Q I B)).r I.r)).trans ((FX (Lp rfl (Pw []) (jE (jU2 (wV (by decide) L M ⟨rfl,by simp⟩) B B)).r B.r)).trans (Lp (lP cD O) (Pw _) (jE (jU2 (wV (by decide) G H ⟨rfl,by simp⟩) (J 1 0) K)).r (J 0 0).r)))).trans ?_;refine(gG ((oY (ds:=ig 0 N) (δ1:=c) ?_).trans e)).trans (jt rfl);refine pz (o:= .val (.int N,false)) (gH ?_) rfl (by simp only[N];split<;>lia)
 have Y:(N:Int)=if(if(6:Int)<f.length then 6 else(f.length:Int))>1 then(if(6:Int)<f.length then 6 else(f.length:Int)) else 1:=by
  simp only[N];split<;>split<;>split<;>lia
 rw[Y];simp[C,c]
end PV
def K22.main(b:gC)(c:b.length<=63): ∃o a,PV.rW [(.lst (b.map .int),false)]=some ((.bl true,o),a):=PV.S6 b c
namespace PySem.W.Fast
def tw8333357148558270066:=()
def tw17871376074641566454:=()
def tw3787275080293710770:=()
def tw12493789049824644827:=()
def tw5065154296028476556:=()
def tw292522128091112636:=()
def tw17436083131800154944:=()
def tw10991161315604185519:=()
def tw3504239065185945197:=()
def tw3119472928921485180:=()
def tw7769069409377644933:=()
def tw2577180827778558540:=()
def tw4523961436026886036:=()
def tw11912192942758394546:=()
def tw17726018097721153368:=()
def tw12079616145792415673:=()
def tw7806045716694670213:=()
def tw10174592003045380610:=()
def tw6262786019164041480:=()
def tw5313717777248992220:=()
def tw3250475848739816394:=()
def tw10872785251844671186:=()
def tw9662328420928781895:=()
def tw3551948357673755305:=()
def tw17655565025861031038:=()
def tw9611364283588030686:=()
def tw18315514103647899678:=()
def tw10964042099001496153:=()
def tw2298349498794194424:=()
def tw15795355651419303726:=()
def tw3608408825318300754:=()
def tw7735575077026156490:=()
def tw16148963695533693611:=()
def tw15279733989427908061:=()
def tw5359848004238307402:=()
def tw15568464671439259957:=()
def tw15847493121856213291:=()
def tw12104440212015086902:=()
def tw9158982524644180285:=()
def tw2942284501751498166:=()
def tw9420495504909718967:=()
def tw5051394731785957944:=()
def tw17959574829053702813:=()
def tw12602944605060646633:=()
def tw12238525735385797657:=()
def tw14005986632601516285:=()
def tw9669048415073648996:=()
def tw13570589108215182379:=()
def tw18439133832677158802:=()
def tw11273253404110185220:=()
def tw4384764474075004671:=()
def tw5571521434254778153:=()
def tw14324186607331355240:=()
def tw2557077996424411027:=()
def tw3791188175594496503:=()
def tw18019773373057217621:=()
def tw13670078560880847587:=()
def tw851006346543955049:=()
def tw13134422008367501324:=()
def tw4172392988315610198:=()
def tw11137803853952946762:=()
def tw1692122239580385655:=()
def tw17646711319425068131:=()
def tw11326206559658494001:=()
def tw5272254639337384490:=()
def tw8580198935954809483:=()
def tw18172726962587822333:=()
def tw9103844054352498557:=()
def tw5250372188452281289:=()
def tw556316030776109010:=()
def tw2729007076154242536:=()
def tw761758045842703479:=()
def tw12783195626864520288:=()
def tw15128300265093332682:=()
def tw13457375944140828667:=()
def tw10928982766974549969:=()
def tw11443497974735238007:=()
def tw11637295907949909929:=()
def tw3504664022837033740:=()
def tw7943524309090144440:=()
def tw2250758607936218112:=()
def tw6288541837425791883:=()
def tw2633331624570754155:=()
def tw5675164112910844908:=()
def tw8560476096405365866:=()
def tw12735346227790109729:=()
def tw15901945947764186544:=()
def tw15188007934936685024:=()
def tw5996045462502016923:=()
def tw14981699901551913013:=()
def tw8340797121460266074:=()
def tw1168041102255010962:=()
def tw16949881734761028515:=()
def tw8979545329085336710:=()
def tw5103907843414719219:=()
def tw10540630660369179426:=()
def tw789018556917019089:=()
def tw816927716963810290:=()
def tw4279882547311417133:=()
def tw13989622911865251145:=()
def tw18228477610620136914:=()
def tw14490516643612974265:=()
def tw6858886996172985400:=()
def tw3682786930321234958:=()
def tw11902201622446479296:=()
def tw17410721736050378325:=()
def tw16787801955126399817:=()
def tw4310686275323372179:=()
def tw8265244237438680460:=()
def tw8751821769738178332:=()
def tw6241416095518114755:=()
def tw5376285164173426749:=()
def tw3589935084127452998:=()
def tw2639165309330019469:=()
def tw18218876523197012785:=()
def tw11938288657795129018:=()
def tw10583269482565231482:=()
def tw10536778985066065405:=()
def tw18165358314839036523:=()
def tw1127492893540261172:=()
def tw14774993072033667379:=()
def tw15727936086648330513:=()
def tw15093037424154254077:=()
def tw13727768176081005464:=()
def tw4350784090714422031:=()
def tw5561418442067968639:=()
def tw16783511712645540667:=()
def tw15561227722262478374:=()
def tw12242272636517904539:=()
def tw1164767679761510699:=()
def tw3522064668876837595:=()
def tw8787991249603300269:=()
def tw14488634546343053675:=()
def tw4366830653075259725:=()
def tw5740994722542533014:=()
def tw13034545243635088656:=()
def tw5922965234451310055:=()
def tw4560685130847327418:=()
def tw4736614224582601791:=()
def tw8479671516784450871:=()
def tw9592714561560357411:=()
def tw8209286529404447707:=()
def tw953744099007442450:=()
def tw522202927864296619:=()
def tw1240551858541478374:=()
def tw14183703723312662808:=()
def tw801548260483524874:=()
def tw7852794907430952439:=()
def tw6980966096524598780:=()
def tw11242168277190096653:=()
def tw10578758574329339277:=()
def tw17884894360098182623:=()
def tw13321302464022410688:=()
def tw4227793628954734832:=()
def tw14795882922143031604:=()
def tw14481053065376147133:=()
def tw8687711366745066615:=()
def tw10949749425432630865:=()
def tw9898635782217430940:=()
def tw9265951442001123188:=()
def tw2542381766123020753:=()
def tw6914957561989352174:=()
def tw17450612977937867634:=()
def tw4383239980871181658:=()
def tw6142113434202056829:=()
def tw5685154754787001273:=()
def tw3540924482385807156:=()
def tw1352596512501687607:=()
def tw1433686107280261065:=()
def tw9181809460434138416:=()
def tw8241707998107072840:=()
def tw13723681873425286025:=()
def tw1093255329389879322:=()
def tw301666099101542061:=()
def tw846245961479825976:=()
def tw4728878086455422630:=()
def tw16268207749522941726:=()
def tw14621322314938369929:=()
def tw3320305004201141313:=()
def tw16165225897776809112:=()
def tw12606179088043256374:=()
def tw145659733864594374:=()
def tw16855811800971339801:=()
def tw4746527738415932339:=()
def tw2196351458528732145:=()
def tw6802496925828686972:=()
def tw8878151710783891005:=()
def tw16189188477848693715:=()
def tw11615797624461894655:=()
def tw10819416594537385149:=()
def tw17265582660392471197:=()
def tw7038621155322967756:=()
def tw2855545358631747956:=()
def tw8076183465718536254:=()
def tw3122955891124230437:=()
def tw5975555841015763762:=()
def tw12037125167926930950:=()
def tw892791544339477116:=()
def tw7806556945232714347:=()
def tw9504086917374912654:=()
def tw7162038349274362053:=()
def tw6659191413154107731:=()
def tw6096386033176029354:=()
def tw57184480378164068:=()
def tw210425017318059472:=()
def tw16630426911759482571:=()
def tw16250820291353258405:=()
def tw1037336763764117269:=()
def tw9333243239656827701:=()
def tw17505403019827535848:=()
def tw7650005771437079271:=()
def tw2165594084921415307:=()
def tw16550016294919397830:=()
def tw12949820496832521410:=()
def tw9885253373228823051:=()
def tw1144129191227329718:=()
def tw10113812301463419126:=()
def tw3840860852294410540:=()
def tw4029508757219474690:=()
def tw15313677484022930022:=()
def tw12214083760694993036:=()
def tw98637659440097928:=()
def tw8773833669033064602:=()
def tw7840422386389028226:=()
def tw7097240564750839153:=()
def tw6156319876407255720:=()
def tw4699652857635469377:=()
def tw4685389829186293947:=()
def tw40008045527660821:=()
def tw3112377817359260164:=()
def tw15952951563026592418:=()
def tw15041548473373101168:=()
def tw12129503809400409680:=()
end PySem.W.Fast
open PySem PySem.W PyProof.Rows PX
set_option maxRecDepth 100000 in
set_option maxHeartbeats 0 in
theorem PySem.Challenge.cw_twinriddles_k22_riddles_and_answers_led_holds : PySem.Challenge.rw_twinriddles_k22_riddles_and_answers_led.Holds := by
  w_on; o_law; k_head; (case hw => w_witness2)
  k_fill
  refine walkT (TB := K22.TB22) (l := PySem.Challenge.rw_twinriddles_k22_riddles_and_answers_led) (LV := 11) (x := "_law_script") ⟨rfl, by decide, by decide, rfl⟩ rfl rfl (fun w h Y => PySem.W.km_in_of Y) (fun w h Y => aC (PySem.W.km_tabs_of Y _ List.mem_cons_self) aN) (fun w => aC ?K aN) (by decide) ?F K22.main
  case K => show List.lookup 328 _ = none; kernel_rfl
  case F =>
   intro w mg fa h KX G hmg
   refine' K22.all_mk hmg (txK KX G ?_ ?_ ?_ ?_ ?_ ?_ ?_ ?_ ?_ ?_ ?_ ?_ ?_ ?_ ?_ ?_) (fz KX G ?_ ?_ ?_ ?_) (fz KX G ?_ ?_ ?_ ?_) (fz KX G ?_ ?_ ?_ ?_) (fz KX G ?_ ?_ ?_ ?_) (fz KX G ?_ ?_ ?_ ?_) (fz KX G ?_ ?_ ?_ ?_) (fz KX G ?_ ?_ ?_ ?_) (fz KX G ?_ ?_ ?_ ?_) (fz KX G ?_ ?_ ?_ ?_) (fz KX G ?_ ?_ ?_ ?_) (fz KX G ?_ ?_ ?_ ?_) (fz KX G ?_ ?_ ?_ ?_) (fz KX G ?_ ?_ ?_ ?_) (fz KX G ?_ ?_ ?_ ?_) (fz KX G ?_ ?_ ?_ ?_) (fz KX G ?_ ?_ ?_ ?_) (fz KX G ?_ ?_ ?_ ?_) (fz KX G ?_ ?_ ?_ ?_) (fz KX G ?_ ?_ ?_ ?_) (fz KX G ?_ ?_ ?_ ?_) (fz KX G ?_ ?_ ?_ ?_) (fz KX G ?_ ?_ ?_ ?_) (fz KX G ?_ ?_ ?_ ?_) (fz KX G ?_ ?_ ?_ ?_) (fz KX G ?_ ?_ ?_ ?_) (fz KX G ?_ ?_ ?_ ?_) (fz KX G ?_ ?_ ?_ ?_) (fz KX G ?_ ?_ ?_ ?_) (fz KX G ?_ ?_ ?_ ?_) (fzT KX G ?_ ?_ ?_ ?_ ?_) (PySem.W.mg_none_of KX G ?_) ⟨(aC (PySem.W.mg_of KX G ?_) (aC (PySem.W.mg_of KX G ?_) (aC (PySem.W.mg_of KX G ?_) (aC (PySem.W.mg_of KX G ?_) (aC (PySem.W.mg_of KX G ?_) (aC (PySem.W.mg_of KX G ?_) (aC (PySem.W.mg_of KX G ?_) (aC (PySem.W.mg_of KX G ?_) (aC (PySem.W.mg_of KX G ?_) (aC (PySem.W.mg_of KX G ?_) aN)))))))))), (aC (PySem.W.mg_of KX G ?_) aN), (aC (aC (show PySem.W.kitOne _ (.ref 61) (.ref 37) = some false from ?_) (aC (show PySem.W.kitOne _ (.ref 61) (.ref 49) = some false from ?_) (aC (show PySem.W.kitOne _ (.ref 61) (.ref 61) = some true from ?_) (aC (show PySem.W.kitOne _ (.ref 61) (.ref 73) = some false from ?_) (aC (show PySem.W.kitOne _ (.ref 61) (.ref 85) = some false from ?_) (aC (show PySem.W.kitOne _ (.ref 61) (.ref 97) = some false from ?_) (aC (show PySem.W.kitOne _ (.ref 61) (.ref 109) = some false from ?_) (aC (show PySem.W.kitOne _ (.ref 61) (.ref 121) = some false from ?_) (aC (show PySem.W.kitOne _ (.ref 61) (.ref 133) = some false from ?_) (aC (show PySem.W.kitOne _ (.ref 61) (.ref 145) = some false from ?_) aN)))))))))) aN), (aC (show PySem.W.kitOne _ (.ref 61) (.type "ValueError") = some true from ?_) aN), (aC (show ClK _ 61 24 from ⟨⟨?_, ?_, ?_, ?_, ?_, ?_, ?_, ?_⟩, (aC ?_ (aC ?_ (aC ?_ (aC ?_ (aC ?_ (aC ?_ aN)))))), ?_⟩) aN), (aC (show PySem.W.excIn _ 61 _ _ = true from ?_) aN), PySem.W.mg_none_of KX G ?_, PySem.W.mg_none_of KX G ?_, PySem.W.mg_of KX G ?_⟩ <;> try first | k_is | kernel_rfl
