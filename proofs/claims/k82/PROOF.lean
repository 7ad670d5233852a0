import PyProof.Rows.All
import Wide.All
import OpenK.AllK
import Wide.FinOn
import PyProof.EqAt
import PyProof.EqKinds
import PyProof.TupleCall
import Lean
import PySem.Challenge.RW_twinriddles_k82_riddles_beside
set_option Elab.async false
set_option linter.all false
set_option maxRecDepth 100000
set_option maxHeartbeats 8000000
noncomputable section
section
open PySem PySem.Spec PyProof.Rows
abbrev gU:=Value->Shared->Prop
abbrev gO:=List (Addr×Obj)
abbrev gA:=PySem.W.Frag
abbrev jk:=List (List Int)
abbrev gS:=List Int
abbrev hJ:=List Value
abbrev jy:=Str->Option Value
abbrev gW:=List Nat
abbrev kO:=Nat->Nat->Bool
abbrev jL:=Array Nat
abbrev jI:=Array Value
abbrev gG:=List Str
abbrev iL:=List Expr
abbrev Fl:=Option Value->Shared->Prop
abbrev uo:=Value->Value->Sem Value
abbrev oj:=Array (Option Value)
abbrev jl:=List (Str×Addr)
abbrev pL:=List Comprehension
abbrev lW:=Array Keyed
abbrev lV:=Nat->Keyed
abbrev wQ:=Option Nat->SortSt->Prop
abbrev ir:=Nat->Prop
abbrev iW:=List Addr
abbrev gi:=Shared
abbrev gC:=Program
abbrev gB:=Around
abbrev gy:=World
abbrev iA:=SortSt
abbrev gp:=Value
abbrev pK:=Comprehension
abbrev kE:=FuncData
abbrev iq:=Scope
abbrev gm:=Expr
abbrev gz:=Heap
abbrev fZ:=Addr
end
section
open PySem PySem.Spec PyProof.Rows PySem.SeqAt
def gk:=@wpAny_bind
theorem gq:type_of% @if_pos:=@if_pos
theorem gv:type_of% @if_neg:=@if_neg
def gF:=@wpAny_pure
theorem ig:type_of% @Nat.le_refl:=@Nat.le_refl
def iC:=@Heap.lt_size
theorem iH:type_of% @Option.bind_some:=@Option.bind_some
theorem iK:type_of% @List.size_toArray:=@List.size_toArray
theorem iJ:type_of% @if_false:=@if_false
def iM:=@Heap.get?_push_of_some
theorem hV:type_of% @if_true:=@if_true
theorem ic:type_of% @List.map_cons:=@List.map_cons
theorem hZ:type_of% @Bool.false_eq_true:=@Bool.false_eq_true
def iu:=@List.getElem?_eq_getElem
def iw:=@Option.some.inj
theorem kb:type_of% @List.mem_cons:=@List.mem_cons
def iF:=@Nat.ne_of_lt
def iU:=@Bool.false_ne_true
theorem nG:type_of% @List.mem_append:=@List.mem_append
def jg:=@List.mem_cons_self
theorem jf:type_of% @List.mem_cons_of_mem:=@List.mem_cons_of_mem
theorem je:type_of% @sizeLine_eq:=@sizeLine_eq
theorem jd:type_of% @List.getElem?_map:=@List.getElem?_map
def jx:=@Heap.get?_push_size
theorem oS:type_of% @List.mem_map:=@List.mem_map
theorem jF:type_of% @List.length_map:=@List.length_map
def lI:=@List.pairwise_append
def rk:=@List.getElem?_eq_some_iff
theorem jQ:type_of% @List.append_assoc:=@List.append_assoc
theorem jP:type_of% @List.map_map:=@List.map_map
def kx:=@decide_eq_false
def ku:=@List.getElem_mem
def nZ:=@List.mem_singleton
theorem kP:type_of% @List.not_mem_nil:=@List.not_mem_nil
def kY:=@List.getElem?_set_self
def kX:=@List.mem_of_mem_drop
def nY:=@List.pairwise_cons
def lF:=@Nat.lt_of_lt_of_le
theorem lE:type_of% @Bool.and_eq_true:=@Bool.and_eq_true
def lD:=@List.take_append_drop
def lN:=@Ne.symm
def lM:=@wpAny_mono
theorem lL:type_of% @List.lookup_cons:=@List.lookup_cons
def lK:=@List.mem_of_mem_take
def lJ:=@PySem.W.mg_none_of
def md:=@List.getElem?_set_ne
theorem ma:type_of% @Array.length_toList:=@Array.length_toList
def lZ:=@List.take_sublist
def lY:=@wpAny_field
theorem lX:type_of% @List.length_cons:=@List.length_cons
theorem nH:type_of% @List.all_eq_true:=@List.all_eq_true
def mE:=@Nat.le_trans
def mD:=@wpAny_newObj_type
def mC:=@Nat.ne_of_gt
def mB:=@Nat.zero_le
theorem mz:type_of% @List.pairwise_map:=@List.pairwise_map
def mX:=@wpAny_holding
def mW:=@List.mem_append_right
def mV:=@PySem.mem_of_lookup
theorem mU:type_of% @List.drop_drop:=@List.drop_drop
theorem nX:type_of% @List.length_append:=@List.length_append
theorem nW:type_of% @or_false:=@or_false
def nV:=@List.drop_sublist
def ot:=@Nat.lt_irrefl
theorem oq:type_of% @List.length_set:=@List.length_set
theorem oo:type_of% @decide_eq_true:=@decide_eq_true
def pO:=@congrArg
def Fh:=@Option.isSome_iff_exists
theorem pN:type_of% @List.length_take:=@List.length_take
def pM:=@wpAny_call_entry
def qz:=@wpAny_rule
theorem qy:type_of% @List.getElem?_replicate:=@List.getElem?_replicate
def qx:=@eq_of_beq
theorem qw:type_of% @List.map_nil:=@List.map_nil
def qv:=@Heap.size_push
def qu:=@PySem.W.kia_one
def qt:=@PySem.W.kia_tup
def qr:=@List.Perm.append_left
def qp:=@List.take_of_length_le
def qo:=@Nat.min_eq_left
theorem qm:type_of% @List.map_congr_left:=@List.map_congr_left
def sV:=@List.append_nil
def sU:=@wpAny_Call_Name_kw
def zL:=@List.nodup_cons
def sT:=@wpAny_callSpecial?_slot
theorem sQ:type_of% @List.replicate_succ:=@List.replicate_succ
def sO:=@List.drop_eq_getElem_cons
def sN:=@wpAny_seqItems
def sM:=@wpAny_attempt
theorem sL:type_of% @List.map_append:=@List.map_append
def uB:=@Nat.le_of_lt
def uA:=@wpAny_passesOwn
def uz:=@codeAny_mono
def uy:=@List.mem_of_getElem?
def ux:=@call_meets
def uw:=@Prod.mk.inj
def uv:=@Heap.SameBut.update
theorem uu:type_of% @Bool.not_true:=@Bool.not_true
theorem ur:type_of% @List.nil_append:=@List.nil_append
theorem uq:type_of% @List.take_take:=@List.take_take
def qc:=@listUpdate_at
theorem qb:type_of% @List.nodup_nil:=@List.nodup_nil
def qa:=@List.map_id
theorem pZ:type_of% @List.getD_eq_getElem?_getD:=@List.getD_eq_getElem?_getD
def rP:=@Paired.length
def wu:=@PyProof.Rows.slot_tuple_getitem
def rO:=@wpAny_typeOf
def rN:=@List.flatten_cons
def rM:=@Array.getElem?_toList
theorem rL:type_of% @bne_self_eq_false:=@bne_self_eq_false
theorem rK:type_of% @List.find?_cons:=@List.find?_cons
theorem rJ:type_of% @List.any_cons:=@List.any_cons
def rH:=@Nat.lt_succ_self
def rG:=@List.ext_getElem?
def rF:=@codeAny_builtin
def I9:=@Nat.not_lt
def rE:=@wpAny_setField_rec
def rC:=@wpAny_onRaise
def rB:=@List.cons.inj
def rA:=@List.Perm.refl
def rq:=@List.Perm.append_right
theorem rp:type_of% @List.extract_toArray:=@List.extract_toArray
theorem rm:type_of% @List.extract_eq_take_drop:=@List.extract_eq_take_drop
def rl:=@get?_update_seq
def uS:=@wpAny_execs_nil
def uR:=@wpAny_standAt
def uQ:=@IsTup.new
def uP:=@Int.mul_one
theorem uO:type_of% @Int.toNat_natCast:=@Int.toNat_natCast
def uN:=@Heap.get?_update_self
theorem uM:type_of% @List.forIn_cons:=@List.forIn_cons
def uL:=@Nat.lt_succ_of_lt
def uK:=@tupleKind_room_in1
def uJ:=@List.getElem?_set
def uI:=@List.drop_eq_nil_of_le
def uH:=@Around.under_plainId
def KJ:=@Array.perm_iff_toList_perm
theorem uG:type_of% @Bool.not_eq_true':=@Bool.not_eq_true'
def uF:=@List.getElem_of_mem
def uE:=@List.drop_zero
def uD:=@seqEpoch_at
def wR:=@PySem.F.slot_dict_keyiterator_next
def uC:=@List.mem_map_of_mem
def KI:=@beq_iff_eq
def yJ:=@List.filterMap_cons
def yI:=@Array.append_assoc
def yH:=@wpAny_truthy_bool
def yG:=@boot_range
def yF:=@PyProof.Rows.callWith_type1
def yE:=@wpAny_call
def yD:=@List.of_mem_zip
def yC:=@PySem.W.cellsFrom_some
def yB:=@concat_meets
def yA:=@Heap.get?_update_other
def yz:=@Nat.le_succ
def yy:=@PySem.F.plainAttrs_list
def IY:=@List.getElem?_zip_eq_some
def yw:=@plainId_quiet
theorem yv:type_of% @List.getElem?_eq_none:=@List.getElem?_eq_none
def yu:=@F.slot_tuple_iterator_next
def yt:=@wpAny_setField
def yq:=@Obj.data_mapFields
def yp:=@wpAny_letGo
def yo:=@F.slot_zip_next
def yn:=@Nat.lt_or_ge
def ym:=@List.pairwise_singleton
def yk:=@List.perm_append_comm
def Ei:=@List.pairwise_iff_getElem
def yj:=@List.Perm.of_eq
def yi:=@Nat.lt_of_le_of_lt
def yh:=@AutoSeq1.sub_tuple_tuple
def yg:=@wpAny_forIn_list
def yf:=@richCompare_meets_room
def ye:=@wpAny_newList
def yd:=@wpAny_typeNameOfWhole_keyiter
def Lg:=@List.length_eq_zero_iff
def BX:=@assignInOrder_cons
def BW:=@wpAny_bindName
def BV:=@wpAny_pyIter_list
def Nu:=@List.mem_filterMap
def BU:=@Calls.spliced_nil
def BR:=@Calls.spliced_cons
def BQ:=@List.getElem?_append_right
def BP:=@List.getElem?_append_left
def BO:=@noFill_tuple_add
def BN:=@seq_tuple_add
def BM:=@PySem.F.slot_tuple_add
def BL:=@PySem.F.entry_tuple_add
def BK:=@PySem.F.args_tuple_add_2
def BJ:=@seqIndex_of
def BI:=@seqIndex_neg
def BH:=@Nat.lt_asymm
def BG:=@codeAny_of_tree
def BF:=@Nat.lt_trans
def BE:=@Heap.SameBut.refl
def BD:=@Option.isSome_map
def BC:=@List.getElem?_range
def Bz:=@wpAny_of_eq
def IZ:=@F.called_tuple
def By:=@wpAny_updateSeq_pair
def Bx:=@wpAny_newTuple
def Bw:=@wpAny_isInstance
def Bv:=@StateT.run_pure
def Bu:=@List.range'_succ
def Fi:=@List.perm_middle
def Bt:=@List.take_succ
def Bs:=@List.singleton_append
def Br:=@List.drop_left
def Bp:=@Array.getElem?_eq_getElem
def Bo:=@Array.size_map
def Bn:=@listItems_at
def Bm:=@Array.Perm.refl
def Bl:=@Bool.or_eq_true
def Bk:=@Heap.get?_update_ne
def Bj:=@wpAny_collect_seq
def Bi:=@wpAny_dictEntries
def Bh:=@wpAny_dictEpoch
def Bg:=@Nat.zero_add
def Bf:=@List.length_eraseIdx
def Gd:=@List.mem_append_left
def Gb:=@wpAny_storeName_local
def Ga:=@Calls.Name_function_global
def F9:=@Around.frames_deeper
def F8:=@List.length_replicate
def F7:=@codeAny_call_function
def F6:=@wpAny_newFunctionEnv_cells
def F5:=@entry_tuple_getitem
def F4:=@subscriptTail_builtinR
def F3:=@Calls.callWith_builtin
def F1:=@Calls.evalArgs_plain
def FZ:=@F.entry_list_append
def FY:=@F.args_list_append_2
def FX:=@List.length_singleton
def FW:=@List.eraseIdxIfInBounds_toArray
def FV:=@List.length_dropLast
def FU:=@wpAny_comprehension_free
def FR:=@List.getElem?_zipIdx
def FQ:=@PySem.F.slot_list_pop
def FP:=@PySem.F.type_list_pop
def FN:=@F.entry_tuple_iterator_next
def FL:=@F.args_tuple_iterator_next_1
def FK:=@Obj.isFreed_of_fields
def FH:=@PySem.W.kas_swaps_map
def FG:=@List.take_set_of_le
def FF:=@List.drop_set_of_lt
def FE:=@List.take_succ_cons
def FD:=@List.eraseIdx_eq_take_drop_succ
def KH:=@List.pairwise_lt_range
def FC:=@PySem.F.slot_dict_iter
def FA:=@PySem.F.entry_dict_keyiterator_next
def Fy:=@PySem.F.args_dict_keyiterator_next_1
def Fx:=@wpAny_isOneOf_keyiter
def Fw:=@PySem.F.plain_list_iadd
def Nz:=@Array.toList_eq_nil_iff
def Fv:=@Array.toArray_toList
def Fu:=@List.dropLast_eq_take
def Ny:=@Array.getElem?_eq_none_iff
def Ft:=@Array.toList_append
def Nx:=@PySem.F.attr_TypeError
def Fs:=@codeAny_call_builtin
def Fq:=@List.perm_cons_erase
def Fp:=@List.mem_erase_of_ne
def Fo:=@List.dropLast_concat_getLast
def Fn:=@List.mem_of_mem_eraseIdx
def Fm:=@List.length_eraseIdx_of_lt
end
namespace TT
open PySem
noncomputable def adv(mask:Nat)(p:SetTable.Probe):SetTable.Probe:=
 if p.more>0 then {p with j:=p.j+1,more:=p.more-1} else
 {p with j:=(SetTable.leap mask p.i p.perturb).1,more:=SetTable.runEnd mask (SetTable.leap mask p.i p.perturb).1-(SetTable.leap mask p.i p.perturb).1,i:=(SetTable.leap mask p.i p.perturb).1,perturb:=(SetTable.leap mask p.i p.perturb).2}
noncomputable def stt(mask:Nat)(h:Int):SetTable.Probe:={j:=SetTable.bits h%(mask+1),more:=SetTable.runEnd mask (SetTable.bits h%(mask+1))-SetTable.bits h%(mask+1),i:=SetTable.bits h%(mask+1),perturb:=SetTable.bits h,dummy:=none}
noncomputable def pr(mask:Nat)(h:Int):Nat->SetTable.Probe
 |0=>stt mask h
 |n+1=>adv mask (pr mask h n)
structure TabOk(hs:gS)(t:SetTable):Prop where
 pow: ∃k,3<=k/\k<=11/\t.mask+1=2^k
 dum:t.dummies= #[]
 len:t.place.size=hs.length
 room:5*hs.length<3*t.mask
 ris:t.place.toList.Pairwise (· < ·)
 bd: ∀j∈t.place.toList,j<=t.mask
 road: ∀(i:Nat) (h:Int) (j:Nat),hs[i]?=some h->t.place[i]?=some j-> ∃n,(pr t.mask h n).j=j/\ ∀m,m<n->(pr t.mask h m).j∈t.place.toList
end TT
namespace L2
open PySem PySem.Spec PyProof.Rows
abbrev Key:=Sum Int Str
noncomputable def vM:Key->Value->Bool
 | .inl k,v=>Value.isInt k v
 | .inr x,v=>Value.isStrOf x v
noncomputable def Qr(w:gy):Key->Int
 | .inl k=>hashInt k
 | .inr x=>hashStr w x
theorem iX: ∀{k:Key} {v:gp},vM k v=true->(∃i t,k=Sum.inl i/\v=Value.int i t)\/(∃x t,k=Sum.inr x/\v=Value.str x t)
 | .inl i,v,h=>by
  obtain⟨t,e⟩:=Value.isInt_shape (k:=i) (v:=v) h;exact .inl ⟨i,t,rfl,e⟩
 | .inr x,v,h=>by
  obtain⟨t,e⟩:=Value.isStrOf_shape (x:=x) (v:=v) h;exact .inr ⟨x,t,rfl,e⟩
theorem ES(i:Int)(t:Tok):vM (.inl i) (.int i t)=true:=by simp[vM,Value.isInt]
theorem EO(x:Str)(t:Tok):vM (.inr x) (.str x t)=true:=by simp[vM,Value.isStrOf]
theorem HY(a b:Int):decide ((Sum.inl a:Key)=Sum.inl b)=(a==b):=by
 by_cases e:a=b
 ·subst e;simp
 ·have h: ¬(Sum.inl a:Key)=Sum.inl b:=fun q=>e (Sum.inl.inj q);rw[kx h];exact(beq_eq_false_iff_ne.mpr e).symm
theorem HV(a b:Str):decide ((Sum.inr a:Key)=Sum.inr b)=decide (a=b):=by
 by_cases e:a=b
 ·subst e;simp
 ·have h: ¬(Sum.inr a:Key)=Sum.inr b:=fun q=>e (Sum.inr.inj q);rw[kx h,kx e]
theorem HX(a:Int)(b:Str):decide ((Sum.inl a:Key)=Sum.inr b)=false:=kx (fun q=>nomatch q)
theorem HW(a:Str)(b:Int):decide ((Sum.inr a:Key)=Sum.inl b)=false:=kx (fun q=>nomatch q)
noncomputable def jz(prog:gC)(w:gy):PySem.KeyKind prog w Key where
 is:=vM
 hash:=Qr w
 inj:=fun v a b ha hb=>by
  rcases iX ha with⟨i,t,rfl,rfl⟩|⟨x,t,rfl,rfl⟩
  ·rcases iX hb with⟨j,u,rfl,e⟩|⟨y,u,rfl,e⟩
   ·injection e with e1 _;rw[e1]
   ·exact nomatch e
  ·rcases iX hb with⟨j,u,rfl,e⟩|⟨y,u,rfl,e⟩
   ·exact nomatch e
   ·injection e with e1 _;rw[e1]
 byValue:=fun k v h=>by
  rcases iX h with⟨i,t,rfl,rfl⟩|⟨x,t,rfl,rfl⟩<;>rfl
 pyHash:=fun hv h=>by
  rcases iX hv with⟨i,t,rfl,rfl⟩|⟨x,t,rfl,rfl⟩
  ·exact wpAny_pyHash_int h
  ·exact wpAny_pyHash_str h
 eqBool:=fun hu hv h=>by
  rcases iX hu with⟨i,t,rfl,rfl⟩|⟨x,t,rfl,rfl⟩
  ·rcases iX hv with⟨j,u,rfl,rfl⟩|⟨y,u,rfl,rfl⟩
   ·rw[HY] at h;exact wpAny_eqBool_int h
   ·rw[HX] at h;exact SeqAt.EqAt.int_str i t y u _ _ _ _ h
  ·rcases iX hv with⟨j,u,rfl,rfl⟩|⟨y,u,rfl,rfl⟩
   ·rw[HW] at h;exact SeqAt.EqAt.str_int x t j u _ _ _ _ h
   ·rw[HV] at h;exact wpAny_eqBool_str h
 «strs»:=fun k x t v h=>by
  rcases iX h with⟨i,u,rfl,e⟩|⟨y,u,rfl,e⟩
  ·exact nomatch e
  ·injection e with e1 _
   subst e1;cases v<;>rfl
theorem AB(prog:gC)(w:gy)(i:Int)(t:Tok):(jz prog w).is (.inl i) (.int i t)=true:=ES i t
theorem AA(prog:gC)(w:gy)(x:Str)(t:Tok):(jz prog w).is (.inr x) (.str x t)=true:=EO x t
inductive V where
 |non|bl(b:Bool)|int(i:Int)|str(x:Str)|byt(b:Array UInt8)|flt(b:UInt64)|ref(a:fZ)|ty(n:String)
 deriving DecidableEq
def RelV:V->Value->Prop
 | .non,u=>u=Value.none
 | .bl b,u=>u=Value.bool b
 | .int i,u=> ∃t,u=Value.int i t
 | .str x,u=> ∃t,u=Value.str x t
 | .byt b,u=> ∃t,u=Value.bytes b t
 | .flt b,u=> ∃t,u=Value.float b t
 | .ref a,u=>u=Value.ref a
 | .ty n,u=>u=Value.type n
abbrev Vals:List V->List Value->Prop:=Paired RelV
theorem Vals.length{xs:List V}{us:hJ}(r:Vals xs us):xs.length=us.length:=rP r
theorem Vals.get: ∀{xs:List V} {us:hJ} {i:Nat} {x:V},Vals xs us->xs[i]?=some x-> ∃u,us[i]?=some u/\RelV x u
 |_,_,_,_,.nil,e=>by simp at e
 |_,_,0,_,.cons r _,e=>by simp at e;subst e;exact⟨_,rfl,r⟩
 |_,_,i+1,x,.cons _ t,e=>by
  obtain⟨u,h1,h2⟩:=Vals.get (i:=i) (x:=x) t (by simpa using e);exact⟨u,by simpa using h1,h2⟩
theorem Vals.set{x:V}{u:gp}(r:RelV x u): ∀{xs:List V} {us:hJ} (i:Nat),Vals xs us->Vals (xs.set i x) (us.set i u)
 |_,_,_,.nil=> .nil
 |_,_,0,.cons _ t=> .cons r t
 |_,_,i+1,.cons q t=> .cons q (Vals.set r i t)
theorem Vals.append: ∀{xs ys:List V} {us ws:hJ},Vals xs us->Vals ys ws->Vals (xs++ys) (us++ws)
 |_,_,_,_,.nil,s=>s
 |_,_,_,_,.cons r t,s=> .cons r (Vals.append t s)
theorem Vals.take: ∀{xs:List V} {us:hJ} (n:Nat),Vals xs us->Vals (xs.take n) (us.take n)
 |_,_,0,_=> .nil
 |_,_,_+1,.nil=> .nil
 |_,_,n+1,.cons r t=> .cons r (Vals.take n t)
theorem Vals.drop: ∀{xs:List V} {us:hJ} (n:Nat),Vals xs us->Vals (xs.drop n) (us.drop n)
 |_,_,0,r=>r
 |_,_,_+1,.nil=> .nil
 |_,_,n+1,.cons _ t=>Vals.drop n t
def RelO:Option V->Option Value->Prop
 |some v,some u=>RelV v u
 |none,none=>True
 |_,_=>False
def KV{κ:Type}:List (κ×V)->List (κ×Value)->Prop:=Paired fun(p:κ×V) (q:κ×Value)=>p.1=q.1/\RelV p.2 q.2
noncomputable def kV:Key->V
 | .inl i=> .int i
 | .inr x=> .str x
inductive HO where
 /-- a list -/
 |lst(xs:List V)
 /-- a tuple(never changes) -/
 |tup(xs:List V)
 /-- a dict whose keys are ints and texts;one whose keys are tuples of ints and texts(the empty one is both) -/
 |dK(kvs:List (Key×V))|dT(kvs:List (List Key×V))
 /-- a set of ints:its members,its size -/
 |set (S:Int->Bool) (n:Nat)
 |stt (zs:List (Int×V))
 /-- an instance of the class at C,its dict at dx,its attributes -/
 |ins (C dx:fZ) (fs:List (Str×V))
 /-- the dict of the instance at x -/
 |own (x:fZ)
 /-- the dict of an exception -/
 |xd (fs:List (Str×V))
 /-- a bound method,f of x -/
 |met (f x:fZ)
 /-- a range object lo,lo+1,.. below hi -/
 |rng (lo hi:Int)
 /-- a thing that is known to the object (the script;a dict while a loop walks it):read,never written while it is so -/
 |frz (o:Obj) (u:HO)
 /-- a code object's table -/
 |tbl (ps:jI)
 /-- any other thing,by what is true of its one object (a def of one's own:SetO a S n:=HO.ext fun h=> ..) -/
 |ext (φ:Heap->Prop)
abbrev Hp:=Addr->Option HO
noncomputable def upd(H:Hp)(a:fZ)(o:HO):Hp:=fun b=>if b=a then some o else H b
theorem gQ{H:Hp}{a:fZ}{o:HO}:upd H a o a=some o:=by unfold upd;rw[gq rfl]
theorem gK{H:Hp}{a b:fZ}{o:HO}(h:b≠a):upd H a o b=H b:=by unfold upd;rw[gv h]
theorem Di{H:Hp}{a:fZ}{o u:HO}:upd (upd H a o) a u=upd H a u:=by
 funext b;unfold upd;split<;>rfl
theorem K6{H:Hp}{a b:fZ}{o u:HO}(h:H a=some o)(h':H b=some u)(d:o≠u):a≠b:=by
 intro e;subst e;rw[h] at h';exact d (iw h')
theorem jv{H:Hp}{a b:fZ}{o:HO}(h:H a=some o)(h':H b=none):a≠b:=by
 intro e;subst e;rw[h] at h';cases h'
section
variable(P:gC)(w:gy)
def ObjOk(H:Hp)(h:gz)(a:fZ):HO->Prop
 | .lst xs=>xs.length<=sizeLine/\ ∃(its:hJ) (n:Nat),Vals xs its/\h.get? a=some {cls:= .type "list",data:= .seq its.toArray n}
 | .tup xs=>xs.length<=sizeLine/\ ∃its:List Value,Vals xs its/\IsTup h a its.toArray
 | .dK kvs=>kvs.length<=sizeLine/\(a==sysModules)=false/\ ∃vs,KV kvs vs/\h.DictOf (jz P w) a vs
 | .dT kvs=>kvs.length<=sizeLine/\(a==sysModules)=false/\ ∃xs:List (List Key×Addr×Value),
   Paired (fun(p:List Key×V) (q:List Key×Addr×Value)=>p.1=q.1/\H q.2.1=some (.tup (p.1.map kV))/\RelV p.2 q.2.2) kvs xs/\
   ∃o es ep,h.get? a=some o/\o.ExactDict/\o.data= .dict es ep/\es.toList=xs.map (entryOfKey (tupleKind (jz P w)))/\(xs.map (·.1)).Nodup
 | .set S n=>h.SetOf (intKind P w) a S n
 | .stt zs=> ∃(es:Array (Int×Value)) (n:Nat) (t:SetTable),h.get? a=some {cls:= .type "set",data:= .set es n t}/\Paired (fun(z:Int×V) (e:Int×Value)=>z.1=e.1/\RelV z.2 e.2) zs es.toList/\
   TT.TabOk (zs.map (·.1)) t/\t.plain=true/\t.led=!w.params.followText "set-order"
 | .ins C dx fs=>H dx=some (.own a)/\fs.length<=1000/\dx≠a/\h.get? a=some (PySem.W.instObj C dx)/\
   ∃mA,h.Ns1 dx mA/\(∀f,RelO (fs.lookup f) (mA f))/\PySem.Within mA (fs.map (·.1))
 | .own _=> ∃o,h.get? a=some o
 | .xd fs=> ∃mA,h.Ns1 a mA/\ ∀f,RelO (fs.lookup f) (mA f)
 | .rng lo hi=> ∃t u v,h.get? a=some {cls:= .type "range",data:= .fields #[.int lo t,.int hi u,.int 1 v]}
 | .frz o u=>h.get? a=some o/\ObjOk H h a u
 | .tbl ps=> ∃q t qs,ps[0]?=some (.str q t)/\h.get? a=some {cls:= .none,data:= .fields qs}/\TriplesOk qs.toList/\ ∀pos cv,codeAmong pos qs.toList=some cv-> ∃c ob u vs t,cv= .ref c/\H c=some (.frz ob u)/\ob.data= .fields vs/\vs[1]?=some (.str q t)
 | .met f x=>h.get? a=some (PySem.W.methodObj (.ref f) (.ref x))
 | .ext φ=>φ h/\(∃o,h.get? a=some o)/\ ∀h1 h2:Heap,φ h1->(∀o,h1.get? a=some o->h2.get? a=some o)->φ h2
def HOk(H:Hp)(h:gz):Prop:= ∀a o,H a=some o->ObjOk P w H h a o
end
section
variable {P:gC}{w:gy}{H H':Hp}{h h':gz}{a:fZ}{o:HO}
theorem ObjOk.lt(x:ObjOk P w H h a o):a<h.objs.size:=by
 cases o with
 |lst xs=>obtain⟨_,_,_,_,e⟩:=x;exact iC e
 |tup xs=>obtain⟨_,_,_,p⟩:=x;exact p.lt
 |dK kvs=>obtain⟨_,_,_,_,o,_,_,e,_⟩:=x;exact iC e
 |dT kvs=>obtain⟨_,_,_,_,o,_,_,e,_⟩:=x;exact iC e
 |set S n=>obtain⟨o,_,_,_,e,_⟩:=x;exact iC e
 |stt zs=>obtain⟨_,_,_,e,_⟩:=x;exact iC e
 |ins C dx fs=>obtain⟨_,_,_,e,_⟩:=x;exact iC e
 |own y=>obtain⟨_,e⟩:=x;exact iC e
 |xd fs=>obtain⟨_,⟨_,_,_,e,_⟩,_⟩:=x;exact iC e
 |rng lo hi=>obtain⟨_,_,_,e⟩:=x;exact iC e
 |frz ob u=>obtain⟨e,_⟩:=x;exact iC e
 |tbl ps=>obtain⟨_,_,_,_,e,_⟩:=x;exact iC e
 |met f y=>exact iC (show h.get? a=some _ from x)
 |ext φ=>obtain⟨_,⟨_,e⟩,_⟩:=x;exact iC e
theorem Paired.mapP{α β:Type}{F G:α->β->Prop}: ∀{l₁:List α} {l₂:List β},Paired F l₁ l₂->(∀a b,F a b->G a b)->Paired G l₁ l₂
 |_,_,.nil,_=> .nil
 |_,_,.cons r t,f=> .cons (f _ _ r) (Paired.mapP t f)
theorem ObjOk.stay(x:ObjOk P w H h a o)(k: ∀b u,(b=a\/H b=some (.own a))->h.get? b=some u->h'.get? b=some u)
  (ho: ∀b,H b=some (.own a)->H' b=some (.own a))(ht: ∀b xs,H b=some (.tup xs)->H' b=some (.tup xs))(hz: ∀b ob u,H b=some (.frz ob u)->H' b=some (.frz ob u):=by exact fun _ _ _ q=>q):ObjOk P w H' h' a o:=by
 induction o with
 |lst xs=>obtain⟨z,its,n,r,e⟩:=x;exact⟨z,its,n,r,k _ _ (.inl rfl) e⟩
 |tup xs=>obtain⟨z,its,r,ob,e,c⟩:=x;exact⟨z,its,r,ob,k _ _ (.inl rfl) e,c⟩
 |dK kvs=>obtain⟨z,y,vs,r,ob,es,ep,e,c⟩:=x;exact⟨z,y,vs,r,ob,es,ep,k _ _ (.inl rfl) e,c⟩
 |dT kvs=>
  obtain⟨z,y,xs,r,ob,es,ep,e,c⟩:=x;exact⟨z,y,xs,Paired.mapP r fun p q z=>⟨z.1,ht _ _ z.2.1,z.2.2⟩,ob,es,ep,k _ _ (.inl rfl) e,c⟩
 |set S n=>obtain⟨ob,es,ep,t,e,c⟩:=x;exact⟨ob,es,ep,t,k _ _ (.inl rfl) e,c⟩
 |stt zs=>obtain⟨es,n,t,e,c⟩:=x;exact⟨es,n,t,k _ _ (.inl rfl) e,c⟩
 |ins C dx fs=>
  obtain⟨d,z,ne,e,mA,⟨od,es,ep,e2,c⟩,r⟩:=x;exact⟨ho _ d,z,ne,k _ _ (.inl rfl) e,mA,⟨od,es,ep,k _ _ (.inr d) e2,c⟩,r⟩
 |own y=>obtain⟨ob,e⟩:=x;exact⟨ob,k _ _ (.inl rfl) e⟩
 |xd fs=>obtain⟨mA,⟨od,es,ep,e,c⟩,r⟩:=x;exact⟨mA,⟨od,es,ep,k _ _ (.inl rfl) e,c⟩,r⟩
 |rng lo hi=>obtain⟨t,u,v,e⟩:=x;exact⟨t,u,v,k _ _ (.inl rfl) e⟩
 |frz ob u ih=>obtain⟨e,q⟩:=x;exact⟨k _ _ (.inl rfl) e,ih q⟩
 |tbl ps=>obtain⟨q,t,qs,e0,e,tr,m⟩:=x;exact⟨q,t,qs,e0,k _ _ (.inl rfl) e,tr,fun pos cv z=>let⟨c,ob,u,vs,t,h1,h2,h3⟩:=m pos cv z;⟨c,ob,u,vs,t,h1,hz _ _ _ h2,h3⟩⟩
 |met f y=>
  have e:h.get? a=some (PySem.W.methodObj (.ref f) (.ref y)):=x;show h'.get? a=some (PySem.W.methodObj (.ref f) (.ref y));exact k a _ (.inl rfl) e
 |ext φ=>obtain⟨p,⟨o,e⟩,st⟩:=x;exact⟨st _ _ p fun o q=>k _ _ (.inl rfl) q,⟨o,k _ _ (.inl rfl) e⟩,st⟩
theorem HOk.lt(x:HOk P w H h)(e:H a=some o):a<h.objs.size:=(x a o e).lt
theorem HOk.fresh(x:HOk P w H h)(e:h.objs.size<=a):H a=none:=by
 cases q:H a with
 |none=>rfl
 |some u=>exact absurd (lF (x.lt q) e) (ot _)
theorem HOk.kept(x:HOk P w H h)(k: ∀b u,h.get? b=some u->h'.get? b=some u):HOk P w H h':=fun a o e=>
 (x a o e).stay (fun b u _ q=>k b u q) (fun _ q=>q) fun _ _ q=>q
theorem HOk.laid(x:HOk P w H h)(k: ∀b u,h.get? b=some u->h'.get? b=some u)(hp:h.objs.size<=a)(new:ObjOk P w (upd H a o) h' a o):HOk P w (upd H a o) h':=fun b u e=>by
 have hn:=x.fresh hp;by_cases hb:b=a
 ·subst hb;rw[gQ] at e;cases e;exact new
 ·rw[gK hb] at e;exact(x b u e).stay (fun c v _ q=>k c v q) (fun c q=>by rw[gK (jv q hn)];exact q) (fun c xs q=>by rw[gK (jv q hn)];exact q) fun c _ _ q=>by rw[gK (jv q hn)];exact q
end
def Rd(H:Hp)(a:fZ)(u:HO):Prop:=H a=some u\/ ∃o,H a=some (.frz o u)
theorem Rd.ok{P:gC}{w:gy}{H:Hp}{h:gz}{a:fZ}{u:HO}(r:Rd H a u)(x:HOk P w H h):ObjOk P w H h a u:=by
 rcases r with r|⟨o,r⟩
 ·exact x a u r
 ·obtain⟨_,q⟩:=x a _ r;exact q
def Mut:Option HO->Prop
 |some (.lst _)=>True
 |some (.dK _)=>True
 |some (.dT _)=>True
 |some (.set _ _)=>True
 |some (.stt _)=>True
 |some (.ins _ _ _)=>True
 |some (.ext _)=>True
 |_=>False
section
variable {P:gC}{w:gy}{H:Hp}{h h':gz}{x e:fZ}{o':HO}
theorem HOk.write(ok:HOk P w H h)(mu:Mut (H x))(he:e=x\/H e=some (.own x))(k: ∀b u,b≠e->h.get? b=some u->h'.get? b=some u)(cK: ∃u,h'.get? e=some u)
  (new:ObjOk P w (upd H x o') h' x o'):HOk P w (upd H x o') h':=fun b u q=>by
 have nown: ∀c y,H c=some (.own y)->c≠x:=fun c y r z=>by subst z;rw[r] at mu;exact mu
 have ntup: ∀c xs,H c=some (.tup xs)->c≠x:=fun c xs r z=>by subst z;rw[r] at mu;exact mu
 by_cases hb:b=x
 ·subst hb;rw[gQ] at q;cases q;exact new
 ·rw[gK hb] at q;by_cases bB:b=e
  ·have q':H b=some (.own x):=by
    rcases he with z|z
    ·exact absurd (bB.trans z) hb
    ·rw[bB];exact z
   rw[q] at q';cases q';obtain⟨v,hv⟩:=cK;exact⟨v,by rw[bB];exact hv⟩
  ·refine(ok b u q).stay (fun c v hc r=>k c v ?_ r) (fun c r=>by rw[gK (nown c b r)];exact r) (fun c xs r=>by rw[gK (ntup c xs r)];exact r) fun c _ _ r=>by rw[gK (fun z=>by subst z;rw[r] at mu;exact mu)];exact r
   rcases hc with rfl|hc
   ·exact bB
   ·rintro rfl;rcases he with z|z
    ·exact nown c b hc z
    ·rw[hc] at z;cases z;exact hb rfl
end
structure Un(fs ex:iW)(H H':Hp)(h h':gz):Prop where
 keep: ∀b o,h.get? b=some o->H b=none->b∉fs->b∉ex->h'.get? b=some o
 slot: ∀b o,h.get? b=some o->H b=none->b∈fs->b∉ex-> ∃sl,h'.get? b=some {o with slots:=sl}
 free: ∀b o,h.get? b=some o->H b=none->b∉ex->H' b=none
 there: ∀b o,h.get? b=some o->b∉ex-> ∃o',h'.get? b=some o'
 tups: ∀b xs,H b=some (.tup xs)->H' b=some (.tup xs)
 frzs: ∀b o u,H b=some (.frz o u)->H' b=some (.frz o u)
 tbls: ∀b ps,H b=some (.tbl ps)-> ∃more,H' b=some (.tbl (ps++more))
section
variable {fs fs' ex ex':iW}{H H1 H2:Hp}{h h1 h2 h':gz}{a x e:fZ}{o:HO}
theorem Un.any(u:Un fs ex H H1 h h1){b:fZ}{ob:Obj}(q:h.get? b=some ob)(n:H b=none)(hx:b∉ex): ∃sl,h1.get? b=some {ob with slots:=sl}:=by
 by_cases hb:b∈fs
 ·exact u.slot b ob q n hb hx
 ·exact⟨ob.slots,u.keep b ob q n hb hx⟩
theorem Un.kept(k: ∀b u,h.get? b=some u->h'.get? b=some u):Un fs ex H H h h':=
 ⟨fun b ob q _ _ _=>k b ob q,fun b ob q _ _ _=>⟨ob.slots,k b ob q⟩,fun _ _ _ n _=>n,fun b ob q _=>⟨ob,k b ob q⟩,fun _ _ q=>q,fun _ _ _ q=>q,fun _ ps q=>⟨#[],by rw[q];simp⟩⟩
theorem Un.refl:Un fs ex H H h h:=Un.kept fun _ _ q=>q
theorem Un.laid(k: ∀b u,h.get? b=some u->h'.get? b=some u)(hp:h.objs.size<=a)(hn:H a=none):Un fs ex H (upd H a o) h h' where
 keep:=fun b u q _ _ _=>k b u q
 slot:=fun b u q _ _ _=>⟨u.slots,k b u q⟩
 free:=fun b u q n _=>by rw[gK (iF (lF (iC q) hp))];exact n
 there:=fun b u q _=>⟨u,k b u q⟩
 tups:=fun b xs q=>by rw[gK (jv q hn)];exact q
 frzs:=fun b u xs q=>by rw[gK (jv q hn)];exact q
 tbls:=fun b ps q=>⟨#[],by rw[gK (jv q hn),q];simp⟩
theorem Un.write(mu:Mut (H x))(he:e=x\/H e=some (.own x))(k: ∀b u,b≠e->h.get? b=some u->h'.get? b=some u)(cK: ∃u,h'.get? e=some u):Un fs ex H (upd H x o) h h':=by
 have hx: ∀b,H b=none->b≠x:=fun b n z=>by subst z;rw[n] at mu;exact mu
 have hb: ∀b,H b=none->b≠e:=fun b n z=>by
  subst z;rcases he with r|r
  ·exact hx b n r
  ·rw[n] at r;cases r
 have hm: ∀b u,H b=some u-> ¬Mut (some u)->b≠x:=fun b u q nm z=>by subst z;rw[q] at mu;exact nm mu
 refine⟨fun b u q n _ _=>k b u (hb b n) q,fun b u q n _ _=>⟨u.slots,k b u (hb b n) q⟩,fun b u q n _=>by rw[gK (hx b n)];exact n,fun b u q _=>?_,
  fun b xs q=>by rw[gK (hm b _ q fun z=>z)];exact q,fun b u xs q=>by rw[gK (hm b _ q fun z=>z)];exact q,fun b ps q=>⟨#[],by rw[gK (hm b _ q fun z=>z),q];simp⟩⟩
 by_cases bB:b=e
 ·subst bB;exact cK
 ·exact⟨u,k b u bB q⟩
end
noncomputable def trk(h:gz)(H:Hp):List Addr:=(List.range h.objs.size).filter fun a=>(H a).isSome
noncomputable def wH(h:gz)(H:Hp):Heap:=PySem.W.hideAll h (trk h H)
theorem EW(h:gz)(H:Hp):(wH h H).objs.size=h.objs.size:=PySem.W.hideAll_size _ _
theorem Ic{h:gz}{H:Hp}{b:fZ}{o:Obj}(e:h.get? b=some o)(n:H b=none):(wH h H).get? b=some o:=
 PySem.W.hideAll_get _ e fun hm=>by
  have q:(H b).isSome=true:=(List.mem_filter.mp hm).2;rw[n] at q;simp at q
theorem J7{h:gz}{H:Hp}{b:fZ}{o:Obj}(e:(wH h H).get? b=some o):h.get? b=some o/\H b=none:=by
 have e':h.get? b=some o:=PySem.W.of_hideAll (trk h H) e;refine⟨e',?_⟩
 cases q:H b with
 |none=>rfl
 |some x=>
  have hm:b∈trk h H:=List.mem_filter.mpr ⟨List.mem_range.mpr (iC e'),by simp[q]⟩;have z:(wH h H).get? b=none:=PySem.W.hideAll_none (trk h H) hm;rw[z] at e;cases e
noncomputable def KA(g h:gz)(L:fZ):List (Addr×Obj):=(List.range h.objs.size).filterMap fun a=>if a=L\/(g.get? a).isSome=true then none else(h.get? a).map fun o=>(a,o)
noncomputable def hU(g h:gz)(L d:fZ):List (Addr×Obj):=(KA g h L).filter fun p=>decide (p.1≠d)
structure Mod(K:gA)(mg:jy)(base:gz):Prop where
 kin:K.In base
 glob:base.Ns mainGlobals mg
 blt: ∃mb,base.Ns builtinsNs mb/\ ∀x:Str,x≠"__name__"->mb x=bootBuiltins x
 nolimit:base.NoLimit
structure Cx where
 prog:Program
 w:World
 K:PySem.W.Frag
 mg:Str->Option Value
 base:Heap
 A:Around
 N:List Str
 s₀:Shared
 H₀:Hp
 env:Env
 outer:List Env
 stack:List Env
 ex:List Addr
 fn:Str->Bool
 calm:Bool
 pn:List (Addr×Obj)
 xe:Value->Shared->Prop
noncomputable def frs(l:List Env):List Addr:=l.filterMap (·.frame)
abbrev Cx.fs(X:Cx):List Addr:=frs X.outer
def Vis(sc:iq)(x:Str):Prop:=sc.names.lookup x=some .local\/sc.names.lookup x=some .cell\/sc.names.lookup x=some .free
def Loc(sc:iq)(x:Str):Prop:=sc.names.lookup x=some .local\/sc.names.lookup x=some .cell
def QM(env:Env)(h:gz)(m:jy)(x:Str)(u:gp):Prop:=
 (env.kindOf x=some .local/\m x=some u)\/((env.kindOf x=some .cell\/env.kindOf x=some .free)/\ ∃c,env.cells.lookup x=some c/\h.IsCell c (some u))
structure Cx.Ok(X:Cx):Prop where
 mod:Mod X.K X.mg X.base
 kind:X.env.scope.kind= .function
 glob:X.env.globals=mainGlobals
 blt:X.env.builtins=builtinsNs
 above:X.s₀.heap.objs.size<=X.env.locals
 inj: ∀x y c,X.env.cells.lookup x=some c->X.env.cells.lookup y=some c->x=y
 has: ∀x,(X.env.kindOf x=some .cell\/X.env.kindOf x=some .free)-> ∃c,X.env.cells.lookup x=some c
 cab: ∀x c,X.fn x=true->X.env.cells.lookup x=some c->X.s₀.heap.objs.size<=c
 hd:X.calm=true->X.A.handled=none
 frames:X.A.frames=some X.stack
 stk:X.stack=X.outer\/(X.stack=X.env::X.outer/\X.env.frame=some X.env.locals)
 exf: ∀b∈X.ex,b≠X.env.locals/\ ∀x c,X.env.cells.lookup x=some c->c≠b
 bs: ∀b o,X.base.get? b=some o->X.s₀.heap.get? b=some o/\X.H₀ b=none
 bsz:X.base.objs.size<=X.s₀.heap.objs.size
 noex: ∀b o,X.base.get? b=some o->b∉X.ex
 exfs: ∀b∈X.ex,b∉X.fs
 funs:X.s₀.heap.FunFrames X.base X.outer
 frf: ∀b∈X.fs,X.H₀ b=none
structure Inv(X:Cx)(pins:gO)(σ:List (Option V))(H:Hp)(s:gi):Prop where
 ok:X.Ok
 os:s.os=X.s₀.os
 bare:AllBare s.gens
 base:Un X.fs X.ex X.H₀ H X.s₀.heap s.heap
 loc: ∃m,s.heap.Ns X.env.locals m/\ ∀(i:Nat) (x:Str) (v:V),X.N[i]?=some x->σ[i]?=some (some v)->Vis X.env.scope x-> ∃u,RelV v u/\QM X.env s.heap m x u
 cell: ∀x c,X.env.cells.lookup x=some c-> ∃v,s.heap.IsCell c v
 free:H X.env.locals=none
 freeC: ∀x c,X.env.cells.lookup x=some c->H c=none
 pin: ∀p∈X.pn++pins,s.heap.get? p.1=some p.2/\H p.1=none/\p.1≠X.env.locals/\p.1∉X.fs/\ ∀v,p.2.data≠ .cell v
 hok:HOk X.prog X.w H s.heap
 len:σ.length=X.N.length
section
variable {X:Cx}{pins:gO}{σ:List (Option V)}{H H':Hp}{s:gi}{h':gz}
theorem Cx.Ok.nofr(ok:X.Ok){b:fZ}{o:Obj}(e:X.base.get? b=some o):b∉X.fs:=fun hb=>by
 have:=(ok.funs.mem hb).1;rw[e] at this;cases this
theorem Inv.bs(I:Inv X pins σ H s): ∀b o,X.base.get? b=some o->s.heap.get? b=some o/\H b=none:=fun b o e=>
 ⟨I.base.keep b o (I.ok.bs b o e).1 (I.ok.bs b o e).2 (I.ok.nofr e) (I.ok.noex b o e),I.base.free b o (I.ok.bs b o e).1 (I.ok.bs b o e).2 (I.ok.noex b o e)⟩
theorem Inv.bk(I:Inv X pins σ H s): ∀b o,X.base.get? b=some o->s.heap.get? b=some o:=fun b o e=>(I.bs b o e).1
theorem Inv.mod(I:Inv X pins σ H s):Mod X.K X.mg X.base:=I.ok.mod
theorem Inv.kIn(I:Inv X pins σ H s):X.K.In s.heap:=I.ok.mod.kin.keeps I.bk
theorem Inv.lt(I:Inv X pins σ H s):X.env.locals<s.heap.objs.size:=let⟨_,hn,_⟩:=I.loc;hn.lt
theorem Inv.sz(I:Inv X pins σ H s):X.s₀.heap.objs.size<=s.heap.objs.size:=mE I.ok.above (uB I.lt)
theorem Inv.nofs(I:Inv X pins σ H s){a:fZ}(h:s.heap.objs.size<=a):a∉X.fs:=fun hb=>by
 obtain⟨_,o,ho,_⟩:=I.ok.funs.mem hb;exact absurd (lF (iC ho) (mE I.sz h)) (ot _)
theorem Inv.cne(I:Inv X pins σ H s): ∀x c,X.env.cells.lookup x=some c->c≠X.env.locals:=fun x c e z=>by
 obtain⟨v,o,ho,hd⟩:=I.cell x c e;obtain⟨m,⟨o',es,ep,cc,bw,_⟩,_⟩:=I.loc;rw[z,cc] at ho;cases ho;rw[bw] at hd;cases hd
theorem Inv.funs(I:Inv X pins σ H s):s.heap.FunFrames X.base X.outer:=by
 have all: ∀(l:List Env),(∀b∈frs l,b∈X.fs)->X.s₀.heap.FunFrames X.base l->s.heap.FunFrames X.base l:=by
  intro l
  induction l with
  |nil=>intro _ _;trivial
  |cons env r ih=>
   intro hs hl;obtain⟨hk,⟨L,o,hf,hn,ho,hd⟩,hr⟩:=hl;have hL:L∈X.fs:=hs L (by unfold frs;rw[yJ,hf];exact jg);obtain⟨sl,e⟩:=I.base.slot L o ho (I.ok.frf L hL) hL fun z=>I.ok.exfs L z hL;exact⟨hk,⟨L,_,hf,hn,e,hd⟩,ih (fun b hb=>hs b (by unfold frs;rw[yJ,hf];exact jf _ hb)) hr⟩
 exact all X.outer (fun _ hb=>hb) I.ok.funs
theorem Inv.stack(I:Inv X pins σ H s):s.heap.FunFrames X.base X.stack:=by
 rcases I.ok.stk with e|⟨e,hf⟩
 ·rw[e];exact I.funs
 ·rw[e];obtain⟨m,hn,_⟩:=I.loc;refine .cons (by rw[I.ok.kind];decide) hf hn ?_ I.funs;exact Heap.get?_none_of_le (mE I.ok.bsz I.ok.above)
theorem Inv.stkSub(I:Inv X pins σ H s): ∀b∈frs X.stack,b∈X.env.locals::X.fs:=fun b hb=>by
 rcases I.ok.stk with e|⟨e,hf⟩
 ·rw[e] at hb;exact jf _ hb
 ·rw[e] at hb;unfold frs at hb;rw[yJ,hf] at hb;exact hb
theorem Inv.stkFree(I:Inv X pins σ H s): ∀b∈frs X.stack,H b=none:=fun b hb=>by
 rcases kb.mp (I.stkSub b hb) with e|hb
 ·rw[e];exact I.free
 ·obtain⟨_,o,ho,_⟩:=I.ok.funs.mem hb;exact I.base.free b o ho (I.ok.frf b hb) fun z=>I.ok.exfs b z hb
theorem Inv.step{g':Array GenState}{t':Nat}{d':Drawn}{ch:iW}(I:Inv X pins σ H s)
  (aX: ∀b∈ch,(b∈X.ex\/X.s₀.heap.objs.size<=b)/\b≠X.env.locals/\(∀x c,X.env.cells.lookup x=some c->c≠b)/\ ∀p∈X.pn++pins,p.1≠b)
  (keep: ∀b o,b≠X.env.locals->b∉X.fs->b∉ch->s.heap.get? b=some o->H b=none->h'.get? b=some o)
  (slot: ∀b o,b≠X.env.locals->b∈X.fs->b∉ch->s.heap.get? b=some o->H b=none-> ∃sl,h'.get? b=some {o with slots:=sl})(free: ∀b o,b∉ch->s.heap.get? b=some o->H b=none->H' b=none)
  (there: ∀b o,b∉ch->s.heap.get? b=some o-> ∃o',h'.get? b=some o')
  (tups: ∀b xs,H b=some (.tup xs)->H' b=some (.tup xs))(frzs: ∀b o u,H b=some (.frz o u)->H' b=some (.frz o u))(tbls: ∀b ps,H b=some (.tbl ps)-> ∃more,H' b=some (.tbl (ps++more)))
  (ns: ∀m,s.heap.Ns X.env.locals m->h'.Ns X.env.locals m)(hok:HOk X.prog X.w H' h')(hg:AllBare g'):
  Inv X pins σ H' {s with heap:=h',gens:=g',drawn:=d',toks:=t'}:=by
 have neL: ∀b o,X.s₀.heap.get? b=some o->b≠X.env.locals:=fun b o e=>iF (lF (iC e) I.ok.above)
 have dD: ∀b o,X.s₀.heap.get? b=some o->b∉X.ex->b∉ch:=fun b o e hx hb=>by
  rcases(aX b hb).1 with z|z
  ·exact hx z
  ·exact absurd (lF (iC e) z) (ot _)
 have cellK: ∀x c,X.env.cells.lookup x=some c-> ∀v,s.heap.IsCell c v->h'.IsCell c v:=fun x c e v ⟨o,ho,hd⟩=>by
  have aA:c∉ch:=fun z=>(aX c z).2.2.1 x c e rfl;by_cases hc:c∈X.fs
  ·obtain⟨sl,q⟩:=slot c o (I.cne x c e) hc aA ho (I.freeC x c e);exact⟨_,q,hd⟩
  ·exact⟨o,keep c o (I.cne x c e) hc aA ho (I.freeC x c e),hd⟩
 refine⟨I.ok,I.os,hg,⟨fun b o e n hb hx=>?_,fun b o e n hb hx=>?_,fun b o e n hx=>?_,fun b o e hx=>?_,fun b xs e=>tups b xs (I.base.tups b xs e),fun b o xs e=>frzs b o xs (I.base.frzs b o xs e),fun b ps e=>?_⟩,?_,fun x c e=>?_,?_,fun x c e=>?_,fun p hp=>?_,hok,I.len⟩
 ·exact keep b o (neL b o e) hb (dD b o e hx) (I.base.keep b o e n hb hx) (I.base.free b o e n hx)
 ·obtain⟨sl,e1⟩:=I.base.slot b o e n hb hx;obtain⟨dy,e2⟩:=slot b _ (neL b o e) hb (dD b o e hx) e1 (I.base.free b o e n hx);exact⟨dy,e2⟩
 ·obtain⟨o',e1⟩:=I.base.there b o e hx;exact free b o' (dD b o e hx) e1 (I.base.free b o e n hx)
 ·obtain⟨o',e1⟩:=I.base.there b o e hx;exact there b o' (dD b o e hx) e1
 ·obtain⟨m1,e1⟩:=I.base.tbls b ps e;obtain⟨m2,e2⟩:=tbls b _ e1;exact⟨m1++m2,by rw[e2,yI]⟩
 ·obtain⟨m,hn,hl⟩:=I.loc;refine⟨m,ns m hn,fun i x v e1 e2 e3=>?_⟩;obtain⟨u,r,l⟩:=hl i x v e1 e2 e3;refine⟨u,r,?_⟩;rcases l with l|⟨k,c,e,z⟩
  ·exact .inl l
  ·exact .inr ⟨k,c,e,cellK x c e _ z⟩
 ·obtain⟨v,z⟩:=I.cell x c e;exact⟨v,cellK x c e v z⟩
 ·obtain⟨m,⟨o,_,_,ho,_⟩,_⟩:=I.loc;exact free _ o (fun z=>(aX _ z).2.1 rfl) ho I.free
 ·obtain⟨v,o,ho,hd⟩:=I.cell x c e;exact free c o (fun z=>(aX c z).2.2.1 x c e rfl) ho (I.freeC x c e)
 ·obtain⟨e,n,ne,nf,d⟩:=I.pin p hp;have aA:p.1∉ch:=fun z=>(aX p.1 z).2.2.2 p hp rfl;exact⟨keep p.1 p.2 ne nf aA e n,free p.1 p.2 aA e n,ne,nf,d⟩
theorem Inv.un{t':Nat}(I:Inv X pins σ H s)(u:Un X.fs [] H H' s.heap h')(hok:HOk X.prog X.w H' h'):Inv X pins σ H' {s with heap:=h',toks:=t'}:=by
 obtain⟨m,⟨o,es,ep,ho,r⟩,_⟩:=id I.loc;obtain⟨sl,hL⟩:=u.any ho I.free (by simp)
 exact I.step (g':=s.gens) (d':=s.drawn) (ch:=[]) (fun _ z=>nomatch z) (fun b o _ hb _ e n=>u.keep b o e n hb (by simp)) (fun b o _ hb _ e n=>u.slot b o e n hb (by simp)) (fun b o _ e n=>u.free b o e n (by simp)) (fun b o _ e=>u.there b o e (by simp)) u.tups u.frzs u.tbls (fun m' hm=>by
  obtain⟨o',fO,fP,cc,r'⟩:=hm;rw[ho] at cc;cases cc;exact⟨_,fO,fP,hL,r'⟩) hok I.bare
theorem Inv.call{g':Array GenState}{t':Nat}{d':Drawn}{ch:iW}(I:Inv X pins σ H s)(u:Un (frs X.stack) ch H H' s.heap h')(hok:HOk X.prog X.w H' h')(hg:AllBare g')
  (aX: ∀b∈ch,(b∈X.ex\/X.s₀.heap.objs.size<=b)/\b≠X.env.locals/\(∀x c,X.env.cells.lookup x=some c->c≠b)/\ ∀p∈X.pn++pins,p.1≠b):
  Inv X pins σ H' {s with heap:=h',gens:=g',drawn:=d',toks:=t'}:=by
 obtain⟨m,⟨o,es,ep,ho,r⟩,_⟩:=id I.loc;obtain⟨sl,hL⟩:=u.any ho I.free fun z=>(aX _ z).2.1 rfl
 exact I.step (ch:=ch) aX (fun b o hL hb hc e n=>u.keep b o e n (fun z=>(kb.mp (I.stkSub b z)).elim hL hb) hc) (fun b o _ _ hc e n=>u.any e n hc) (fun b o hc e n=>u.free b o e n hc) (fun b o hc e=>u.there b o e hc) u.tups u.frzs u.tbls (fun m' hm=>by
  obtain⟨o',fO,fP,cc,r'⟩:=hm;rw[ho] at cc;cases cc;exact⟨_,fO,fP,hL,r'⟩) hok hg
theorem Inv.turned{t':Nat}{it:fZ}(I:Inv X pins σ H s)(k: ∀b o,b≠it->s.heap.get? b=some o->h'.get? b=some o)(hn:H it=none)(hL:it≠X.env.locals)
  (h1:it∈X.ex\/X.s₀.heap.objs.size<=it)(h2: ∀x c,X.env.cells.lookup x=some c->c≠it)(h3: ∀p∈X.pn++pins,p.1≠it):Inv X pins σ H {s with heap:=h',toks:=t'}:=by
 have nit: ∀b u,H b=some u->b≠it:=fun b u e z=>by rw[z,hn] at e;cases e
 refine I.step (g':=s.gens) (d':=s.drawn) (ch:=[it]) (fun b hb=>?_) (fun b o _ _ hc e _=>k b o (fun z=>hc (by simp[z])) e) (fun b o _ _ hc e _=>⟨o.slots,k b o (fun z=>hc (by simp[z])) e⟩) (fun _ _ _ _ n=>n)
  (fun b o hc e=>⟨o,k b o (fun z=>hc (by simp[z])) e⟩) (fun _ _ e=>e) (fun _ _ _ e=>e) (fun b ps e=>⟨#[],by rw[e];simp⟩) (fun m hm=>?_) (fun b u e=>?_) I.bare
 ·have e:b=it:=by simpa using hb
  subst e;exact⟨h1,hL,h2,h3⟩
 ·obtain⟨o,es,ep,ho,r⟩:=hm;exact⟨o,es,ep,k _ o (lN hL) ho,r⟩
 ·refine(I.hok b u e).stay (fun c v hc q=>k c v ?_ q) (fun _ q=>q) fun _ _ q=>q;rcases hc with z|z
  ·rw[z];exact nit b u e
  ·exact nit c _ z
theorem Inv.tok(I:Inv X pins σ H s)(t:Nat):Inv X pins σ H {s with toks:=t}:=I.un (h':=s.heap) (t':=t) Un.refl I.hok
theorem Inv.kept{t':Nat}(I:Inv X pins σ H s)(k: ∀b u,s.heap.get? b=some u->h'.get? b=some u):Inv X pins σ H {s with heap:=h',toks:=t'}:=I.un (Un.kept k) (I.hok.kept k)
theorem Inv.laid{a:fZ}{o:HO}{t':Nat}(I:Inv X pins σ H s)(k: ∀b u,s.heap.get? b=some u->h'.get? b=some u)(hp:s.heap.objs.size<=a)(new:ObjOk X.prog X.w (upd H a o) h' a o):
  Inv X pins σ (upd H a o) {s with heap:=h',toks:=t'}:=I.un (Un.laid k hp (I.hok.fresh hp)) (I.hok.laid k hp new)
theorem Inv.write{x e:fZ}{o:HO}{t':Nat}(I:Inv X pins σ H s)(mu:Mut (H x))(he:e=x\/H e=some (.own x))(k: ∀b u,b≠e->s.heap.get? b=some u->h'.get? b=some u)(cK: ∃u,h'.get? e=some u)
  (new:ObjOk X.prog X.w (upd H x o) h' x o):Inv X pins σ (upd H x o) {s with heap:=h',toks:=t'}:=I.un (Un.write mu he k cK) (I.hok.write mu he k cK new)
theorem Inv.pins_of{pins':gO}(I:Inv X pins σ H s)(h: ∀p∈pins',s.heap.get? p.1=some p.2/\H p.1=none/\p.1≠X.env.locals/\p.1∉X.fs/\ ∀v,p.2.data≠ .cell v):Inv X pins' σ H s:=
 ⟨I.ok,I.os,I.bare,I.base,I.loc,I.cell,I.free,I.freeC,fun p hp=>(nG.mp hp).elim (fun z=>I.pin p (Gd _ z)) (h p),I.hok,I.len⟩
theorem vG{N:gG}(hN:N.Nodup){i j:Nat}{x:Str}(a:N[i]?=some x)(b:N[j]?=some x):i=j:=by
 obtain⟨h1,e1⟩:=rk.mp a;obtain⟨h2,e2⟩:=rk.mp b;exact(List.getElem_inj hN).mp (e1.trans e2.symm)
theorem Es{M:Model}{A:gB}{E:gU}{i:Nat}{x:Str}{v:V}{u:gp}{Q:Unit->Shared->Prop}(I:Inv X pins σ H s)(hN:X.N.Nodup)(hi:X.N[i]?=some x)(hx:Loc X.env.scope x)(r:RelV v u)
  (h: ∀s',Inv X pins (σ.set i (some v)) H s'->(∃a,Heap.SameBut a s.heap s'.heap/\(a=X.env.locals\/X.env.cells.lookup x=some a))->Q () s')(hf:X.fn x=true\/X.env.scope.names.lookup x=some .local:=by first|exact .inl rfl|exact .inr rfl|assumption):wpAny M A (storeName X.env x u) Q E s:=by
 obtain⟨m,hn,hl⟩:=id I.loc;have bz:(X.env.scope.kind== .class||(X.env.scope.kind== .module&&X.env.locals !=X.env.globals))=false:=by rw[I.ok.kind];rfl
 have dS:i<σ.length:=by rw[I.len];exact(rk.mp hi).1
 have cne:=I.cne
 have tracked: ∀{a:fZ} {h':gz},(∃o,s.heap.get? a=some o/\H a=none)->Heap.SameBut a s.heap h'->HOk X.prog X.w H h':=fun {a h'} ha hs b ob e=>by
  obtain⟨_,_,l7⟩:=ha;refine(I.hok b ob e).stay (fun c w' hc q=>(hs.2 c ?_).trans q) (fun _ q=>q) fun _ _ q=>q;rintro rfl;rcases hc with rfl|hc
  ·rw[l7] at e;cases e
  ·rw[l7] at hc;cases hc
 rcases hx with hk|hk
 ·refine Gb hk hn (fun h' cf hs=>?_) bz;obtain⟨oL,_,_,dP,_⟩:=id hn;refine h _ ⟨I.ok,I.os,I.bare,⟨fun b o e n hb hx=>?_,fun b o e n hb hx=>?_,I.base.free,fun b o e hx=>?_,I.base.tups,I.base.frzs,I.base.tbls⟩,⟨_,cf,fun j y v' e1 e2 e3=>?_⟩,fun y c e=>?_,I.free,I.freeC,fun p hp=>?_,tracked ⟨oL,dP,I.free⟩ hs,by simpa using I.len⟩ ⟨_,hs,.inl rfl⟩
  ·exact(hs.2 b (iF (lF (iC e) I.ok.above))).trans (I.base.keep b o e n hb hx)
  ·obtain⟨sl,e1⟩:=I.base.slot b o e n hb hx;exact⟨sl,(hs.2 b (iF (lF (iC e) I.ok.above))).trans e1⟩
  ·obtain⟨o',e1⟩:=I.base.there b o e hx;exact⟨o',(hs.2 b (iF (lF (iC e) I.ok.above))).trans e1⟩
  ·by_cases hj:j=i
   ·subst hj;rw[hi] at e1;cases e1;rw[kY dS] at e2;cases e2;exact⟨u,r,.inl ⟨hk,by simp⟩⟩
   ·rw[md (lN hj)] at e2;obtain⟨u',r',q⟩:=hl j y v' e1 e2 e3;refine⟨u',r',?_⟩;rcases q with⟨k,e⟩|⟨k,c,e,z⟩
    ·refine .inl ⟨k,?_⟩;have:y≠x:=fun e=>hj (vG hN e1 (e▸hi));simp[this,e]
    ·exact .inr ⟨k,c,e,z.sameBut hs (cne y c e)⟩
  ·obtain⟨w',z⟩:=I.cell y c e;exact⟨w',z.sameBut hs (cne y c e)⟩
  ·obtain⟨e,n,ne,nf,d⟩:=I.pin p hp;exact⟨(hs.2 p.1 ne).trans e,n,ne,nf,d⟩
 ·have cw:X.fn x=true:=by
   rcases hf with z|z
   ·exact z
   ·rw[z] at hk;cases hk
  obtain⟨c,hc⟩:=I.ok.has x (.inl hk);obtain⟨w',z⟩:=I.cell x c hc;refine wpAny_storeName_cell I.ok.kind hk hc z (fun h' bL hs=>?_);obtain⟨oc,cZ,hocd⟩:=id z;refine h {s with heap:=h'} ⟨I.ok,I.os,I.bare,⟨fun b o e n hb hx=>?_,fun b o e n hb hx=>?_,I.base.free,fun b o e hx=>?_,I.base.tups,I.base.frzs,I.base.tbls⟩,⟨m,hn.sameBut hs (lN (cne x c hc)),fun j y v' e1 e2 e3=>?_⟩,fun y c' e=>?_,I.free,I.freeC,fun p hp=>?_,tracked ⟨oc,cZ,I.freeC x c hc⟩ hs,by simpa using I.len⟩ ⟨c,hs,.inr hc⟩
  ·exact(hs.2 b (iF (lF (iC e) (I.ok.cab x c cw hc)))).trans (I.base.keep b o e n hb hx)
  ·obtain⟨sl,e1⟩:=I.base.slot b o e n hb hx;exact⟨sl,(hs.2 b (iF (lF (iC e) (I.ok.cab x c cw hc)))).trans e1⟩
  ·obtain⟨o',e1⟩:=I.base.there b o e hx;exact⟨o',(hs.2 b (iF (lF (iC e) (I.ok.cab x c cw hc)))).trans e1⟩
  ·by_cases hj:j=i
   ·subst hj;rw[hi] at e1;cases e1;rw[kY dS] at e2;cases e2;exact⟨u,r,.inr ⟨.inl hk,c,hc,bL⟩⟩
   ·rw[md (lN hj)] at e2;obtain⟨u',r',q⟩:=hl j y v' e1 e2 e3;refine⟨u',r',?_⟩;rcases q with q|⟨k,c',e,z'⟩
    ·exact .inl q
    ·refine .inr ⟨k,c',e,z'.sameBut hs ?_⟩;rintro rfl;exact hj (vG hN e1 (I.ok.inj _ _ _ e hc▸hi))
  ·by_cases dY:c'=c
   ·subst dY;exact⟨_,bL⟩
   ·obtain⟨w2,z2⟩:=I.cell y c' e;exact⟨w2,z2.sameBut hs dY⟩
  ·obtain⟨e,n,ne,nf,d⟩:=I.pin p hp;refine⟨(hs.2 p.1 ?_).trans e,n,ne,nf,d⟩;intro q;rw[q,cZ] at e;have q':oc=p.2:=iw e;exact d w' (by rw[<-q'];exact hocd)
theorem oz{M:Model}{A:gB}{E:gU}{i:Nat}{x:Str}{v:V}{u:gp}{Q:Unit->Shared->Prop}(I:Inv X pins σ H s)(hN:X.N.Nodup)(hi:X.N[i]?=some x)(hx:Loc X.env.scope x)(r:RelV v u)
  (h: ∀s',Inv X pins (σ.set i (some v)) H s'->Q () s')(hf:X.fn x=true\/X.env.scope.names.lookup x=some .local:=by first|exact .inl rfl|exact .inr rfl|assumption):wpAny M A (storeName X.env x u) Q E s:=
 Es I hN hi hx r (fun s' I' _=>h s' I') hf
theorem Inv.call'{s':gi}{ch:iW}(I:Inv X pins σ H s)(ho:s'.os=s.os)(u:Un (frs X.stack) ch H H' s.heap s'.heap)(hok:HOk X.prog X.w H' s'.heap)(hg:AllBare s'.gens)
  (aX: ∀b∈ch,(b∈X.ex\/X.s₀.heap.objs.size<=b)/\b≠X.env.locals/\(∀x c,X.env.cells.lookup x=some c->c≠b)/\ ∀p∈X.pn++pins,p.1≠b):Inv X pins σ H' s':=by
 obtain⟨h',g',d',t',o'⟩:=s';have e:o'=s.os:=ho;subst e;exact I.call (g':=g') (t':=t') (d':=d') u hok hg aX
end
abbrev XK:=Value->Option Addr->Hp->Prop
abbrev St:=List (Option V)
abbrev VK:=V->Hp->Prop
abbrev TE:=St->Hp->VK->Prop
abbrev TT:=St->Hp->(Bool->Hp->Prop)->Prop
abbrev TA:=St->Hp->(List V->Hp->Prop)->Prop
structure Ends where
 nx:St->Hp->Prop
 rt:VK
 bk:St->Hp->Prop:=fun _ _=>False
 ct:St->Hp->Prop:=fun _ _=>False
abbrev TS:=Ends->St->Hp->Prop
def EP(X:Cx)(pins:gO)(σ:St)(Q:VK)(u:gp)(s':gi):Prop:= ∃v H',Inv X pins σ H' s'/\RelV v u/\Q v H'
def TP(X:Cx)(pins:gO)(σ:St)(Q:Bool->Hp->Prop)(b:Bool)(s':gi):Prop:= ∃H',Inv X pins σ H' s'/\Q b H'
def AP(X:Cx)(pins:gO)(σ:St)(Q:List V->Hp->Prop)(us:hJ)(s':gi):Prop:= ∃vs H',Inv X pins σ H' s'/\Vals vs us/\Q vs H'
def SP(X:Cx)(pins:gO)(D:Ends)(f:Flow)(s':gi):Prop:=
 match f with
 | .next=> ∃σ' H',Inv X pins σ' H' s'/\D.nx σ' H'
 | .brk=> ∃σ' H',Inv X pins σ' H' s'/\D.bk σ' H'
 | .cont=> ∃σ' H',Inv X pins σ' H' s'/\D.ct σ' H'
 | .ret u=> ∃v σ' H',Inv X pins σ' H' s'/\RelV v u/\D.rt v H'
def PE(X:Cx)(e:gm)(t:TE):Prop:=
 ∀(pins:gO) (s:gi) (σ:St) (H:Hp) (Q:VK),Inv X pins σ H s->t σ H Q->wpAny (model X.prog X.w) X.A (eval e X.env) (EP X pins σ Q) X.xe s
def PT(X:Cx)(e:gm)(t:TT):Prop:=
 ∀(pins:gO) (s:gi) (σ:St) (H:Hp) (Q:Bool->Hp->Prop),Inv X pins σ H s->t σ H Q->wpAny (model X.prog X.w) X.A (isTrue e X.env (eval e X.env)) (TP X pins σ Q) X.xe s
def PW(X:Cx)(e:gm)(t:TT):Prop:=
 ∀(whole:Sem Value) (pins:gO) (s:gi) (σ:St) (H:Hp) (Q:Bool->Hp->Prop),Inv X pins σ H s->t σ H Q->wpAny (model X.prog X.w) X.A (isTrue e X.env whole) (TP X pins σ Q) X.xe s
theorem PW.pt{X:Cx}{e:gm}{t:TT}(h:PW X e t):PT X e t:=h _
def PA(X:Cx)(es:iL)(t:TA):Prop:=
 ∀(pos:Pos) (pins:gO) (s:gi) (σ:St) (H:Hp) (Q:List V->Hp->Prop),Inv X pins σ H s->t σ H Q->wpAny (model X.prog X.w) X.A (spliced (backTo pos (starEach es X.env))) (AP X pins σ Q) X.xe s
def PS(X:Cx)(st:Stmt)(t:TS):Prop:=
 ∀(pins:gO) (s:gi) (σ:St) (H:Hp) (D:Ends),Inv X pins σ H s->t D σ H->wpAny (model X.prog X.w) X.A (exec st X.env) (SP X pins D) X.xe s
def PSs(X:Cx)(st:List Stmt)(t:TS):Prop:=
 ∀(pins:gO) (s:gi) (σ:St) (H:Hp) (D:Ends),Inv X pins σ H s->t D σ H->wpAny (model X.prog X.w) X.A (execs st X.env) (SP X pins D) X.xe s
theorem thn{α:Type}{t:Sem α}{Q Q':α->Shared->Prop}{M:Model}{A:gB}{E:gU}{s:gi}(h:wpAny M A t Q E s)(hQ: ∀a s,Q a s->Q' a s):wpAny M A t Q' E s:=lM h hQ fun _ _ x=>x
section
variable {X:Cx}
def Pe(i:Nat):TE:=fun σ H Q=> ∃v,σ[i]?=some (some v)/\Q v H
noncomputable def tC(v:V):TE:=fun _ H Q=>Q v H
theorem vz{i:Nat}{x:Str}{pos:Pos}(hN:X.N[i]?=some x)(hv:Vis X.env.scope x)(hd:(x==("__debug__":Str))=false:=by decide)(l5:(x==("__classdict__":Str))=false:=by decide):PE X (.Name x pos) (Pe i):=by
 intro pins s σ H Q I h;obtain⟨v,e,h⟩:=h;obtain⟨m,hn,hl⟩:=I.loc;obtain⟨u,r,l⟩:=hl i x v hN e hv;have fin:EP X pins σ Q u s:=⟨v,H,I,r,h⟩
 rcases l with⟨hk,hm⟩|⟨hk,c,hc,i8⟩
 ·exact wpAny_Name (wpAny_loadName_local I.ok.kind hk hn hm fin) hd
 ·rcases hk with hk|hk
  ·exact wpAny_Name (wpAny_loadName_cell I.ok.kind hk hc i8 fin) hd
  ·exact wpAny_Name (wpAny_loadName_free I.ok.kind hk hc i8 fin l5) hd
theorem My{i j pos}:PE X (.Constant (.int i) j pos) (tC (.int i)):=fun _ _ _ H _ I h=>wpAny_Constant_int ⟨.int i,H,I.tok _,⟨_,rfl⟩,h⟩
theorem Ob{b j pos}:PE X (.Constant (.bool b) j pos) (tC (.bl b)):=fun _ _ _ H _ I h=>Constant_bool ⟨.bl b,H,I,rfl,h⟩
theorem Mw{j pos}:PE X (.Constant .none j pos) (tC .non):=fun _ _ _ H _ I h=>Constant_none ⟨.non,H,I,rfl,h⟩
theorem Mu{x j pos}:PE X (.Constant (.str x) j pos) (tC (.str x)):=fun _ _ _ H _ I h=>Calls.Constant_str ⟨.str x,H,I.tok _,⟨_,rfl⟩,h⟩
def Gl(X:Cx)(x:Str):Prop:=X.env.kindOf x=some .globalImplicit
theorem pB{E:gU}{pins:gO}{s:gi}{σ:St}{H:Hp}{x:Str}{u:gp}{pos:Pos}{Q:gU}(I:Inv X pins σ H s)(hg:Gl X x)(hm:X.mg x=some u)(h:Q u s)
  (hd:(x==("__debug__":Str))=false:=by decide):wpAny (model X.prog X.w) X.A (eval (.Name x pos) X.env) Q E s:=
 Ga I.ok.kind hg (Calls.loadGlobal_global (by rw[I.ok.glob];exact I.mod.glob.keeps I.bk) hm h) hd
theorem oH{E:gU}{pins:gO}{s:gi}{σ:St}{H:Hp}{x:Str}{u:gp}{pos:Pos}{Q:gU}(I:Inv X pins σ H s)(hg:Gl X x)(hm:X.mg x=none)(hv:bootBuiltins x=some u)(h:Q u s)
  (hn:x≠"__name__":=by decide)(hd:(x==("__debug__":Str))=false:=by decide):wpAny (model X.prog X.w) X.A (eval (.Name x pos) X.env) Q E s:=by
 obtain⟨mb,h1,h2⟩:=I.mod.blt;exact Ga I.ok.kind hg (Calls.loadGlobal_builtin (by rw[I.ok.glob];exact I.mod.glob.keeps I.bk) hm (by rw[I.ok.blt];exact h1.keeps I.bk) ((h2 x hn).trans hv) h) hd
theorem DF{x:Str}{v:V}{u:gp}{pos:Pos}(hg:Gl X x)(hm:X.mg x=some u)(r:RelV v u)(hd:(x==("__debug__":Str))=false:=by decide):PE X (.Name x pos) (tC v):=
 fun _ _ _ H _ I h=>pB I hg hm ⟨v,H,I,r,h⟩ hd
theorem ug{x:Str}{v:V}{u:gp}{pos:Pos}(hg:Gl X x)(hm:X.mg x=none)(hv:bootBuiltins x=some u)(r:RelV v u)(hn:x≠"__name__":=by decide)(hd:(x==("__debug__":Str))=false:=by decide):PE X (.Name x pos) (tC v):=
 fun _ _ _ H _ I h=>oH I hg hm hv ⟨v,H,I,r,h⟩ hn hd
def t2I(ta tb:TE)(k:Int->Int->Hp->Prop):St->Hp->Prop:=fun σ H=>ta σ H fun x H1=>tb σ H1 fun y H2=> ∃i j,x= .int i/\y= .int j/\k i j H2
variable {a b:gm}{ta tb:TE}{pos:Pos}
noncomputable def tCmp(p:Int->Int->Bool)(ta tb:TE):TE:=fun σ H Q=>t2I ta tb (fun i j H2=>Q (.bl (p i j)) H2) σ H
def tB(t:TE):TT:=fun σ H Q=>t σ H fun x H1=> ∃c,x= .bl c/\Q c H1
theorem Mh{e:gm}{t:TE}(h:PE X e t)(he: ∀whole,isTrue e X.env whole=(do let v <-whole;standAt e.pos;holding [v] (truthy v)):=by intro _;rfl):PT X e (tB t):=by
 intro pins s σ H Q I hw;refine isTrue_plain (thn (h pins s σ H _ I hw) fun v s1 ⟨x,H1,I1,r1,q1⟩=>?_) (he _);obtain⟨d,rfl,q⟩:=q1;cases r1;exact yH ⟨H1,I1,q⟩
variable {tA tB':TT}{hU:iL}
noncomputable def tOr(t u:TT):TT:=fun σ H Q=>t σ H fun c H1=>if c=true then Q true H1 else u σ H1 Q
noncomputable def tNot(t:TT):TT:=fun σ H Q=>t σ H fun c H1=>Q (!c) H1
theorem Mf(ha:PT X a tA):PW X (.BoolOp .Or [a] pos) tA:=by
 intro wh pins s σ H Q I h;refine isTrue_or (thn (ha pins s σ H Q I h) fun c s1 e=>?_)
 cases c with
 |false=>exact isTrue_or_nil e
 |true=>exact e
theorem N7(ha:PT X a tA)(hb:PW X (.BoolOp .Or (b::hU) pos) tB'):PW X (.BoolOp .Or (a::b::hU) pos) (tOr tA tB'):=by
 intro wh pins s σ H Q I h;refine isTrue_or (thn (ha pins s σ H _ I h) fun c s1 ⟨H1,I1,q1⟩=>?_)
 cases c with
 |true=>exact⟨H1,I1,q1⟩
 |false=>exact hb wh pins s1 σ H1 Q I1 q1
theorem Mi(ha:PT X a tA):PT X (.UnaryOp .Not a pos) (tNot tA):=by
 intro pins s σ H Q I h;exact isTrue_not (ha pins s σ H (fun c H1=>Q (!c) H1) I h)
def NP(ta tb:TE):TE:=fun σ H Q=>ta σ H fun x H1=> ∃c,x= .bl c/\if c=true then tb σ H1 Q else Q (.bl false) H1
theorem Mv{op}{t:TE}(h:PE X a t):PE X (.BoolOp op [a] pos) t:=fun pins s σ H Q I hw=>BoolOp_one (h pins s σ H Q I hw)
theorem MA(ha:PE X a ta)(hb:PE X (.BoolOp .And (b::hU) pos) tb):PE X (.BoolOp .And (a::b::hU) pos) (NP ta tb):=by
 intro pins s σ H Q I h;refine BoolOp_and (thn (ha pins s σ H _ I h) fun v s1 ⟨x,H1,I1,r1,q1⟩=>?_);obtain⟨c,rfl,q1⟩:=q1;cases r1;refine yH ?_
 cases c with
 |true=>exact hb pins s1 σ H1 Q I1 q1
 |false=>exact⟨.bl false,H1,I1,rfl,q1⟩
noncomputable def tIf(t:TT)(ta tb:TE):TE:=fun σ H Q=>t σ H fun c H1=>if c=true then ta σ H1 Q else tb σ H1 Q
theorem Hw{c:gm}(hc:PT X c tA)(ha:PE X a ta)(hb:PE X b tb):PE X (.IfExp c a b pos) (tIf tA ta tb):=by
 intro pins s σ H Q I h;refine wpAny_IfExp (thn (hc pins s σ H _ I h) fun d s1 ⟨H1,I1,q1⟩=>?_)
 cases d with
 |true=>exact ha pins s1 σ H1 Q I1 q1
 |false=>exact hb pins s1 σ H1 Q I1 q1
end
def SqL(K:gA)(H:Hp)(a:fZ)(xs:List V):Prop:=
 Rd H a (.lst xs)\/
  ∃(o:Obj) (its:jI) (n:Nat),K.lookup a=some o/\o.cls= .type "list"/\o.dict=none/\o.data= .seq its n/\its.size<=sizeLine/\Vals xs its.toList
def SqT(K:gA)(H:Hp)(a:fZ)(xs:List V):Prop:=
 Rd H a (.tup xs)\/
  ∃(o:Obj) (its:jI) (n:Nat),K.lookup a=some o/\o.cls= .type "tuple"/\o.data= .seq its n/\its.size<=sizeLine/\Vals xs its.toList
noncomputable def QH:Value->Option V
 | .none=>some .non
 | .bool b=>some (.bl b)
 | .int i _=>some (.int i)
 | .str x _=>some (.str x)
 | .bytes b _=>some (.byt b)
 | .float b _=>some (.flt b)
 | .ref a=>some (.ref a)
 | .type n=>some (.ty n)
 |_=>none
theorem RelV.abs{x:V}{u:gp}(r:RelV x u):QH u=some x:=by
 cases x with
 |non=>cases r;rfl
 |bl _=>cases r;rfl
 |int _=>obtain⟨t,rfl⟩:=r;rfl
 |str _=>obtain⟨t,rfl⟩:=r;rfl
 |byt _=>obtain⟨t,rfl⟩:=r;rfl
 |flt _=>obtain⟨t,rfl⟩:=r;rfl
 |ref _=>cases r;rfl
 |ty _=>cases r;rfl
theorem RelV.inj{x y:V}{u:gp}(r:RelV x u)(q:RelV y u):x=y:=iw (r.abs.symm.trans q.abs)
theorem Vals.inj: ∀{xs ys:List V} {us:hJ},Vals xs us->Vals ys us->xs=ys
 |_,_,_,.nil,.nil=>rfl
 |_,_,_,.cons r t,.cons r' t'=>by rw[r.inj r',Vals.inj t t']
section
variable {X:Cx}{pins:gO}{σ:St}{H:Hp}{s:gi}{a:fZ}{xs ys:List V}
theorem SqL.of{K:gA}(h:H a=some (.lst xs)):SqL K H a xs:= .inl (.inl h)
theorem Inv.list(I:Inv X pins σ H s)(h:SqL X.K H a xs): ∃its:List Value,Vals xs its/\PlainL s.heap a its.toArray/\xs.length<=sizeLine:=by
 rcases h with h|⟨o,its,n,hk,hc,hd,hs,hz,r⟩
 ·obtain⟨z,its,n,r,e⟩:=h.ok I.hok;exact⟨its,r,⟨_,n,e,rfl,rfl,rfl⟩,z⟩
 ·refine⟨its.toList,r,⟨o,n,I.kIn a o hk,hc,hd,by simpa using hs⟩,?_⟩;have e:=r.length;simp only[ma] at e;omega
theorem Inv.tuple(I:Inv X pins σ H s)(h:SqT X.K H a xs): ∃its:List Value,Vals xs its/\IsTup s.heap a its.toArray/\xs.length<=sizeLine:=by
 rcases h with h|⟨o,its,n,hk,hc,hs,hz,r⟩
 ·obtain⟨z,its,r,p⟩:=h.ok I.hok;exact⟨its,r,p,z⟩
 ·refine⟨its.toList,r,⟨o,I.kIn a o hk,hc,n,by simpa using hs⟩,?_⟩;have e:=r.length;simp only[ma] at e;omega
theorem Inv.list_inj(I:Inv X pins σ H s)(h:SqL X.K H a xs)(h':SqL X.K H a ys):xs=ys:=by
 obtain⟨its,r,⟨o,n,e,_,_,d⟩,_⟩:=I.list h;obtain⟨its',r',⟨o',n',e',_,_,d'⟩,_⟩:=I.list h';rw[e] at e';cases e';rw[d] at d';injection d' with d1 _
 have:its=its':=by simpa using pO Array.toList d1
 subst this;exact r.inj r'
theorem Inv.tuple_inj(I:Inv X pins σ H s)(h:SqT X.K H a xs)(h':SqT X.K H a ys):xs=ys:=by
 obtain⟨its,r,⟨o,e,_,n,d⟩,_⟩:=I.tuple h;obtain⟨its',r',⟨o',e',_,n',d'⟩,_⟩:=I.tuple h';rw[e] at e';cases e';rw[d] at d';injection d' with d1 _
 have:its=its':=by simpa using pO Array.toList d1
 subst this;exact r.inj r'
end
abbrev Cx.wish(X:Cx)(E:gU):Cx:={X with xe:=E}
abbrev Cx.nox(X:Cx):Cx:=X.wish fun _ _=>False
theorem Cx.Ok.wish{X:Cx}(ok:X.Ok)(E:gU):(X.wish E).Ok:=
 ⟨ok.mod,ok.kind,ok.glob,ok.blt,ok.above,ok.inj,ok.has,ok.cab,ok.hd,ok.frames,ok.stk,ok.exf,ok.bs,ok.bsz,ok.noex,ok.exfs,ok.funs,ok.frf⟩
theorem Cx.Ok.unwish{X:Cx}{E:gU}(ok:(X.wish E).Ok):X.Ok:=
 ⟨ok.mod,ok.kind,ok.glob,ok.blt,ok.above,ok.inj,ok.has,ok.cab,ok.hd,ok.frames,ok.stk,ok.exf,ok.bs,ok.bsz,ok.noex,ok.exfs,ok.funs,ok.frf⟩
section
variable {X:Cx}{pins:gO}{σ:St}{H:Hp}{s:gi}{E:gU}
theorem Inv.wish(I:Inv X pins σ H s)(E:gU):Inv (X.wish E) pins σ H s:=⟨I.ok.wish E,I.os,I.bare,I.base,I.loc,I.cell,I.free,I.freeC,I.pin,I.hok,I.len⟩
theorem Inv.unwish(I:Inv (X.wish E) pins σ H s):Inv X pins σ H s:=⟨I.ok.unwish,I.os,I.bare,I.base,I.loc,I.cell,I.free,I.freeC,I.pin,I.hok,I.len⟩
theorem SP.unwish{D:Ends}{f:Flow}{s':gi}(h:SP (X.wish E) pins D f s'):SP X pins D f s':=by
 cases f with
 |next=>obtain⟨σ',H',I,q⟩:=h;exact⟨σ',H',I.unwish,q⟩
 |brk=>obtain⟨σ',H',I,q⟩:=h;exact⟨σ',H',I.unwish,q⟩
 |cont=>obtain⟨σ',H',I,q⟩:=h;exact⟨σ',H',I.unwish,q⟩
 |ret u=>obtain⟨v,σ',H',I,r,q⟩:=h;exact⟨v,σ',H',I.unwish,r,q⟩
theorem PSs.nox{st:List Stmt}{t:TS}(h:PSs X.nox st t):PSs X st t:=fun pins s σ H D I hw=>
 lM (h pins s σ H D (I.wish _) hw) (fun _ _ q=>q.unwish) fun _ _ z=>False.elim z
end
section
variable {X:Cx}{st:Stmt}{hU:List Stmt}{t u:TS}{e:gm}{te:TE}{pos:Pos}
noncomputable def NK:TS:=fun D σ H=>D.nx σ H
noncomputable def Pg(t u:TS):TS:=fun D σ H=>t {D with nx:=u D} σ H
theorem DD:PSs X [] NK:=fun _ _ σ H _ I h=>uS ⟨σ,H,I,h⟩
theorem nj(h1:PS X st t)(h2:PSs X hU u):PSs X (st::hU) (Pg t u):=by
 intro pins s σ H D I h;refine wpAny_execs_cons (thn (h1 pins s σ H {D with nx:=u D} I h) fun f s1 q=>?_)
 cases f with
 |next=>
  obtain⟨σ',H',I',q⟩:=q;exact h2 pins s1 σ' H' D I' q
 |ret v=>exact q
 |brk=>exact q
 |cont=>exact q
theorem Inv.quiet{pins:gO}{σ:St}{H:Hp}{s:gi}(I:Inv X pins σ H s):interactive X.env=false:=by simp[interactive,I.ok.kind]
noncomputable def NM(te:TE):TS:=fun D σ H=>te σ H fun _ H1=>D.nx σ H1
theorem JP(he:PE X e te)(hs:swapsWith e none pos.line X.env=pure false:=by rfl):PS X (.Expr e pos) (NM te):=by
 intro pins s σ H D I h;exact wpAny_Expr_any (thn (he pins s σ H _ I h) fun v s1 ⟨x,H1,I1,r1,q1⟩=>⟨σ,H1,I1,q1⟩) I.quiet hs
noncomputable def Ph(te:TE):TS:=fun D σ H=>te σ H D.rt
theorem He(he:PE X e te):PS X (.Return (some e) pos) (Ph te):=by
 intro pins s σ H D I h;exact wpAny_Return_some (thn (he pins s σ H _ I h) fun v s1 ⟨x,H1,I1,r1,q1⟩=>⟨x,σ,H1,I1,r1,q1⟩)
noncomputable def Pm(c:TT)(t u:TS):TS:=fun D σ H=>c σ H fun b H1=>if b=true then t D σ H1 else u D σ H1
theorem KY{c:gm}{a b:List Stmt}{tc:TT}(hc:PT X c tc)(ha:PSs X a t)(hb:PSs X b u):PS X (.If c a b pos) (Pm tc t u):=by
 intro pins s σ H D I h;refine wpAny_If (thn (hc pins s σ H _ I h) fun d s1 ⟨H1,I1,q1⟩=>?_)
 cases d with
 |true=>exact ha pins s1 σ H1 D I1 q1
 |false=>exact hb pins s1 σ H1 D I1 q1
end
abbrev TG:=V->St->Hp->(St->Hp->Prop)->Prop
abbrev TGs:=List V->St->Hp->(St->Hp->Prop)->Prop
def PG(X:Cx)(target:gm)(t:TG):Prop:=
 ∀(pins:gO) (s:gi) (σ:St) (H:Hp) (v:V) (u:gp) (Q:St->Hp->Prop),Inv X pins σ H s->RelV v u->t v σ H Q->
  wpAny (model X.prog X.w) X.A (assign target X.env u) (fun _ s'=> ∃σ' H',Inv X pins σ' H' s'/\Q σ' H') X.xe s
def PGs(X:Cx)(ts:iL)(t:TGs):Prop:=
 ∀(pins:gO) (s:gi) (σ:St) (H:Hp) (vs:List V) (us:hJ) (Q:St->Hp->Prop),Inv X pins σ H s->Vals vs us->t vs σ H Q->
  wpAny (model X.prog X.w) X.A (assignInOrder ((assignEach ts X.env).map (·.2)) us) (fun _ s'=> ∃σ' H',Inv X pins σ' H' s'/\Q σ' H') X.xe s
abbrev KD:=V->V->V->Hp->(Hp->Prop)->Prop
def Nt(X:Cx)(t:KD):Prop:=
 ∀(pins:gO) (s:gi) (σ:St) (H:Hp) (o i v:V) (ov iv u:gp) (Q:Hp->Prop),Inv X pins σ H s->RelV o ov->RelV i iv->RelV v u->t o i v H Q->
  wpAny (model X.prog X.w) X.A (setItem ov iv u) (fun _ s'=> ∃H',Inv X pins σ H' s'/\Q H') X.xe s
section
variable {X:Cx}{pos:Pos}
noncomputable def AN(i:Nat):TG:=fun v σ H Q=>Q (σ.set i (some v)) H
theorem DE{i:Nat}{x:Str}(hN:X.N.Nodup)(hi:X.N[i]?=some x)(hx:Loc X.env.scope x)(hf:X.fn x=true\/X.env.scope.names.lookup x=some .local:=by first|exact .inl rfl|exact .inr rfl|assumption):PG X (.Name x pos) (AN i):=by
 intro pins s σ H v u Q I r h;exact wpAny_assign_Name (oz I hN hi hx r (fun s' I'=>⟨_,H,I',h⟩) hf)
noncomputable def Qy:TGs:=fun vs σ H Q=>vs=[]/\Q σ H
def Oo(t:TG)(u:TGs):TGs:=fun vs σ H Q=> ∃v r,vs=v::r/\t v σ H fun σ' H'=>u r σ' H' Q
theorem JX:PGs X [] Qy:=by
 intro pins s σ H vs us Q I r h;obtain⟨e,h⟩:=h;subst e;cases r;exact assignInOrder_nil ⟨σ,H,I,h⟩
theorem Hq{e:gm}{es:iL}{t:TG}{u:TGs}(h1:PG X e t)(h2:PGs X es u)
  (hs:(assignEach (e::es) X.env).map (·.2)=assign e X.env::(assignEach es X.env).map (·.2):=by rfl):PGs X (e::es) (Oo t u):=by
 intro pins s σ H vs us Q I r h;obtain⟨v,vr,e1,h⟩:=h;subst e1
 cases r with
 |cons r rr=>
  rw[hs];refine BX (thn (h1 pins s σ H _ _ _ I r h) fun _ s1 ⟨σ1,H1,I1,q1⟩=>?_);exact h2 pins s1 σ1 H1 _ _ Q I1 rr q1
def Qx(K:gA)(n:Nat)(t:TGs):TG:=fun v σ H Q=> ∃a xs,v= .ref a/\SqT K H a xs/\xs.length=n/\t xs σ H Q
theorem Ms{es:iL}{k:Nat}{t:TGs}{n:Nat}(hc:X.calm=true)(h:PGs X es t)
  (hn:(assignEach es X.env).length=n:=by rfl)(r8:(assignEach es X.env).findIdx? (·.1)=none:=by rfl):PG X (.Tuple es k pos) (Qx X.K n t):=by
 intro pins s σ H v u Q I r hw;obtain⟨a,xs,e1,hq,hl,hw⟩:=hw;subst e1;cases r;obtain⟨its,rv,ht,hz⟩:=I.tuple hq;refine assign_Tuple_tuple (I.ok.hd hc) ht (by simp[hn,<-hl,rv.length]) r8 fun h' hx=>?_;have I1:Inv X pins σ H {s with heap:=h'}:=I.kept (t':=s.toks) fun b o e=>hx b o (iF (iC e)) e;exact h pins _ σ H xs _ Q I1 (by simpa using rv) hw
noncomputable def gSub(to ti:TE)(t:KD):TG:=fun v σ H Q=>to σ H fun o H1=>ti σ H1 fun i H2=>t o i v H2 fun H3=>Q σ H3
theorem Hr{o i:gm}{to ti:TE}{t:KD}(ho:PE X o to)(hi:PE X i ti)(hs:Nt X t)
  (ha: ∀v,assign (.Subscript o i pos) X.env v=(do
   let ov <-holding [v] (eval o X.env)
   let iv <-holding [v,ov] (eval i X.env)
   standAt pos
   holding [v,ov,iv] (setItem ov iv v)
   release [v,ov,iv] []):=by intro _;rfl):PG X (.Subscript o i pos) (gSub to ti t):=by
 intro pins s σ H v u Q I r h;rw[ha];refine gk (mX (thn (ho pins s σ H _ I h) fun ov s1 ⟨x,H1,I1,r1,q1⟩=>?_));refine gk (mX (thn (hi pins s1 σ H1 _ I1 q1) fun iv s2 ⟨y,H2,I2,r2,q2⟩=>?_));refine gk (uR (gk (mX (thn (hs pins s2 σ H2 x y v ov iv u _ I2 r1 r2 r q2) fun _ s3 ⟨H3,I3,q3⟩=>?_))));exact wpAny_release ⟨σ,H3,I3,q3⟩
noncomputable def Ls(te:TE)(g:TG):TS:=fun D σ H=>te σ H fun x H1=>g x σ H1 D.nx
theorem Hh{tg e:gm}{te:TE}{g:TG}(he:PE X e te)(hg:PG X tg g)(hs:swapsWithSole [tg] e pos.line X.env=pure false:=by rfl)(hw:swappedStores [tg] e X.env=pure none:=by rfl)
  (h1:(assignEach [tg] X.env).map (·.2)=[assign tg X.env]:=by rfl):PS X (.Assign [tg] e pos) (Ls te g):=by
 intro pins s σ H D I h;refine wpAny_Assign_stores (thn (he pins s σ H _ I h) fun v s1 ⟨x,H1,I1,r1,q1⟩=>?_) hs hw;rw[h1];exact thn (hg pins s1 σ H1 x v _ I1 r1 q1) fun _ s2 q=>q
theorem Hd{i:Nat}{x:Str}{e:gm}{te:TE}{pos':Pos}(hN:X.N.Nodup)(hi:X.N[i]?=some x)(hx:Loc X.env.scope x)(he:PE X e te)(hs:swapsWith e (some (.Name x pos')) pos.line X.env=pure false:=by rfl)(hf:X.fn x=true\/X.env.scope.names.lookup x=some .local:=by first|exact .inl rfl|exact .inr rfl|assumption):
  PS X (.Assign [.Name x pos'] e pos) (Ls te (AN i)):=by
 intro pins s σ H D I h;refine wpAny_Assign_Name (thn (he pins s σ H _ I h) fun v s1 ⟨y,H1,I1,r1,q1⟩=>?_) hs;exact oz I1 hN hi hx r1 (fun s2 I2=>⟨_,H1,I2,q1⟩) hf
def Pj(i j:Nat)(ta:TA):TS:=fun D σ H=>ta σ H fun vs H1=> ∃v w,vs=[v,w]/\D.nx ((σ.set i (some v)).set j (some w)) H1
theorem Mm{i j:Nat}{x y:Str}{a b:gm}{ta:TA}{px py pt:Pos}{kt k2 av}(hc:X.calm=true)(hN:X.N.Nodup)(hi:X.N[i]?=some x)(hj:X.N[j]?=some y)(k6:i≠j)
  (hx:X.env.scope.names.lookup x=some .local)(hy:X.env.scope.names.lookup y=some .local)(ha:PA X [a,b] ta)
  (hw:swappedStores [.Tuple [.Name x px,.Name y py] kt pt] (.Tuple [a,b] k2 av) X.env=pure (some [x,y]))
  (hs:swapsWithSole [.Tuple [.Name x px,.Name y py] kt pt] (.Tuple [a,b] k2 av) pos.line X.env=pure false:=by rfl):
  PS X (.Assign [.Tuple [.Name x px,.Name y py] kt pt] (.Tuple [a,b] k2 av) pos) (Pj i j ta):=by
 intro pins s σ H D I h;rw[exec_Assign_arm];refine gk (uR ?_);rw[hs];refine gk (gF ?_);rw[gv (by decide)];refine gk (Tuple_ (thn (ha _ pins s σ H _ I h) fun us s1 ⟨vs,H1,I1,r1,q1⟩=>?_));obtain⟨v,w,e1,q1⟩:=q1;subst e1
 obtain⟨u1,u2,rfl,rv,y9⟩: ∃u1 u2,us=[u1,u2]/\RelV v u1/\RelV w u2:=by
  cases r1 with
  |cons p q=>
   cases q with
   |cons p' q'=>
    cases q';exact⟨_,_,rfl,p,p'⟩
 refine mD ?_ (by show 2<=sizeLine;decide);have I2:Inv X pins σ H1 {s1 with heap:=s1.heap.push {cls:= .type "tuple",data:= .seq [u1,u2].toArray}}:=I1.kept (t':=s1.toks) fun b o e=>iM _ e;rw[hw];refine gk (gF ?_);show wpAny (model X.prog X.w) X.A (do rule "assign.swapped-stores";let items <-unpackItems (.ref s1.heap.objs.size) 2 none;assignInOrder [fun v=>bindName X.env y v,fun v=>bindName X.env x v] items.reverse;pure Flow.next) _ _ _
 refine gk (qz (gk (unpackItems_tuple (items:= #[u1,u2]) (I.ok.hd hc) (uQ s1.heap _) fun h' eM=>?_)));have I3:=I2.kept (h':=h') (t':=s1.toks) fun b o e=>eM b o (iF (iC e)) e;show wpAny _ _ (assignInOrder [fun v=>bindName X.env y v,fun v=>bindName X.env x v] [u2,u1]>>=fun _=>pure Flow.next) _ _ _;refine gk (BX (BW (oz I3 hN hj (.inl hy) y9 (fun s2 I4=>?_) (.inr hy))));refine BX (BW (oz I4 hN hi (.inl hx) rv (fun s3 I5=>assignInOrder_nil (gF ?_)) (.inr hx)));rw[List.set_comm _ _ (lN k6)] at I5;exact⟨_,H1,I5,q1⟩
def Lq(c:TT)(tb:TS):TS:=fun D σ H=> ∃W:Nat->St->Hp->Prop,(∃m,W m σ H)/\ ∀m σ H,W m σ H->
 c σ H fun b H1=>if b=true then ∃N:St->Hp->Prop,(∀σ' H',N σ' H'-> ∃m',m'<m/\W m' σ' H')/\tb {D with nx:=N,ct:=N,bk:=D.nx} σ H1 else D.nx σ H1
theorem Hc{c:gm}{body:List Stmt}{tc:TT}{tb:TS}(hp:PassesOwn (model X.prog X.w) X.A X.env X.xe)(hc:PT X c tc)(hb:PSs X body tb):PS X (.While c body [] pos) (Lq tc tb):=by
 intro pins s σ H D I h;obtain⟨W,⟨m0,w0⟩,turn⟩:=h;refine wpAny_While (codeAny_whileLoop (fun n s'=> ∃σ' H',Inv X pins σ' H' s'/\W n σ' H') ?_ m0 ⟨σ,H,I,w0⟩);rintro n s1 ⟨σ1,H1,I1,w1⟩;refine uA hp (thn (hc pins s1 σ1 H1 _ I1 (turn n σ1 H1 w1)) fun b s2 ⟨H2,I2,q2⟩=>?_)
 cases b with
 |true=>
  obtain⟨N,hN,q2⟩:=q2;rw[gq rfl];refine uA hp (thn (hb pins s2 σ1 H2 _ I2 q2) fun f s3 q3=>?_)
  cases f with
  |next=>
   obtain⟨σ3,H3,I3,n3⟩:=q3;obtain⟨m',hm,w3⟩:=hN σ3 H3 n3;exact⟨m',hm,σ3,H3,I3,w3⟩
  |cont=>
   obtain⟨σ3,H3,I3,n3⟩:=q3;obtain⟨m',hm,w3⟩:=hN σ3 H3 n3;exact⟨m',hm,σ3,H3,I3,w3⟩
  |brk=>exact q3
  |ret v=>exact q3
 |false=>
  rw[gv iU];exact uS ⟨σ1,H2,I2,q2⟩
end
structure It where
 go:Nat->Hp->Prop
 yld:Nat->Hp->V->Hp->Prop
 stop:Nat->Hp->Prop
def oR(X:Cx)(pins:gO)(H:Hp)(b:fZ):Prop:=
 H b=none/\b≠X.env.locals/\b∉X.fs/\(b∈X.ex\/X.s₀.heap.objs.size<=b)/\(∀x c,X.env.cells.lookup x=some c->c≠b)/\ ∀p∈X.pn++pins,p.1≠b
theorem Inv.fpOk{X:Cx}{pins:gO}{σ:St}{H H':Hp}{s:gi}{b:fZ}(I:Inv X pins σ H s)(hb:s.heap.objs.size<=b)(hn:H' b=none):oR X pins H' b:=by
 refine⟨hn,mC (lF I.lt hb),I.nofs hb,.inr (mE I.sz hb),fun x c e z=>?_,fun p hp z=>?_⟩
 ·obtain⟨v,q⟩:=I.cell x c e;exact absurd (lF q.lt (by rw[z];exact hb)) (ot _)
 ·exact absurd (lF (iC (I.pin p hp).1) (by rw[z];exact hb)) (ot _)
structure Turn(P:gC)(w:gy)(K:gA)(tg:gm)(J:It)(fp:iW)(it:fZ)(tn:Nat->Heap->Prop):Prop where
 mem:it∈fp
 obj: ∀i h,tn i h-> ∀b∈fp,∃o,h.get? b=some o/\ ∀v,o.data≠ .cell v
 keep: ∀i h h',tn i h->(∀b∈fp,∀o,h.get? b=some o->h'.get? b=some o)->tn i h'
 item: ∀(X:Cx),X.prog=P->X.w=w->X.K=K->X.calm=true-> ∀(i:Nat) (pins:gO) (s:gi) (σ:St) (H:Hp) (E:gU),Inv X pins σ H s->(∀b∈fp,oR X pins H b)->tn i s.heap->J.go i H->
  wpAny (model P w) X.A (pyNext (.ref it)) (fun r s1=> ∃u,r=some u/\
   wpAny (model P w) X.A (letOwnedTupleGo tg (.ref it) u) (fun _ s2=> ∃x H',Inv X pins σ H' s2/\RelV x u/\J.yld i H x H'/\tn (i+1) s2.heap/\ ∀b∈fp,H' b=none) E s1) E s
 done: ∀(X:Cx),X.prog=P->X.w=w->X.K=K->X.calm=true-> ∀(i:Nat) (pins:gO) (s:gi) (σ:St) (H:Hp) (E:gU),Inv X pins σ H s->(∀b∈fp,oR X pins H b)->tn i s.heap->J.stop i H->
  wpAny (model P w) X.A (pyNext (.ref it)) (fun r s1=>r=none/\Inv X pins σ H s1) E s
 self: ∀(A:gB) (i:Nat) (s:gi) (Q:gU) (E:gU),tn i s.heap->Q (.ref it) s->wpAny (model P w) A (pyIter (.ref it)) Q E s
abbrev TI:=St->Hp->(It->Hp->Prop)->Prop
def PIE(X:Cx)(pins:gO)(σ:St)(tg:gm)(R:It->Hp->Prop)(dF:gp)(s2:gi):Prop:=
 ∃(it:fZ) (fp:iW) (tn:Nat->Heap->Prop) (J:It) (H':Hp),dF= .ref it/\Inv X pins σ H' s2/\Turn X.prog X.w X.K tg J fp it tn/\tn 0 s2.heap/\(∀b∈fp,oR X pins H' b)/\R J H'
def PI(X:Cx)(tg iter:gm)(wi:TI):Prop:=
 ∀(pins:gO) (s:gi) (σ:St) (H:Hp) (R:It->Hp->Prop),Inv X pins σ H s->wi σ H R->
  wpAny (model X.prog X.w) X.A (eval iter X.env) (fun v s1=>wpAny (model X.prog X.w) X.A (pyIter v) (PIE X pins σ tg R) X.xe s1) X.xe s
theorem Ie{M:Model}{A:gB}{E:gU}{s:gi}{tg:gm}{it:fZ}{u:gp}{o:Obj}{n:String}{vs:jI}{Q:Unit->Shared->Prop}(ho:s.heap.get? it=some o)(hc:o.cls= .type n)(hd:o.data= .fields vs)
  (hn:["enumerate","zip","dict_itemiterator","dict_reverseitemiterator","odict_iterator","itertools.zip_longest","itertools.pairwise"].contains n=false)(hQ:Q () s):wpAny M A (letOwnedTupleGo tg (.ref it) u) Q E s:=by
 unfold letOwnedTupleGo
 cases tg<;>first
  |exact gF hQ
  |(cases u<;>first
    |exact gF hQ
    |(
      refine gk (wpAny_load ho ?_);rw[hc,hd];show wpAny M A (if(["enumerate","zip","dict_itemiterator","dict_reverseitemiterator","odict_iterator","itertools.zip_longest","itertools.pairwise"].contains n&&vs[0]?==some (rawInt _))=true then _ else _) Q E s;rw[gv (by intro h;rw[hn,Bool.false_and] at h;cases h)];exact gF hQ))
noncomputable def Itl(K:gA)(a:fZ):It:=
 ⟨fun i H=> ∃xs x,SqL K H a xs/\xs[i]?=some x,fun i H x H'=>H'=H/\ ∀xs,SqL K H a xs->xs[i]?=some x,fun i H=> ∃xs,SqL K H a xs/\xs.length<=i⟩
noncomputable def Itt(K:gA)(a:fZ):It:=
 ⟨fun i H=> ∃xs x,SqT K H a xs/\xs[i]?=some x,fun i H x H'=>H'=H/\ ∀xs,SqT K H a xs->xs[i]?=some x,fun i H=> ∃xs,SqT K H a xs/\xs.length<=i⟩
noncomputable def Itr(lo:Int)(n:Nat):It:=⟨fun i _=>i<n,fun i H x H'=>H'=H/\x= .int (lo+i),fun i _=>n<=i⟩
theorem Ep{P:gC}{w:gy}{K:gA}{tg:gm}(a it:fZ):Turn P w K tg (Itl K a) [it] it (fun i h=>h.IsListIter it a i) where
 mem:=by simp
 obj:=fun i h st b hb=>by
  have e:b=it:=by simpa using hb
  subst e;obtain⟨o,e,c,d⟩:=st;exact⟨o,e,fun v z=>by rw[d] at z;cases z⟩
 keep:=fun i h h' st k=>st.at fun o e=>k it (by simp) o e
 item:=by
  intro X hP hw hK hc i pins s σ H E I hf st hg;subst hP hw hK;obtain⟨xs,x,hq,hx⟩:=hg;obtain⟨its,rv,p,hz⟩:=I.list hq;obtain⟨u,hu,ru⟩:=rv.get hx;obtain⟨f0,f1,f2,f3,f4,f5⟩:=hf it (by simp);refine wpAny_pyNext_list_item st p.isList (x:=u) (by simpa using hu) fun h' b7 sb=>?_;have I1:Inv X pins σ H {s with heap:=h'}:=I.turned (t':=s.toks) (fun b o hb e=>(sb.2 b hb).trans e) f0 f1 f3 f4 f5;obtain⟨o,e,c,d⟩:=id b7;exact⟨u,rfl,Ie (s:={s with heap:=h'}) e c d (by decide) ⟨x,H,I1,ru,⟨rfl,fun ys hy=>by rw[I.list_inj hy hq];exact hx⟩,b7,fun b hb=>(hf b hb).1⟩⟩
 done:=by
  intro X hP hw hK hc i pins s σ H E I hf st hg;subst hP hw hK;obtain⟨xs,hq,hx⟩:=hg;obtain⟨its,rv,p,hz⟩:=I.list hq;obtain⟨f0,f1,f2,f3,f4,f5⟩:=hf it (by simp);have hl:=rv.length;exact wpAny_pyNext_list_end (I.ok.hd hc) st p.isList (by simp;omega) fun h' eb=>⟨rfl,I.turned (t':=s.toks) (fun b o hb e=>eb b o hb e) f0 f1 f3 f4 f5⟩
 self:=fun _ _ _ _ _ st h=>wpAny_pyIter_listiter st h
theorem B6{P:gC}{w:gy}{K:gA}{tg:gm}(a it:fZ):Turn P w K tg (Itt K a) [it] it (fun i h=>h.IsTupleIter it a i) where
 mem:=by simp
 obj:=fun i h st b hb=>by
  have e:b=it:=by simpa using hb
  subst e;obtain⟨o,e,c,d⟩:=st;exact⟨o,e,fun v z=>by rw[d] at z;cases z⟩
 keep:=fun i h h' st k=>st.at fun o e=>k it (by simp) o e
 item:=by
  intro X hP hw hK hc i pins s σ H E I hf st hg;subst hP hw hK;obtain⟨xs,x,hq,hx⟩:=hg;obtain⟨its,rv,p,hz⟩:=I.tuple hq;obtain⟨u,hu,ru⟩:=rv.get hx;obtain⟨f0,f1,f2,f3,f4,f5⟩:=hf it (by simp);refine wpAny_pyNext_tuple_item st (show s.heap.IsTuple a its.toArray from p) (x:=u) (by simpa using hu) fun h' b7 sb=>?_;have I1:Inv X pins σ H {s with heap:=h'}:=I.turned (t':=s.toks) (fun b o hb e=>(sb.2 b hb).trans e) f0 f1 f3 f4 f5;obtain⟨o,e,c,d⟩:=id b7;exact⟨u,rfl,Ie (s:={s with heap:=h'}) e c d (by decide) ⟨x,H,I1,ru,⟨rfl,fun ys hy=>by rw[I.tuple_inj hy hq];exact hx⟩,b7,fun b hb=>(hf b hb).1⟩⟩
 done:=by
  intro X hP hw hK hc i pins s σ H E I hf st hg;subst hP hw hK;obtain⟨xs,hq,hx⟩:=hg;obtain⟨its,rv,p,hz⟩:=I.tuple hq;obtain⟨f0,f1,f2,f3,f4,f5⟩:=hf it (by simp);have hl:=rv.length;exact wpAny_pyNext_tuple_end (I.ok.hd hc) st (show s.heap.IsTuple a its.toArray from p) (by simp;omega) fun h' eb=>⟨rfl,I.turned (t':=s.toks) (fun b o hb e=>eb b o hb e) f0 f1 f3 f4 f5⟩
 self:=fun _ _ _ _ _ st h=>wpAny_pyIter_tupleiter st h
theorem B7{P:gC}{w:gy}{K:gA}{tg:gm}(it:fZ)(lo:Int)(n:Nat):Turn P w K tg (Itr lo n) [it] it (fun i h=>IsRangeIter h it (lo+(i:Nat)*1) ((n:Int)-(i:Nat)) 1) where
 mem:=by simp
 obj:=fun i h st b hb=>by
  have e:b=it:=by simpa using hb
  subst e
  exact⟨_,st,fun v z=>by
   have z':Data.fields _=Data.cell v:=z;cases z'⟩
 keep:=fun i h h' st k=>k it (by simp) _ st
 item:=by
  intro X hP hw hK hc i pins s σ H E I hf st hg;subst hP hw hK;obtain⟨f0,f1,f2,f3,f4,f5⟩:=hf it (by simp);have W:=Walks.range (prog:=X.prog) (w:=X.w) (I.ok.hd hc) it lo 1 n;refine W.item i s _ _ hg st fun v h' tk hv b7 kk=>?_;obtain⟨t,rfl⟩:=hv;have I1:Inv X pins σ H {s with heap:=h',toks:=tk}:=I.turned (fun b o hb e=>kk b o (by simpa using hb) e) f0 f1 f3 f4 f5;refine⟨_,rfl,Ie (s:={s with heap:=h',toks:=tk}) (n:="range_iterator") b7 rfl rfl (by decide) ⟨.int (lo+i),H,I1,⟨t,?_⟩,⟨rfl,rfl⟩,b7,fun b hb=>(hf b hb).1⟩⟩;rw[uP]
 done:=by
  intro X hP hw hK hc i pins s σ H E I hf st hg;subst hP hw hK;obtain⟨f0,f1,f2,f3,f4,f5⟩:=hf it (by simp);exact wpAny_pyNext_range_end (I.ok.hd hc) st (by have:n<=i:=hg;omega) fun h' eb=>⟨rfl,I.turned (t':=s.toks) (fun b o hb e=>eb b o hb e) f0 f1 f3 f4 f5⟩
 self:=fun _ _ _ _ _ st h=>wpAny_pyIter_rangeiter st h
section
variable {X:Cx}{tg:gm}
def Om(K:gA)(tl:TE):TI:=fun σ H R=>tl σ H fun x H1=> ∃a,x= .ref a/\(∃xs,SqL K H1 a xs)/\R (Itl K a) H1
def Qw(K:gA)(tl:TE):TI:=fun σ H R=>tl σ H fun x H1=> ∃a,x= .ref a/\(∃xs,SqT K H1 a xs)/\R (Itt K a) H1
theorem JV{l:gm}{tl:TE}(hl:PE X l tl):PI X tg l (Om X.K tl):=by
 intro pins s σ H R I h;refine thn (hl pins s σ H _ I h) fun v s1 ⟨x,H1,I1,r1,q1⟩=>?_;obtain⟨a,e,⟨xs,hq⟩,q⟩:=q1;subst e;cases r1;obtain⟨its,rv,p,hz⟩:=I1.list hq;refine BV p.isList ?_;refine⟨s1.heap.objs.size,[s1.heap.objs.size],_,_,H1,rfl,I1.kept (t':=s1.toks) fun b o e=>iM _ e,Ep a _,⟨_,jx _ rfl,rfl,rfl⟩,fun b hb=>?_,q⟩;have e:b=s1.heap.objs.size:=by simpa using hb
 subst e;exact I1.fpOk (ig _) (I1.hok.fresh (ig _))
theorem Mr{l:gm}{tl:TE}(hl:PE X l tl):PI X tg l (Qw X.K tl):=by
 intro pins s σ H R I h;refine thn (hl pins s σ H _ I h) fun v s1 ⟨x,H1,I1,r1,q1⟩=>?_;obtain⟨a,e,⟨xs,hq⟩,q⟩:=q1;subst e;cases r1;obtain⟨its,rv,p,hz⟩:=I1.tuple hq;refine wpAny_pyIter_tuple (show s1.heap.IsTuple a its.toArray from p) ?_;refine⟨s1.heap.objs.size,[s1.heap.objs.size],_,_,H1,rfl,I1.kept (t':=s1.toks) fun b o e=>iM _ e,B6 a _,⟨_,jx _ rfl,rfl,rfl⟩,fun b hb=>?_,q⟩;have e:b=s1.heap.objs.size:=by simpa using hb
 subst e;exact I1.fpOk (ig _) (I1.hok.fresh (ig _))
theorem Aq{pins:gO}{σ:St}{H:Hp}{s:gi}{R:It->Hp->Prop}{E:gU}{lo hi:Int}{t u v:Tok}{tk:Nat}(I:Inv X pins σ H s)(h1: -(2^62)<=lo)(h2:lo<2^62)(h3: -(2^62)<=hi)(h4:hi<2^62)
  (q:R (Itr lo (hi-lo).toNat) H):wpAny (model X.prog X.w) X.A (pyIter (.ref s.heap.objs.size)) (PIE X pins σ tg R) E {s with heap:=s.heap.push {cls:= .type "range",data:= .fields #[.int lo t,.int hi u,.int 1 v]},toks:=tk}:=by
 refine wpAny_pyIter_range (IsRange.new ..) (small_one h1 h2 h3 h4) ?_;have I1:Inv X pins σ H {s with heap:=s.heap.push {cls:= .type "range",data:= .fields #[.int lo t,.int hi u,.int 1 v]},toks:=tk}:=I.kept fun b o e=>iM _ e
 refine⟨(s.heap.push {cls:= .type "range",data:= .fields #[.int lo t,.int hi u,.int 1 v]}).objs.size,[(s.heap.push {cls:= .type "range",data:= .fields #[.int lo t,.int hi u,.int 1 v]}).objs.size],_,_,H,rfl,
  I1.kept (t':=tk) fun b o e=>iM _ e,B7 _ lo (hi-lo).toNat,?_,fun b hb=>?_,q⟩
 ·have e1:lo+((0:Nat):Int)*1=lo:=by simp
  have e2:(((hi-lo).toNat:Nat):Int)-((0:Nat):Int)=Builtin.Range.rangeSize lo hi 1:=by rw[rangeSize_one];split<;>omega
  show IsRangeIter _ _ (lo+((0:Nat):Int)*1) ((((hi-lo).toNat:Nat):Int)-((0:Nat):Int)) 1;rw[e1,e2];exact jx _ rfl
 ·have e:b=(s.heap.push {cls:= .type "range",data:= .fields #[.int lo t,.int hi u,.int 1 v]}).objs.size:=by simpa using hb
  subst e;exact I1.fpOk (ig _) (I1.hok.fresh (ig _))
def Ol(ta:TA):TI:=fun σ H R=>ta σ H fun vs H1=> ∃j:Int,vs=[.int j]/\ -(2^62)<=j/\j<2^62/\R (Itr 0 j.toNat) H1
def Oj(ta:TA):TI:=fun σ H R=>ta σ H fun vs H1=> ∃i j:Int,vs=[.int i,.int j]/\(-(2^62)<=i/\i<2^62/\ -(2^62)<=j/\j<2^62)/\R (Itr i (j-i).toNat) H1
theorem EI{a:gm}{ta:TA}{p pos:Pos}(hg:Gl X "range")(hm:X.mg "range"=none)(ha:PA X [a] ta)(hs:starEach [a] X.env=[(false,eval a X.env)]:=by rfl):PI X tg (.Call (.Name "range" p) [a] [] pos) (Ol ta):=by
 intro pins s σ H R I h;refine Call_ (oH I hg hm yG (yF (thn (ha pos pins s σ H _ I h) fun us s1 ⟨vs,H1,I1,r1,q1⟩=>?_) hs rfl));obtain⟨j,e,q1,q2,q⟩:=q1;subst e
 cases r1 with
 |cons r rr=>
  cases rr;obtain⟨t,rfl⟩:=r;exact call_range_1 (Aq I1 (by omega) (by omega) q1 q2 (by simpa using q))
theorem EH{a b:gm}{ta:TA}{p pos:Pos}(hg:Gl X "range")(hm:X.mg "range"=none)(ha:PA X [a,b] ta)(hs:starEach [a,b] X.env=[(false,eval a X.env),(false,eval b X.env)]:=by rfl)(m4:starEach [b] X.env=[(false,eval b X.env)]:=by rfl):
  PI X tg (.Call (.Name "range" p) [a,b] [] pos) (Oj ta):=by
 intro pins s σ H R I h;refine Call_ (oH I hg hm yG (yF (thn (ha pos pins s σ H _ I h) fun us s1 ⟨vs,H1,I1,r1,q1⟩=>?_) (by rw[hs,m4]) (by rw[m4];rfl)));obtain⟨i,j,e,⟨q1,q2,q3,q4⟩,q⟩:=q1;subst e
 cases r1 with
 |cons r rr=>
  cases rr with
  |cons r' rr=>
   cases rr;obtain⟨t,rfl⟩:=r;obtain⟨t',rfl⟩:=r';exact call_range_2 (Aq I1 q1 q2 q3 q4 q)
def Pn(wi:TI)(g:TG)(tb:TS):TS:=fun D σ H=>wi σ H fun J H1=> ∃W:Nat->Nat->St->Hp->Prop,(∃m,W 0 m σ H1)/\ ∀i m σ H,W i m σ H->
 (J.stop i H/\D.nx σ H)\/(J.go i H/\ ∃N:St->Hp->Prop,(∀σ' H',N σ' H'-> ∃m',m'<m/\W (i+1) m' σ' H')/\ ∀x H',J.yld i H x H'->g x σ H' fun σ2 H2=>tb {D with nx:=N,ct:=N,bk:=D.nx} σ2 H2)
noncomputable def vt(fp:iW)(h:gz):List (Addr×Obj):=fp.filterMap fun b=>(h.get? b).map fun o=>(b,o)
theorem nO{fp:iW}{h:gz}{b:fZ}{o:Obj}(hb:b∈fp)(e:h.get? b=some o):(b,o)∈vt fp h:=Nu.mpr ⟨b,hb,by rw[e];rfl⟩
theorem EK{fp:iW}{h:gz}{p:Addr×Obj}(hp:p∈vt fp h):p.1∈fp/\h.get? p.1=some p.2:=by
 obtain⟨b,hb,e⟩:=Nu.mp hp
 cases q:h.get? b with
 |none=>rw[q] at e;cases e
 |some o=>
  rw[q] at e;have e':(b,o)=p:=iw e;subst e';exact⟨hb,q⟩
theorem Inv.pinned{pins:gO}{σ:St}{H:Hp}{s:gi}{fp:iW}(I:Inv X pins σ H s)(hf: ∀b∈fp,oR X pins H b)(ho: ∀b∈fp,∃o,s.heap.get? b=some o/\ ∀v,o.data≠ .cell v):Inv X (pins++vt fp s.heap) σ H s:=
 I.pins_of fun p hp=>(nG.mp hp).elim (fun z=>I.pin p (mW _ z)) fun z=>by
  obtain⟨hb,e⟩:=EK z;obtain⟨f0,f1,f2,_⟩:=hf p.1 hb;obtain⟨o,e',d⟩:=ho p.1 hb;rw[e] at e';cases e';exact⟨e,f0,f1,f2,d⟩
theorem Inv.unpinned{pins pl:gO}{σ:St}{H:Hp}{s:gi}(I:Inv X (pins++pl) σ H s):Inv X pins σ H s:=I.pins_of fun p hp=>I.pin p (mW _ (Gd _ hp))
theorem Mn{iter:gm}{body:List Stmt}{wi:TI}{g:TG}{tb:TS}{pos:Pos}(hp:PassesOwn (model X.prog X.w) X.A X.env X.xe)(hc:X.calm=true)(hi:PI X tg iter wi)(hg:PG X tg g)(hb:PSs X body tb)
  (hs: ∀x,foldedSetIterable iter X.env x=pure x:=by intro _;rfl):PS X (.For tg iter body [] pos) (Pn wi g tb):=by
 intro pins s σ H D I h;refine wpAny_For (thn (hi pins s σ H _ I h) fun v s1 h1=>thn h1 fun dF s2 h2=>?_) hs;obtain⟨it,fp,tn,J,H2,e,I2,T,i3,f2,W,⟨m0,w0⟩,turn⟩:=h2;subst e;have v8: ∀{H':Hp},(∀b∈fp,H' b=none)-> ∀b∈fp,oR X pins H' b:=fun hn b hb=>⟨hn b hb,(f2 b hb).2⟩
 refine codeAny_forLoop_any (fun n s'=> ∃i σ' H',Inv X pins σ' H' s'/\tn i s'.heap/\(∀b∈fp,H' b=none)/\W i n σ' H') ?_ m0 ⟨0,σ,H2,I2,i3,fun b hb=>(f2 b hb).1,w0⟩;rintro n s3 ⟨i,σ3,H3,I3,j8,cN,w3⟩;rcases turn i n σ3 H3 w3 with⟨stop,qn⟩|⟨go,N,hN,step⟩
 ·refine uA hp (thn (T.done X rfl rfl rfl hc i pins s3 σ3 H3 X.xe I3 (v8 cN) j8 stop) fun r s4 ⟨hr,I4⟩=>?_);subst hr;exact uS ⟨σ3,H3,I4,qn⟩
 ·refine uA hp (thn (T.item X rfl rfl rfl hc i pins s3 σ3 H3 X.xe I3 (v8 cN) j8 go) fun r s4 ⟨u,hr,h4⟩=>?_);subst hr;refine uA hp (thn h4 fun _ s5 ⟨x,H5,I5,r5,y5,aZ,fL⟩=>?_);have fX:=I5.pinned (v8 fL) (T.obj _ _ aZ);refine uA hp (thn (hg _ s5 σ3 H5 x u _ fX r5 (step x H5 y5)) fun _ s6 ⟨σ6,H6,I6,q6⟩=>?_);refine uA hp (thn (hb _ s6 σ6 H6 _ I6 q6) fun f s7 q7=>?_)
  have again: ∀{σ7:St} {H7:Hp},Inv X (pins++vt fp s5.heap) σ7 H7 s7->N σ7 H7-> ∃m,m<n/\ ∃i σ' H',Inv X pins σ' H' s7/\tn i s7.heap/\(∀b∈fp,H' b=none)/\W i m σ' H':=fun {σ7 H7} I7 n7=>by
   obtain⟨m',hm,w7⟩:=hN σ7 H7 n7;refine⟨m',hm,i+1,σ7,H7,I7.unpinned,T.keep _ _ _ aZ fun b hb o e=>(I7.pin (b,o) (mW _ (mW _ (nO hb e)))).1,fun b hb=>?_,w7⟩;obtain⟨o,e,d⟩:=T.obj _ _ aZ b hb;exact(I7.pin (b,o) (mW _ (mW _ (nO hb e)))).2.1
  cases f with
  |next=>obtain⟨σ7,H7,I7,n7⟩:=q7;exact again I7 n7
  |cont=>obtain⟨σ7,H7,I7,n7⟩:=q7;exact again I7 n7
  |brk=>obtain⟨σ7,H7,I7,q7⟩:=q7;exact⟨σ7,H7,I7.unpinned,q7⟩
  |ret v=>obtain⟨x7,σ7,H7,I7,r7,q7⟩:=q7;exact⟨x7,σ7,H7,I7.unpinned,r7,q7⟩
end
abbrev R2:=V->V->Hp->VK->Prop
def OpR(X:Cx)(f:uo)(r:R2):Prop:=
 ∀(pins:gO) (s:gi) (σ:St) (H:Hp) (x y:V) (v u:gp) (Q:VK),Inv X pins σ H s->RelV x v->RelV y u->r x y H Q->
  wpAny (model X.prog X.w) X.A (f v u) (EP X pins σ Q) X.xe s
def UnR(X:Cx)(f:Value->Sem Value)(r:V->Hp->VK->Prop):Prop:=
 ∀(pins:gO) (s:gi) (σ:St) (H:Hp) (x:V) (v:gp) (Q:VK),Inv X pins σ H s->RelV x v->r x H Q->
  wpAny (model X.prog X.w) X.A (f v) (EP X pins σ Q) X.xe s
def iY(X:Cx)(f:gp)(r:List V->Hp->VK->Prop):Prop:=
 ∀(pins:gO) (s:gi) (σ:St) (H:Hp) (xs:List V) (us:hJ) (Q:VK),Inv X pins σ H s->Vals xs us->r xs H Q->
  wpAny (model X.prog X.w) X.A (call f us) (EP X pins σ Q) X.xe s
noncomputable def tOp(r:R2)(ta tb:TE):TE:=fun σ H Q=>ta σ H fun x H1=>tb σ H1 fun y H2=>r x y H2 Q
def tUn(r:V->Hp->VK->Prop)(ta:TE):TE:=fun σ H Q=>ta σ H fun x H1=>r x H1 Q
def rI(C:Int->Int->Prop)(g:Int->Int->V):R2:=fun x y H Q=> ∃i j,x= .int i/\y= .int j/\C i j/\Q (g i j) H
def rI0(g:Int->Int->V):R2:=fun x y H Q=> ∃i j,x= .int i/\y= .int j/\Q (g i j) H
def rU(g:Int->V):V->Hp->VK->Prop:=fun x H Q=> ∃i,x= .int i/\Q (g i) H
section
variable {X:Cx}{a b c:gm}{ta tb tc:TE}{pos:Pos}
theorem Nl(ha:PE X a ta)(hb:PE X b tb){pins:gO}{s:gi}{σ:St}{H:Hp}{R:V->V->Hp->Prop}(I:Inv X pins σ H s)
  (h:ta σ H fun x H1=>tb σ H1 fun y H2=>R x y H2){Q:gU}{f:uo}
  (hf: ∀v u s2 x y H2,Inv X pins σ H2 s2->RelV x v->RelV y u->R x y H2->wpAny (model X.prog X.w) X.A (f v u) Q X.xe s2):
  wpAny (model X.prog X.w) X.A (eval a X.env) (fun v s₁=>wpAny (model X.prog X.w) X.A (eval b X.env) (fun u s₂=>wpAny (model X.prog X.w) X.A (f v u) Q X.xe s₂) X.xe s₁) X.xe s:=by
 refine thn (ha pins s σ H _ I h) fun v s1 ⟨x,H1,I1,r1,q1⟩=>?_;refine thn (hb pins s1 σ H1 _ I1 q1) fun u s2 ⟨y,H2,I2,r2,q2⟩=>?_;exact hf v u s2 x y H2 I2 r1 r2 q2
theorem N9{op:Operator}{r:R2}(ho:OpR X (binaryOp op) r)(ha:PE X a ta)(hb:PE X b tb):PE X (.BinOp a op b pos) (tOp r ta tb):=by
 intro pins s σ H Q I h;exact wpAny_BinOp (Nl ha hb I h fun v u s2 x y H2 I2 rx ry q=>ho pins s2 σ H2 x y v u Q I2 rx ry q)
theorem N8{op:UnaryOp}{r:V->Hp->VK->Prop}(ho:UnR X (unaryOp op) r)(ha:PE X a ta):PE X (.UnaryOp op a pos) (tUn r ta):=by
 intro pins s σ H Q I h;exact UnaryOp_ (thn (ha pins s σ H _ I h) fun v s1 ⟨x,H1,I1,r1,q1⟩=>ho pins s1 σ H1 x v Q I1 r1 q1)
theorem opI{f:uo}{C:Int->Int->Prop}{g:Int->Int->Int}
  (rule: ∀(i j:Int) (t u:Tok) (s:gi) (Q:gU) (E:gU),C i j->Q (.int (g i j) s.toks) {s with toks:=s.toks+1}->wpAny (model X.prog X.w) X.A (f (.int i t) (.int j u)) Q E s):
  OpR X f (rI C fun i j=> .int (g i j)):=by
 intro pins s σ H x y v u Q I rx ry h;obtain⟨i,j,rfl,rfl,hc,q⟩:=h;obtain⟨t,rfl⟩:=rx;obtain⟨t',rfl⟩:=ry;exact rule i j t t' s _ _ hc ⟨.int (g i j),H,I.tok _,⟨_,rfl⟩,q⟩
theorem Oc{f:uo}{g:Int->Int->Int}
  (rule: ∀(i j:Int) (t u:Tok) (s:gi) (Q:gU) (E:gU),Q (.int (g i j) s.toks) {s with toks:=s.toks+1}->wpAny (model X.prog X.w) X.A (f (.int i t) (.int j u)) Q E s):
  OpR X f (rI0 fun i j=> .int (g i j)):=by
 intro pins s σ H x y v u Q I rx ry h;obtain⟨i,j,rfl,rfl,q⟩:=h;obtain⟨t,rfl⟩:=rx;obtain⟨t',rfl⟩:=ry;exact rule i j t t' s _ _ ⟨.int (g i j),H,I.tok _,⟨_,rfl⟩,q⟩
def Fg(i j:Int):Prop:=0<j/\j<1073741824
def zK(i j:Int):Prop:=0<=j/\j<=1000000/\i.natAbs<2^64
def CMul(i j:Int):Prop:=(-(2^64)<i/\i<2^64)\/(-(2^64)<j/\j<2^64)
theorem CMul.ok{i j:Int}(h:CMul i j):IntMulOk i j:=by
 rcases h with⟨h1,h2⟩|⟨h1,h2⟩
 ·exact .of_left (intBits_le_64 h1 h2)
 ·exact .of_right (intBits_le_64 h1 h2)
theorem ML:OpR X (binaryOp .Add) (rI0 fun i j=> .int (i+j)):=Oc fun _ _ _ _ _ _ _ q=>add_int q
theorem MD:OpR X (binaryOp .Sub) (rI0 fun i j=> .int (i-j)):=Oc fun _ _ _ _ _ _ _ q=>sub_int q
theorem MI:OpR X (binaryOp .Mult) (rI CMul fun i j=> .int (i*j)):=opI fun _ _ _ _ _ _ _ hc q=>mul_int q hc.ok
theorem J3:OpR X (binaryOp .FloorDiv) (rI Fg fun i j=> .int (i / j)):=opI fun i j _ _ _ _ _ hc q=>by
 have h1:(0:Int)<j:=hc.1;have h2:j<1073741824:=hc.2;exact floordiv_int (by omega) (by rw[Int.fdiv_eq_ediv_of_nonneg i (by omega)];exact q) (.inl (PyProof.noPylong_small (by omega)))
theorem MJ:OpR X (binaryOp .Mod) (rI (fun _ j=>0<j) fun i j=> .int (i%j)):=opI fun i j _ _ _ _ _ hc q=>by
 have h1:(0:Int)<j:=hc;exact mod_int' (by omega) (by rw[Int.fmod_eq_emod_of_nonneg i (by omega)];exact q)
theorem ME:OpR X (binaryOp .Pow) (rI zK fun i j=> .int (i^j.toNat)):=opI fun _ _ _ _ _ _ _ hc q=>pow_int_small hc.1 hc.2.1 hc.2.2 q
theorem unI{f:Value->Sem Value}{g:Int->Int}
  (rule: ∀(i:Int) (t:Tok) (s:gi) (Q:gU) (E:gU),Q (.int (g i) s.toks) {s with toks:=s.toks+1}->wpAny (model X.prog X.w) X.A (f (.int i t)) Q E s):
  UnR X f (rU fun i=> .int (g i)):=by
 intro pins s σ H x v Q I rx h;obtain⟨i,rfl,q⟩:=h;obtain⟨t,rfl⟩:=rx;exact rule i t s _ _ ⟨.int (g i),H,I.tok _,⟨_,rfl⟩,q⟩
theorem Lp:UnR X (unaryOp .USub) (rU fun i=> .int (-i)):=unI fun _ _ _ _ _ q=>neg_int q
theorem Ip{pins:gO}{σ:St}{H:Hp}{s:gi}{Q:VK}{k k':Bool}(I:Inv X pins σ H s)(q:Q (.bl k) H)(e:k=k'):EP X pins σ Q (.bool k') s:=by
 subst e;exact⟨.bl k,H,I,rfl,q⟩
theorem HG:OpR X (compareOp .Is) (fun x y H Q=>y= .non/\Q (.bl (decide (x= .non))) H):=by
 intro pins s σ H x y v u Q I rx ry h;obtain⟨rfl,q⟩:=h;cases ry;refine is_none_gen (Ip I q ?_)
 cases x<;>first
  |(cases rx;rfl)
  |(obtain⟨t,rfl⟩:=rx;rfl)
theorem HJ(b:gm){op:CmpOp}(h:op≠ .In:=by decide)(h2:op≠ .NotIn:=by decide):behindInMarks op b=false:=by
 have e1:(op==CmpOp.In)=false:=by cases op<;>first|rfl|exact absurd rfl h
 have e2:(op==CmpOp.NotIn)=false:=by cases op<;>first|rfl|exact absurd rfl h2
 cases b<;>simp[behindInMarks,e1,e2]
theorem JY{op:CmpOp}{r:R2}(ho:OpR X (compareOp op) r)(ha:PE X a ta)(hb:PE X b tb)(hm:behindInMarks op b=false):PE X (.Compare a [op] [b] pos) (tOp r ta tb):=by
 intro pins s σ H Q I h;exact wpAny_Compare1 (Nl ha hb I h fun v u s2 x y H2 I2 rx ry q=>ho pins s2 σ H2 x y v u Q I2 rx ry q) hm
def NI(t:TE):TT:=fun σ H Q=>t σ H fun x H'=> ∃k,x= .bl k/\Q k H'
theorem JK{op:CmpOp}{r:R2}(ho:OpR X (compareOp op) r)(ha:PE X a ta)(hb:PE X b tb)(hm:behindInMarks op b=false):PT X (.Compare a [op] [b] pos) (NI (tOp r ta tb)):=by
 intro pins s σ H Q I h
 refine wpAny_isTrue_Compare1 (thn (ha pins s σ H _ I h) fun v s1 ⟨x,H1,I1,r1,q1⟩=>thn (hb pins s1 σ H1 _ I1 q1) fun u s2 ⟨y,H2,I2,r2,q2⟩=>
  thn (ho pins s2 σ H2 x y v u _ I2 r1 r2 q2) fun c s3 ⟨z,H3,I3,r3,k,e,q3⟩=>?_) hm
 subst e;cases r3;exact yH ⟨H3,I3,q3⟩
theorem zg:(sizeLine:Nat)<2^63:=by rw[je];decide
theorem Cn:OpR X (binaryOp .Add) (fun x y H Q=> ∃i j,x= .str i/\y= .str j/\i.length+j.length<=sizeLine/\Q (.str (i++j)) H):=by
 intro pins s σ H x y v u Q I rx ry h;obtain⟨i,j,rfl,rfl,hz,q⟩:=h;obtain⟨t,rfl⟩:=rx;obtain⟨t',rfl⟩:=ry;exact add_str (fun t' tk=>⟨.str (i++j),H,I.tok _,⟨_,rfl⟩,q⟩) hz
theorem pP{x:V}{us:hJ}(r:Vals [x] us): ∃u,us=[u]/\RelV x u:=by
 cases r with
 |cons r1 r2=>cases r2;exact⟨_,rfl,r1⟩
theorem sY{x y:V}{us:hJ}(r:Vals [x,y] us): ∃u w',us=[u,w']/\RelV x u/\RelV y w':=by
 cases r with
 |cons r1 r2=>
  cases r2 with
  |cons r3 r4=>cases r4;exact⟨_,_,rfl,r1,r3⟩
theorem IL:iY X (.builtin "abs") (fun xs H Q=> ∃i,xs=[.int i]/\Q (.int (if i<0 then -i else i)) H):=by
 intro pins s σ H xs us Q I r h;obtain⟨i,rfl,q⟩:=h;obtain⟨u,rfl,t,rfl⟩:=pP r;exact call_abs_int fun u tk=>⟨.int (if i<0 then -i else i),H,I.tok _,⟨_,rfl⟩,q⟩
theorem Fb(hc:X.calm=true):iY X (.builtin "max") (fun xs H Q=> ∃i j,xs=[.int i,.int j]/\Q (.int (if j>i then j else i)) H):=by
 intro pins s σ H xs us Q I r h;obtain⟨i,j,rfl,q⟩:=h;obtain⟨u,w',rfl,⟨t,rfl⟩,⟨t',rfl⟩⟩:=sY r;refine max_two_ints (I.ok.hd hc) fun h' tk k=>⟨_,H,I.kept k,?_,q⟩
 by_cases hj:j>i
 ·rw[gq hj,gq hj];exact⟨_,rfl⟩
 ·rw[gv hj,gv hj];exact⟨_,rfl⟩
theorem E9(hc:X.calm=true):iY X (.builtin "min") (fun xs H Q=> ∃i j,xs=[.int i,.int j]/\Q (.int (if j<i then j else i)) H):=by
 intro pins s σ H xs us Q I r h;obtain⟨i,j,rfl,q⟩:=h;obtain⟨u,w',rfl,⟨t,rfl⟩,⟨t',rfl⟩⟩:=sY r;refine min_two_ints (I.ok.hd hc) fun h' tk k=>⟨_,H,I.kept k,?_,q⟩
 by_cases hj:j<i
 ·rw[gq hj,gq hj];exact⟨_,rfl⟩
 ·rw[gv hj,gv hj];exact⟨_,rfl⟩
theorem xK:iY X (.type "int") (fun xs H Q=>(∃i,xs=[.int i]/\Q (.int i) H)\/ ∃k,xs=[.bl k]/\Q (.int (if k then 1 else 0)) H):=by
 intro pins s σ H xs us Q I r h;rcases h with⟨i,rfl,q⟩|⟨k,rfl,q⟩
 ·obtain⟨u,rfl,t,rfl⟩:=pP r;exact call_int_int ⟨.int i,H,I,⟨_,rfl⟩,q⟩
 ·obtain⟨u,rfl,r1⟩:=pP r;cases r1;exact call_int_bool ⟨.int (if k then 1 else 0),H,I.tok _,⟨_,rfl⟩,q⟩
end
section
variable {prog:gC}{w:gy}{A:gB}{E:gU}{s:gi}{K:gA}{x dx C f:fZ}{mA:jy}{name:Str}{v:gp}
end
section
variable {P:gC}{w:gy}{H H':Hp}{h h':gz}{a C dx:fZ}{fs fs':List (Str×V)}
end
section
variable {X:Cx}{pins:gO}{σ:St}{H:Hp}{s:gi}{a C dx:fZ}{fs:List (Str×V)}{f:Str}{v:V}{A:gB}{E:gU}
end
section
variable {X:Cx}{o e value:gm}{f:Str}{pos pos' y8:Pos}{ta tv:TE}
end
section
variable {X:Cx}{pins:gO}{σ:St}{H:Hp}{s:gi}{A:gB}{E:gU}{Q:gU}{c:gp}{b:Bool}
end
structure Room(k:Nat)(A:gB):Prop where
 hd:A.handled=none
 dp:A.depth+3*k+5<recursionLimit
 un:A.units+16*k+200<cLine
theorem Room.mono{j k:Nat}{A:gB}(r:Room k A)(h:j<=k):Room j A:=⟨r.hd,by have:=r.dp;omega,by have:=r.un;omega⟩
theorem Room.deeper{k:Nat}{A:gB}(r:Room (k+1) A)(env:Env):Room k (A.deeper env):=
 ⟨r.hd,by have:=r.dp;show A.depth+1+3*k+5<_;omega,by have:=r.un;show A.units+3+16*k+200<_;omega⟩
theorem Room.depth{k:Nat}{A:gB}(r:Room k A):A.depth<recursionLimit:=by have:=r.dp;omega
noncomputable def Pk:TA:=fun _ H Q=>Q [] H
noncomputable def NN(ta:TE)(tr:TA):TA:=fun σ H Q=>ta σ H fun x H1=>tr σ H1 fun xs H2=>Q (x::xs) H2
section
variable {X:Cx}{e:gm}{es:iL}{te:TE}{t:TA}{pos:Pos}
theorem mQ:PA X [] Pk:=fun _ _ _ _ H Q I h=>BU ⟨[],H,I,.nil,h⟩
theorem jY(ha:PE X e te)(hr:PA X es t)(hs:starEach (e::es) X.env=(false,eval e X.env)::starEach es X.env:=by rfl):PA X (e::es) (NN te t):=by
 intro pos pins s σ H Q I h;rw[hs];show wpAny _ _ (spliced ((false,eval e X.env)::backTo pos (starEach es X.env))) _ _ s;refine BR (thn (ha pins s σ H _ I h) fun u s1 ⟨x,H1,I1,r1,q1⟩=>?_);exact thn (hr pos pins s1 σ H1 _ I1 q1) fun us s2 ⟨xs,H2,I2,r2,q2⟩=>⟨x::xs,H2,I2,.cons r1 r2,q2⟩
noncomputable def Pf(t:TA):TE:=fun σ H Q=>t σ H fun xs H1=>xs.length<=sizeLine/\ ∀p,H1 p=none->Q (.ref p) (upd H1 p (.tup xs))
noncomputable def Pl(t:TA):TE:=fun σ H Q=>t σ H fun xs H1=>xs.length<=sizeLine/\ ∀p,H1 p=none->Q (.ref p) (upd H1 p (.lst xs))
theorem Hs{x1}(h:PA X es t):PE X (.Tuple es x1 pos) (Pf t):=by
 intro pins s σ H Q I hq;refine wpAny_Tuple_spliced (thn (h pos pins s σ H _ I hq) fun us s1 ⟨xs,H1,I1,r,z,q⟩=>⟨by rw[<-r.length];exact z,?_⟩);have hf:H1 s1.heap.objs.size=none:=I1.hok.fresh (ig _);refine⟨.ref s1.heap.objs.size,upd H1 s1.heap.objs.size (.tup xs),I1.laid (t':=s1.toks) (fun b u e=>iM _ e) (ig _) ?_,rfl,q _ hf⟩;exact⟨z,us,r,⟨_,jx _ rfl,rfl,_,rfl⟩⟩
theorem Mx(h:PA X es t):PE X (.List es pos) (Pl t):=by
 intro pins s σ H Q I hq;refine wpAny_List_spliced (thn (h pos pins s σ H _ I hq) fun us s1 ⟨xs,H1,I1,r,z,q⟩=>⟨by rw[<-r.length];exact z,?_⟩);have hf:H1 s1.heap.objs.size=none:=I1.hok.fresh (ig _);refine⟨.ref s1.heap.objs.size,upd H1 s1.heap.objs.size (.lst xs),I1.laid (t':=s1.toks) (fun b u e=>iM _ e) (ig _) ?_,rfl,q _ hf⟩;exact⟨z,us,0,r,jx _ rfl⟩
end
abbrev Sp:=List V->Hp->VK->XK->Prop
abbrev CXT:=List Env->Hp->Shared->XK->Value->Shared->Prop
structure Env0(P:gC)(w:gy)(K:gA)(mg:jy)(base:gz)(A:gB)(outer:List Env)(s:gi)(H:Hp):Prop where
 frames:A.frames=some outer
 mod:Mod K mg base
 bs: ∀b o,base.get? b=some o->s.heap.get? b=some o/\H b=none
 bsz:base.objs.size<=s.heap.objs.size
 funs:s.heap.FunFrames base outer
 frf: ∀b∈frs outer,H b=none
 hok:HOk P w H s.heap
 bare:AllBare s.gens
def CE(outer:List Env)(P:gC)(w:gy)(H:Hp)(s:gi)(Q:VK)(u:gp)(s':gi):Prop:=
 ∃v H',s'.os=s.os/\AllBare s'.gens/\Un (frs outer) [] H H' s.heap s'.heap/\HOk P w H' s'.heap/\RelV v u/\Q v H'
def CR(CX:CXT)(outer:List Env)(P:gC)(w:gy)(H:Hp)(s:gi)(Q:VK)(E:XK)(r:Result)(s':gi):Prop:=
 match r with
 | .ok (.ret u)=>CE outer P w H s Q u s'
 | .ok _=>False
 | .error e=>CX outer H s E e s'
structure FnOk(P:gC)(w:gy)(K:gA)(mg:jy)(base:gz)(CX:CXT)(k:Nat)(f:fZ)(fd:kE)(ps:gG)(sp:Sp):Prop where
 len: ∀vs H Q E,sp vs H Q E->vs.length=ps.length
 run: ∀(A:gB) (outer:List Env) (s:gi) (H:Hp) (args:Args) (us:hJ) (vs:List V) (Q:VK) (E:XK),Room k A->Env0 P w K mg base A outer s H->BindsTo s fd args (ps.zip us)->Vals vs us->sp vs H Q E->
  codeAny (model P w) A (.call (.ref f) args) (CR CX outer P w H s Q E) s
theorem FnOk.mono{P:gC}{w:gy}{K:gA}{mg:jy}{base:gz}{CX:CXT}{j k:Nat}{f:fZ}{fd:kE}{ps:gG}{sp:Sp}(F:FnOk P w K mg base CX j f fd ps sp)(h:j<=k):
  FnOk P w K mg base CX k f fd ps sp:=⟨F.len,fun A outer s H args us vs Q E hr=>F.run A outer s H args us vs Q E (hr.mono h)⟩
section
variable {X:Cx}{pins:gO}{σ:St}{H:Hp}{s s':gi}
theorem Inv.env0(I:Inv X pins σ H s):Env0 X.prog X.w X.K X.mg X.base X.A X.stack s H:=
 ⟨I.ok.frames,I.ok.mod,I.bs,mE I.ok.bsz I.sz,I.stack,I.stkFree,I.hok,I.bare⟩
theorem Inv.after{Q:VK}{u:gp}(I:Inv X pins σ H s)(h:CE X.stack X.prog X.w H s Q u s'):EP X pins σ Q u s':=by
 obtain⟨v,H',os,bare,un,hok,r,q⟩:=h;obtain⟨hh,g,d,t,eG⟩:=s';obtain rfl:eG=s.os:=os;exact⟨v,H',I.call (h':=hh) (g':=g) (d':=d) (t':=t) (ch:=[]) un hok bare (fun b z=>absurd z (by simp)),r,q⟩
end
noncomputable def KP(sp:Sp)(bN:List V)(E:XK)(t:TA):TE:=fun σ H Q=>t σ H fun vs H1=>sp (vs++bN) H1 Q E
def Binds(K:gA)(fd:kE)(ps:gG)(ds:hJ):Prop:=
 ∀(s:gi) (us:hJ),K.In s.heap->(us++ds).length=ps.length->BindsTo s fd ⟨us,[]⟩ (ps.zip (us++ds))
theorem Binds.all{K:gA}{fd:kE}{ps:gG}(h: ∀us:List Value,us.length=ps.length->bindArgs fd ⟨us,[]⟩=pure (ps.zip us)):Binds K fd ps []:=fun s us _ hl=>by
 rw[sV] at hl ⊢;exact .of_eq (h us hl)
def zJ(CX:CXT)(X:Cx)(E:XK):Prop:= ∀(pins:gO) (σ:St) (H:Hp) (s:gi) (e:gp) (s':gi),Inv X pins σ H s->CX X.stack H s E e s'->X.xe e s'
section
variable {X:Cx}{CX:CXT}{k:Nat}{f C:fZ}{fd:kE}{ps:gG}{sp:Sp}{bN:List V}{ds:hJ}{E:XK}{x m:Str}{p pos apos:Pos}{e o:gm}{es:iL}{ta:TE}{t:TA}
theorem GP{pins:gO}{σ:St}{H:Hp}{s:gi}{Q:VK}{us:hJ}{vs:List V}(F:FnOk X.prog X.w X.K X.mg X.base CX k f fd ps sp)(hr:Room k X.A)(hb:Binds X.K fd ps ds)(hd:Vals bN ds)(hx:zJ CX X E)
  (I:Inv X pins σ H s)(r:Vals vs us)(h:sp (vs++bN) H Q E):wpAny (model X.prog X.w) X.A (call (.ref f) us) (EP X pins σ Q) X.xe s:=by
 have r2:Vals (vs++bN) (us++ds):=r.append hd;have hl:(us++ds).length=ps.length:=by rw[<-r2.length];exact F.len _ _ _ _ h
 refine yE (uz (F.run X.A X.stack s H ⟨us,[]⟩ (us++ds) (vs++bN) Q E hr I.env0 (hb s us I.kIn hl) r2 h) fun r s' hq=>?_)
 cases r with
 |error e=>exact hx pins σ H s e s' I hq
 |ok fl=>
  cases fl with
  |ret u=>exact I.after hq
  |next=>exact False.elim hq
  |brk=>exact False.elim hq
  |cont=>exact False.elim hq
theorem DG(F:FnOk X.prog X.w X.K X.mg X.base CX k f fd ps sp)(hr:Room k X.A)(hg:Gl X x)(hm:X.mg x=some (.ref f))(hk:PySem.W.keepIn X.K (.ref f)=true)(hb:Binds X.K fd ps ds)(hd:Vals bN ds)(hx:zJ CX X E)
  (ha:PA X (e::es) t)(i7:(x==("__debug__":Str))=false:=by decide)(he:starEach (e::es) X.env=(false,eval e X.env)::starEach es X.env:=by rfl)(g6:(backTo pos (starEach es X.env)).any (·.1)=false:=by rfl):
  PE X (.Call (.Name x p) (e::es) [] pos) (KP sp bN E t):=by
 intro pins s σ H Q I h;refine sU (pB I hg hm ?_ i7);refine PySem.W.callWith_K (h₀:=X.base) I.ok.mod.kin hk (thn (ha pos pins s σ H _ I h) fun us s1 ⟨vs,H1,I1,r,q⟩=>⟨I1.kIn,?_⟩) he g6;exact GP F hr hb hd hx I1 r q
end
section
variable {X:Cx}{CX:CXT}{k:Nat}{f C:fZ}{fd:kE}{ps ks:gG}{sp:Sp}{E:XK}{x m:Str}{p pos apos kpos:Pos}{e o:gm}{es:iL}{kws:List Keyword}{te ta:TE}{t tk:TA}{nm:Option Str}
variable {g:List Value->List Value->List Value}{gV:List V->List V->List V}
end
structure FnScope(N P:gG)(sc:iq):Prop where
 kind:sc.kind= .function
 co:sc.isCoroutine=false
 gen:sc.isGenerator=false
 nd:N.Nodup
 pre:N.take P.length=P
 par: ∀x∈P,sc.names.lookup x=some .local\/sc.names.lookup x=some .cell
 nofree: ∀y∈sc.names,y.2≠ .free
theorem xQ{kindOf:Str->Option NameKind}{x:Str}: ∀{binds:List (Str×Value)} {m:jy},(∀v,(x,v)∉binds)->bindL kindOf binds m x=m x
 |[],_,_=>rfl
 |(n,v)::r,m,h=>by
  unfold bindL;rw[xQ fun w hw=>h w (jf _ hw)];split
  ·have:x≠n:=by rintro rfl;exact h v jg
   simp[this]
  ·rfl
theorem xS{kindOf:Str->Option NameKind}{x:Str}: ∀{binds:List (Str×Value)} {m:jy},(∀v,(x,v)∉binds)->bindC kindOf binds m x=m x
 |[],_,_=>rfl
 |(n,v)::r,m,h=>by
  unfold bindC;rw[xS fun w hw=>h w (jf _ hw)];split
  ·rfl
  ·have:x≠n:=by rintro rfl;exact h v jg
   simp[this]
theorem xR{kindOf:Str->Option NameKind}{x:Str}{v:gp}: ∀{P:gG} {vs:hJ} {i:Nat} {m:jy},P.Nodup->P[i]?=some x->vs[i]?=some v->kindOf x=some .local->
  bindL kindOf (P.zip vs) m x=some v
 |[],_,_,_,_,h,_,_=>by simp at h
 |_::_,[],_,_,_,_,h,_=>by simp at h
 |p::P,w::vs,0,m,nd,h1,h2,hk=>by
  simp at h1 h2;subst h1;subst h2;show bindL kindOf ((p,w)::P.zip vs) m p=_;unfold bindL;rw[xQ fun v hv=>(zL.mp nd).1 (yD hv).1,gq hk];simp
 |p::P,w::vs,i+1,m,nd,h1,h2,hk=>by
  show bindL kindOf ((p,w)::P.zip vs) m x=_;unfold bindL;exact xR (i:=i) (zL.mp nd).2 (by simpa using h1) (by simpa using h2) hk
theorem xX{kindOf:Str->Option NameKind}{x:Str}{v:gp}: ∀{P:gG} {vs:hJ} {i:Nat} {m:jy},P.Nodup->P[i]?=some x->vs[i]?=some v->kindOf x≠some .local->
  bindC kindOf (P.zip vs) m x=some v
 |[],_,_,_,_,h,_,_=>by simp at h
 |_::_,[],_,_,_,_,h,_=>by simp at h
 |p::P,w::vs,0,m,nd,h1,h2,hk=>by
  simp at h1 h2;subst h1;subst h2;show bindC kindOf ((p,w)::P.zip vs) m p=_;unfold bindC;rw[xS fun v hv=>(zL.mp nd).1 (yD hv).1,gv hk];simp
 |p::P,w::vs,i+1,m,nd,h1,h2,hk=>by
  show bindC kindOf ((p,w)::P.zip vs) m x=_;unfold bindC;exact xX (i:=i) (zL.mp nd).2 (by simpa using h1) (by simpa using h2) hk
noncomputable def mT(N:gG)(vs:List V):St:=vs.map some++List.replicate (N.length-vs.length) none
noncomputable def my(CX:CXT)(P:gC)(w:gy)(K:gA)(mg:jy)(base:gz)(N:gG)(qual:Str)(scope:iq)(f:fZ)(cd:gp)(A:gB)(outer:List Env)(s:gi)(H:Hp)(E:XK):Cx where
 prog:=P
 w:=w
 K:=K
 mg:=mg
 base:=base
 A:=A.deeper (envOfC qual scope s.heap.objs.size f cd)
 N:=N
 s₀:=s
 H₀:=H
 env:=envOfC qual scope s.heap.objs.size f cd
 outer:=outer
 stack:=envOfC qual scope s.heap.objs.size f cd::outer
 ex:=[]
 calm:=true
 fn:=fun _=>true
 pn:=[]
 xe:=fun e s'=>wpAny (model P w) (A.deeper (envOfC qual scope s.heap.objs.size f cd)) (leaving (envOfC qual scope s.heap.objs.size f cd) e) (fun _ v5=>CX outer H s E e v5) (fun e' v5=>CX outer H s E e' v5) s'
theorem A4{sc:iq}{n:Nat}{x:Str}(h:sc.names.lookup x=some .cell): ∃c,(cellsFrom n sc.names []).lookup x=some c:=by
 have q:=yC sc.names n [] (.inl h);exact Fh.mp q
theorem xv{CX:CXT}{P:gC}{w:gy}{K:gA}{mg:jy}{base:gz}{N ps:gG}{qual:Str}{scope:iq}{f:fZ}{cd:gp}{A:gB}{outer:List Env}{s s1:gi}{H:Hp}{E:XK}{us:hJ}{vs:List V}
  (S:FnScope N ps scope)(hd:A.handled=none)(e0:Env0 P w K mg base A outer s H)(hl:vs.length=ps.length)(r:Vals vs us)
  (x:InCallC s s.heap.objs.size (bindL (envOfC qual scope s.heap.objs.size f cd).kindOf (ps.zip us) fun _=>none) (cellsFrom (s.heap.objs.size+1) scope.names []) (bindC (envOfC qual scope s.heap.objs.size f cd).kindOf (ps.zip us) fun _=>none) s1):
  Inv (my CX P w K mg base N qual scope f cd A outer s H E) [] (mT N vs) H s1:=by
 have g6:ps.length<=N.length:=by have:=pO List.length S.pre;rw[pN] at this;omega
 obtain⟨h1,tk,rfl,hk⟩:=x.done;have aT: ∀b:Addr,b∉(my CX P w K mg base N qual scope f cd A outer s H E).ex:=fun b z=>absurd (show b∈([]:List Addr) from z) (by simp)
 refine⟨⟨e0.mod,S.kind,rfl,rfl,ig _,fun y z c h1 h2=>?_,fun y hy=>?_,fun y c _ h=>?_,fun _=>hd,F9 e0.frames,.inr ⟨rfl,rfl⟩,fun b z=>absurd z (aT b),e0.bs,e0.bsz,fun b _ _=>aT b,fun b z=>absurd z (aT b),e0.funs,e0.frf⟩,
  rfl,e0.bare,Un.kept hk,⟨_,x.toInCall.ns,fun i y v h1 h2 h3=>?_⟩,fun y c h=>⟨_,x.cell y c h⟩,e0.hok.fresh (ig _),fun y c h=>?_,fun p hp=>absurd (show p∈([]:List (Addr×Obj)) from hp) (by simp),e0.hok.kept hk,?_⟩
 ·exact name_of_addr x.apart (mV h1) (mV h2)
 ·have hy:scope.names.lookup y=some .cell\/scope.names.lookup y=some .free:=hy;rcases hy with hy|hy
  ·exact A4 hy
  ·exact absurd rfl (S.nofree _ (mV hy))
 ·exact uB (x.above y c (mV h))
 ·have hi:i<vs.length:=by
   unfold mT at h2;by_cases hi:i<vs.length
   ·exact hi
   ·rw[BQ (by simpa using hi)] at h2;rw[qy] at h2;split at h2<;>cases h2
  have ha:vs[i]?=some v:=by
   unfold mT at h2;rw[BP (by simpa using hi),jd] at h2
   cases e:vs[i]? with
   |none=>rw[e] at h2;cases h2
   |some a=>rw[e] at h2;cases h2;rfl
  obtain⟨u,hu,rv⟩:=r.get ha
  have hp:ps[i]?=some y:=by
   rw[<-S.pre,List.getElem?_take_of_lt (by omega)];exact h1
  have ndP:ps.Nodup:=by rw[<-S.pre];exact S.nd.sublist (lZ _ _)
  refine⟨u,rv,?_⟩;rcases S.par y (uy hp) with k|k
  ·exact .inl ⟨k,xR ndP hp hu k⟩
  ·obtain⟨c,e⟩:=A4 (n:=s.heap.objs.size+1) k;refine .inr ⟨.inl k,c,e,?_⟩;have q:=x.cell y c e;rw[xX ndP hp hu (by show scope.names.lookup y≠_;rw[k];decide)] at q;exact q
 ·exact e0.hok.fresh (uB (x.above y c (mV h)))
 ·unfold mT;show _=N.length;rw[nX,jF,F8];omega
theorem Im{CX:CXT}{P:gC}{w:gy}{K:gA}{mg:jy}{base:gz}{k:Nat}{f:fZ}{name qual:Str}{params:Arguments}{body:List Stmt}{scope:iq}{dV kV doc pm c9 ct oc:gp}{an od:Option Addr}
  {t7:oj}{N ps:gG}{sp:Sp}(lk:K.lookup f=some ⟨oc,od,.func (PySem.W.fnOf name qual params body scope dV kV doc pm an c9 ct),t7⟩)(l5:PySem.W.codeIn K c9 qual=true)(S:FnScope N ps scope)
  (len: ∀vs H Q E,sp vs H Q E->vs.length=ps.length)
  (k8: ∀(A:gB) (outer:List Env) (s:gi) (H:Hp) (vs:List V) (Q:VK) (E:XK),Room k (A.deeper (envOfC qual scope s.heap.objs.size f c9))->sp vs H Q E->
   ∃t,PSs (my CX P w K mg base N qual scope f c9 A outer s H E) body t/\t {nx:=fun _ H'=>Q .non H',rt:=Q} (mT N vs) H):
  FnOk P w K mg base CX (k+1) f (PySem.W.fnOf name qual params body scope dV kV doc pm an c9 ct) ps sp:=by
 refine⟨len,fun A outer s H args us vs Q E hr e0 hb r bU=>?_⟩;have hl:=len _ _ _ _ bU;have KX:K.In s.heap:=e0.mod.kin.keeps fun b o e=>(e0.bs b o e).1;have lim:s.heap.NoLimit:=e0.mod.nolimit.keeps fun b o e=>(e0.bs b o e).1
 have aF: ∀y∈ps.zip us,scope.names.lookup y.1=some .local\/(scope.names.lookup y.1=some .cell/\((cellsFrom (s.heap.objs.size+1) scope.names []).lookup y.1).isSome=true):=fun⟨n,v⟩ hy=>by
  rcases S.par n (yD hy).1 with q|q
  ·exact .inl q
  ·exact .inr ⟨q,yC _ _ _ (.inl q)⟩
 refine F7 hr.depth (KX _ _ lk) rfl S.co S.gen rfl (PySem.W.codeRec_of KX l5) (hb _ _ _ _ ?_);refine F6 S.kind aF fun env he s1 x=>?_;subst he;refine⟨lim.keeps x.toInCall.keep,codeAny_func ?_⟩;obtain⟨t,ht,hq⟩:=k8 A outer s H vs Q E (hr.deeper _) bU;have I:Inv (my CX P w K mg base N qual scope f c9 A outer s H E) [] (mT N vs) H s1:=xv S hr.hd e0 hl r x;refine lM (ht [] s1 (mT N vs) H _ I hq) (fun fl s' hs=>?_) fun e s' hs=>hs
 have fin: ∀{σ':St} {H':Hp} {v:V} {u:gp},Inv (my CX P w K mg base N qual scope f c9 A outer s H E) [] σ' H' s'->RelV v u->Q v H'->CE outer P w H s Q u s':=
  fun {σ' H' v u} J rv q=>⟨v,H',J.os,J.bare,J.base,J.hok,rv,q⟩
 cases fl with
 |ret u=>
  obtain⟨v,σ',H',J,rv,q⟩:=hs;exact fin J rv q
 |next=>
  obtain⟨σ',H',J,q⟩:=hs;exact fin (v:=V.non) (u:=Value.none) J rfl q
 |brk=>
  obtain⟨_,_,_,q⟩:=hs;exact False.elim q
 |cont=>
  obtain⟨_,_,_,q⟩:=hs;exact False.elim q
section
variable {X:Cx}{x:Str}{p pos:Pos}{e:gm}{es:iL}{t:TA}{id T:String}{r:List V->Hp->VK->Prop}
def tCB(r:List V->Hp->VK->Prop)(t:TA):TE:=fun σ H Q=>t σ H fun vs H1=>r vs H1 Q
theorem qH(hc:iY X (.builtin id) r)(hg:Gl X x)(hm:X.mg x=none)(hv:bootBuiltins x=some (.builtin id))(ha:PA X (e::es) t)(hn:x≠"__name__":=by decide)(i7:(x==("__debug__":Str))=false:=by decide)
  (he:starEach (e::es) X.env=(false,eval e X.env)::starEach es X.env:=by rfl)(g6:(backTo pos (starEach es X.env)).any (·.1)=false:=by rfl):PE X (.Call (.Name x p) (e::es) [] pos) (tCB r t):=by
 intro pins s σ H Q I h;refine sU (oH I hg hm hv ?_ hn i7);exact PyProof.Rows.callWith_builtin1 (thn (ha pos pins s σ H _ I h) fun us s1 ⟨vs,H1,I1,r1,q1⟩=>hc pins s1 σ H1 vs us Q I1 r1 q1) he g6
theorem nk(hc:iY X (.type T) r)(hg:Gl X x)(hm:X.mg x=none)(hv:bootBuiltins x=some (.type T))(ha:PA X (e::es) t)(hn:x≠"__name__":=by decide)(i7:(x==("__debug__":Str))=false:=by decide)
  (he:starEach (e::es) X.env=(false,eval e X.env)::starEach es X.env:=by rfl)(g6:(backTo pos (starEach es X.env)).any (·.1)=false:=by rfl):PE X (.Call (.Name x p) (e::es) [] pos) (tCB r t):=by
 intro pins s σ H Q I h;refine sU (oH I hg hm hv ?_ hn i7);exact yF (thn (ha pos pins s σ H _ I h) fun us s1 ⟨vs,H1,I1,r1,q1⟩=>hc pins s1 σ H1 vs us Q I1 r1 q1) he g6
end
end L2
namespace HT
open PySem PyProof.Rows
section
open PySem.SeqAt
open PySem.AutoSeq1 (wpAny_loadPart')
open PySem.MeetsSeq PySem.MeetsSeq2 PySem.MeetsSeq3
end
section
variable {prog:gC}{w:gy}{A:gB}{E:gU}{s:gi}
theorem OC{t b:fZ}{vs ws:hJ}{Q:gU}(ht:IsTup s.heap t vs.toArray)(hb:IsTup s.heap b ws.toArray)(hv:vs≠[])
  (h1:ws=[]->Q (.ref t) s)(h2:ws≠[]->Q (.ref s.heap.objs.size) {s with heap:=s.heap.push {cls:= .type "tuple",data:= .seq (vs++ws).toArray}})
  (hsz:vs.length+ws.length<=sizeLine):wpAny (model prog w) A (binaryOp .Add (.ref t) (.ref b)) Q E s:=by
 obtain⟨⟨cls,dd,data,sl⟩,ho,hc,n,hd⟩:=id ht;obtain⟨⟨cC,t4,data2,m9⟩,n8,aL,n2,hd2⟩:=id hb;simp only at hc hd aL hd2;subst hc hd aL hd2;have e:vs.toArray++ws.toArray=(vs++ws).toArray:=by simp
 by_cases hw:ws=[]
 ·exact yB ⟨_,ho,rfl⟩ ⟨_,n8,rfl⟩ BO BN BM BL (BK _ _)
   (tuple_addW1 t b vs.toArray ws.toArray n n2 dd t4 sl m9 (by simpa using hv) (by simp[hw])) ⟨ho,n8,h1 hw⟩
 ·refine yB ⟨_,ho,rfl⟩ ⟨_,n8,rfl⟩ BO BN BM BL (BK _ _)
   (tuple_addW2 t b vs.toArray ws.toArray n n2 dd t4 sl m9 (by simpa using hv) (by simpa using hw) (by rw[iK,iK];exact hsz)) ⟨ho,n8,?_⟩
  rw[e];exact h2 hw
noncomputable def sIx(n d:Nat):Option Int->Nat
 |none=>d
 |some v=>if v<0 then(v+(n:Int)).toNat else min v.toNat n
theorem Nv(n d:Nat):sIx n d none=d:=rfl
theorem NU(n d k:Nat):sIx n d (some (k:Int))=min k n:=by
 show(if(k:Int)<0 then((k:Int)+(n:Int)).toNat else min (k:Int).toNat n)=min k n;rw[gv (by omega),uO]
theorem LD(n d:Nat)(hd:d<=n)(o:Option Int):sIx n d o<=n:=by
 cases o with
 |none=>exact hd
 |some v=>
  show(if v<0 then(v+(n:Int)).toNat else min v.toNat n)<=n;by_cases hv:v<0
  ·rw[gq hv];omega
  ·rw[gv hv];exact Nat.min_le_right _ _
theorem D7(v:Int)(n d:Nat):(if v<0 then max (v+(n:Int)) 0 else min v (n:Int))=((sIx n d (some v):Nat):Int):=by
 show(if v<0 then max (v+(n:Int)) 0 else min v (n:Int))=(((if v<0 then(v+(n:Int)).toNat else min v.toNat n):Nat):Int)
 by_cases hv:v<0
 ·simp only[gq hv];omega
 ·simp only[gv hv];omega
theorem C9(lo hi:Option Int)(n:Nat):Builtin.Slice.sliceAdjust lo hi 1 (n:Int)=(((sIx n 0 lo:Nat):Int),((sIx n n hi:Nat):Int)):=by
 have h1: ¬((1:Int)<0):=by omega
 unfold Builtin.Slice.sliceAdjust;simp only[h1,iJ];refine Prod.ext ?_ ?_
 ·cases lo with
  |none=>rfl
  |some v=>exact D7 v n 0
 ·cases hi with
  |none=>rfl
  |some v=>exact D7 v n n
theorem Ci(i j:Nat):Builtin.Slice.slicePlaces (i:Int) (j:Int) 1=j-i:=by
 unfold Builtin.Slice.slicePlaces;have h1:(1:Int)>0:=by omega
 simp only[h1,hV,Int.ediv_one];split<;>omega
theorem va{v:gp}{o:Option Int}{Q:Option Int->Shared->Prop}(p:IsPart v o)(h:Q o s):wpAny (model prog w) A (Builtin.Slice.slicePartIndex v) Q E s:=by
 cases p with
 |none=>exact slicePart_none h
 |int i t=>exact slicePart_int h
theorem nh{sl:fZ}{vl vu:gp}{lo hi:Option Int}{n:Nat}{Q:Int×Int×Nat->Shared->Prop}(hs:s.heap.IsSliceOf sl vl vu .none)(pl:IsPart vl lo)(pu:IsPart vu hi)
  (h:Q (((sIx n 0 lo:Nat):Int),1,sIx n n hi-sIx n 0 lo) s):wpAny (model prog w) A (Builtin.Slice.sliceApplied (.ref sl) (pure (n:Int))) Q E s:=by
 obtain⟨os,bY,bK,dg⟩:=id hs;unfold Builtin.Slice.sliceApplied Builtin.Slice.sliceFields;refine gk (gk (lY bY dg (x:=vl) rfl (gk (lY bY dg (x:=vu) rfl (gk (lY bY dg (x:= .none) rfl (gF ?_)))))));refine gk (slicePart_none ?_);show wpAny _ _ (if((1:Int)==0)=true then _ else _) _ _ s;rw[gv (by decide)];refine gk (va pl (gk (va pu (gk (gF ?_)))));show wpAny _ _ (match Builtin.Slice.sliceAdjust lo hi 1 (n:Int) with|(lo,hi)=>pure (lo,(1:Int),Builtin.Slice.slicePlaces lo hi 1)) _ _ s;rw[C9 lo hi n];show wpAny _ _ (pure (((sIx n 0 lo:Nat):Int),(1:Int),Builtin.Slice.slicePlaces ((sIx n 0 lo:Nat):Int) ((sIx n n hi:Nat):Int) 1)) _ _ s;rw[Ci];exact gF h
theorem Hm(xs:jI)(i k:Nat):((List.range k).filterMap fun(m:Nat)=>xs[((i:Int)+(m:Int)*1).toNat]?).toArray=((xs.toList.drop i).take k).toArray:=by
 have e:(fun(m:Nat)=>xs[((i:Int)+(m:Int)*1).toNat]?)=fun m=>xs[i+m]?:=by
  funext m;have:((i:Int)+(m:Int)*1).toNat=i+m:=by omega
  rw[this]
 rw[e];have:=pick_run xs i k;rw[List.filterMap_map] at this;have e2:((fun x=>xs[x]?)∘fun x=>i+x)=fun m=>xs[i+m]?:=rfl;rw[e2] at this;rw[this]
theorem CD{t sl:fZ}{items:jI}{vl vu:gp}{lo hi:Option Int}{Q:gU}(ht:IsTup s.heap t items)(hs:s.heap.IsSliceOf sl vl vu .none)(pl:IsPart vl lo)(pu:IsPart vu hi)
  (hw: ¬(sIx items.size 0 lo=0/\sIx items.size items.size hi=items.size))
  (h:Q (.ref s.heap.objs.size) {s with heap:=s.heap.push {cls:= .type "tuple",data:= .seq ((items.toList.drop (sIx items.size 0 lo)).take (sIx items.size items.size hi-sIx items.size 0 lo)).toArray}})
  (hsz:items.size<=sizeLine):wpAny (model prog w) A (getItem (.ref t) (.ref sl)) Q E s:=by
 have x9:sizeOk (.seq ((items.toList.drop (sIx items.size 0 lo)).take (sIx items.size items.size hi-sIx items.size 0 lo)).toArray):=by
  show((items.toList.drop (sIx items.size 0 lo)).take (sIx items.size items.size hi-sIx items.size 0 lo)).toArray.size<=sizeLine;rw[iK,pN,List.length_drop,ma];omega
 have hj:sIx items.size items.size hi<=items.size:=LD _ _ (ig _) hi;obtain⟨os,bY,bK,dg⟩:=id hs;have fI:s.TypeIs (.ref sl) "slice":=⟨os,bY,bK⟩
 unfold getItem
 try with_reducible refine mX ?_
 first|refine gk (gF ?_)|skip
 refine gk (wpAny_sequenceKey ht.typeIs (by decide) ?_)
 refine gk (sT (name:=Str.ofString "__getitem__") ht.typeIs wu
  (pM wu ht.typeIs F5 ?_ (args_tuple_getitem _ _)))
 show wpAny _ _ (Builtin.Tuple.tupleItemsOf (.ref t)>>=_) _ _ s;refine gk (tupleItemsOf_ ht ?_);refine gk (rO fI ?_);rw[gq (by decide)];refine gk (nh hs pl pu ?_)
 have hno: ¬((((sIx items.size 0 lo:Nat):Int)==0&&(1:Int)==1&&(sIx items.size items.size hi-sIx items.size 0 lo)==items.size)=true):=by
  intro q;rw[lE,lE] at q;have q1:((sIx items.size 0 lo:Nat):Int)=0:=qx q.1.1;have q2:sIx items.size items.size hi-sIx items.size 0 lo=items.size:=qx q.2;exact hw ⟨by omega,by omega⟩
 show wpAny _ _ (if(((sIx items.size 0 lo:Nat):Int)==0&&(1:Int)==1&&(sIx items.size items.size hi-sIx items.size 0 lo)==items.size)=true then _ else _) _ _ s;rw[gv hno,Hm]
 first
  |exact gk (m:=Builtin.Tuple.tupleExact _) (mD (gF ⟨_,rfl,gF h⟩) x9)
  |exact gk (m:=Builtin.Tuple.tupleExact _) (mD (gk (gF (gF ⟨_,rfl,gF h⟩))) x9)
  |exact gk (gk (m:=Builtin.Tuple.tupleExact _) (mD (gF (gF ⟨_,rfl,gF h⟩)) x9))
  |exact gk (gk (m:=Builtin.Tuple.tupleExact _) (mD (gF ⟨_,rfl,gF h⟩) x9))
end
end HT
namespace L2
open PySem PySem.Spec PyProof.Rows
abbrev TO:=St->Hp->(Option Int->Hp->Prop)->Prop
def PO(X:Cx)(e:Option Expr)(t:TO):Prop:=
 ∀(pins:gO) (s:gi) (σ:St) (H:Hp) (Q:Option Int->Hp->Prop),Inv X pins σ H s->t σ H Q->
  wpAny (model X.prog X.w) X.A (evalPart e X.env) (fun u s'=> ∃o H',Inv X pins σ H' s'/\IsPart u o/\Q o H') X.xe s
noncomputable def Jl:TO:=fun _ H Q=>Q none H
def NJ(t:TE):TO:=fun σ H Q=>t σ H fun x H1=> ∃i,x= .int i/\Q (some i) H1
section
variable {X:Cx}{e:gm}{te:TE}{lo hi:Option Expr}{tl th:TO}{pos p2:Pos}
theorem JR:PO X none Jl:=by
 intro pins s σ H Q I h;rw[evalPart_none];exact gF ⟨none,H,I,.none,h⟩
theorem JQ(h:PE X e te):PO X (some e) (NJ te):=by
 intro pins s σ H Q I hw;rw[evalPart_some];refine thn (h pins s σ H _ I hw) fun u s1 ⟨x,H1,I1,r1,q1⟩=>?_;obtain⟨i,rfl,q⟩:=q1;obtain⟨t,rfl⟩:=r1;exact⟨some i,H1,I1,.int i t,q⟩
def SlR(X:Cx)(r:V->Option Int->Option Int->Hp->VK->Prop):Prop:=
 ∀(pins:gO) (s:gi) (σ:St) (H:Hp) (x:V) (v vl vu:gp) (lo hi:Option Int) (sl:fZ) (Q:VK),Inv X pins σ H s->RelV x v->s.heap.IsSliceOf sl vl vu .none->IsPart vl lo->IsPart vu hi->r x lo hi H Q->
  ∃T id,typeLookup (.type T) "__getitem__"=pure (some (.builtin id))/\s.TypeIs v T/\wpAny (model X.prog X.w) X.A (getItem v (.ref sl)) (EP X pins σ Q) X.xe s
def tSl(r:V->Option Int->Option Int->Hp->VK->Prop)(te:TE)(tl th:TO):TE:=fun σ H Q=>te σ H fun x H1=>tl σ H1 fun l H2=>th σ H2 fun u H3=>r x l u H3 Q
theorem Hu{r:V->Option Int->Option Int->Hp->VK->Prop}(hr:SlR X r)(he:PE X e te)(hl:PO X lo tl)(hu:PO X hi th):PE X (.Subscript e (.Slice lo hi none p2) pos) (tSl r te tl th):=by
 intro pins s σ H Q I h;refine Subscript_ (thn (he pins s σ H _ I h) fun v s1 ⟨x,H1,I1,r1,q1⟩=>?_);refine wpAny_Slice (thn (hl pins s1 σ H1 _ I1 q1) fun vl s2 ⟨l,H2,I2,pl,q2⟩=>thn (hu pins s2 σ H2 _ I2 q2) fun vu s3 ⟨u,H3,I3,pu,q3⟩=>?_);rw[evalPart_none];refine gF ?_;have I4:Inv X pins σ H3 {s3 with heap:=s3.heap.push {cls:= .type "slice",data:= .fields #[vl,vu,.none]}}:=I3.kept (t':=s3.toks) fun b ob q=>iM _ q;obtain⟨T,id,hT,ht,hg⟩:=hr pins {s3 with heap:=s3.heap.push {cls:= .type "slice",data:= .fields #[vl,vu,.none]}} σ H3 x v vl vu l u s3.heap.objs.size Q I4 r1 (Heap.IsSliceOf.new ..) pl pu q3;show wpAny (model X.prog X.w) X.A (subscriptTail e (.Slice lo hi none p2) v (.ref s3.heap.objs.size)) (EP X pins σ Q) X.xe {s3 with heap:=s3.heap.push {cls:= .type "slice",data:= .fields #[vl,vu,.none]}};exact tail_any (ops:=[.ref s3.heap.objs.size,v]) ht hT hg (by with_unfolding_all rfl)
noncomputable def AY(xs:List V)(lo hi:Option Int):List V:=(xs.drop (HT.sIx xs.length 0 lo)).take (HT.sIx xs.length xs.length hi-HT.sIx xs.length 0 lo)
theorem tH(xs:List V)(lo hi:Option Int):(AY xs lo hi).length<=xs.length:=by
 unfold AY;rw[pN,List.length_drop];omega
def Qg(K:gA):V->Option Int->Option Int->Hp->VK->Prop:=fun x lo hi H Q=> ∃a xs,x= .ref a/\SqT K H a xs/\
 ¬(HT.sIx xs.length 0 lo=0/\HT.sIx xs.length xs.length hi=xs.length)/\ ∀p,H p=none->Q (.ref p) (upd H p (.tup (AY xs lo hi)))
theorem Lx:SlR X (Qg X.K):=by
 intro pins s σ H x v vl vu lo hi sl Q I rx hs pl pu h;obtain⟨a,xs,rfl,hx,hw,q⟩:=h;cases rx;obtain⟨its,r,ht,hz⟩:=I.tuple hx;have hlen:its.toArray.size=xs.length:=by rw[iK];exact r.length.symm
 refine⟨"tuple",_,wu.lookup,ht.typeIs,?_⟩;refine HT.CD ht hs pl pu (by rw[hlen];exact hw) ?_ (by rw[hlen];exact hz);rw[hlen];refine⟨.ref s.heap.objs.size,_,I.laid (t':=s.toks) (o:= .tup (AY xs lo hi)) (fun b ob q=>iM _ q) (ig _) ?_,rfl,q _ (I.hok.fresh (ig _))⟩;exact⟨mE (tH xs lo hi) hz,_,(r.drop (HT.sIx xs.length 0 lo)).take (HT.sIx xs.length xs.length hi-HT.sIx xs.length 0 lo),uQ _ _⟩
def N3(K:gA):R2:=fun x y H Q=> ∃a b xs ys,x= .ref a/\y= .ref b/\SqT K H a xs/\SqT K H b ys/\xs≠[]/\xs.length+ys.length<=sizeLine/\
 (ys=[]->Q (.ref a) H)/\(ys≠[]-> ∀p,H p=none->Q (.ref p) (upd H p (.tup (xs++ys))))
theorem Vals.nil_iff{xs:List V}{us:hJ}(r:Vals xs us):us=[]↔xs=[]:=by
 cases r with
 |nil=>simp
 |cons _ _=>simp
theorem J5:OpR X (binaryOp .Add) (N3 X.K):=by
 intro pins s σ H x y v u Q I rx ry h;obtain⟨a,b,xs,ys,rfl,rfl,ha,hb,hx,hz,q1,q2⟩:=h;cases rx;cases ry;obtain⟨its,r1,p1,_⟩:=I.tuple ha;obtain⟨d6,r2,p2,_⟩:=I.tuple hb;refine HT.OC p1 p2 (fun z=>hx (r1.nil_iff.mp z)) (fun z=>⟨.ref a,H,I,rfl,q1 (r2.nil_iff.mp z)⟩) (fun z=>?_) (by rw[<-r1.length,<-r2.length];exact hz);refine⟨.ref s.heap.objs.size,_,I.laid (t':=s.toks) (o:= .tup (xs++ys)) (fun b ob q=>iM _ q) (ig _) ?_,rfl,q2 (fun w=>z (r2.nil_iff.mpr w)) _ (I.hok.fresh (ig _))⟩;exact⟨by rw[nX];exact hz,_,r1.append r2,uQ _ _⟩
end
noncomputable def ixN(n:Nat)(i:Int):Option Nat:=if 0<=i then(if i<n then some i.toNat else none) else if -(n:Int)<=i then some (i+n).toNat else none
noncomputable def atI{α:Type}(xs:List α)(i:Int):Option α:=(ixN xs.length i).bind fun j=>xs[j]?
theorem zj{n:Nat}{i:Int}{j:Nat}(h:ixN n i=some j):seqIndex? i n=some j/\j<n/\ -(n:Int)<=i/\i<n:=by
 unfold ixN at h;by_cases h0:0<=i
 ·rw[gq h0] at h;by_cases h1:i<n
  ·rw[gq h1] at h;have e:i.toNat=j:=iw h;exact⟨by rw[BJ h0 h1,e],by omega,by omega,h1⟩
  ·rw[gv h1] at h;cases h
 ·rw[gv h0] at h;by_cases h1: -(n:Int)<=i
  ·rw[gq h1] at h;have e:(i+n).toNat=j:=iw h;exact⟨by rw[BI (by omega) h1,e],by omega,h1,by omega⟩
  ·rw[gv h1] at h;cases h
theorem Ee{α:Type}{xs:List α}{i:Int}{v:α}(h:atI xs i=some v): ∃j,seqIndex? i xs.length=some j/\xs[j]?=some v/\j<xs.length/\ -(xs.length:Int)<=i/\i<xs.length:=by
 unfold atI at h
 cases e:ixN xs.length i with
 |none=>rw[e] at h;cases h
 |some j=>
  rw[e] at h;obtain⟨h1,h2,h3,h4⟩:=zj e;exact⟨j,h1,h,h2,h3,h4⟩
def zH(b:gm):Prop:= ∀o i,subscripted b false o i=operate [o,i] (getItem o i)
def IxR(X:Cx)(r:R2):Prop:=
 ∀(value slice:gm) (pins:gO) (s:gi) (σ:St) (H:Hp) (x y:V) (v u:gp) (Q:VK),Inv X pins σ H s->RelV x v->RelV y u->r x y H Q->
  subscripted slice false v u=operate [v,u] (getItem v u)->wpAny (model X.prog X.w) X.A (subscriptTail value slice v u) (EP X pins σ Q) X.xe s
def MtR(X:Cx)(id:String)(r:V->List V->Hp->VK->Prop):Prop:=
 ∀(pins:gO) (s:gi) (σ:St) (H:Hp) (x:V) (xs:List V) (v:gp) (us:hJ) (Q:VK),Inv X pins σ H s->RelV x v->Vals xs us->r x xs H Q->
  wpAny (model X.prog X.w) X.A (call (.builtin id) (v::us)) (EP X pins σ Q) X.xe s
section
variable {X:Cx}{a b:gm}{ta tb:TE}{pos:Pos}
theorem Oa{r:R2}(hr:IxR X r)(ha:PE X a ta)(hb:PE X b tb)(hs:zH b):PE X (.Subscript a b pos) (tOp r ta tb):=by
 intro pins s σ H Q I h;exact Subscript_ (Nl ha hb I h fun v u s2 x y H2 I2 rx ry q=>hr a b pins s2 σ H2 x y v u Q I2 rx ry q (hs _ _))
def Ql(K:gA):R2:=fun x y H Q=> ∃p xs i v,x= .ref p/\y= .int i/\SqL K H p xs/\atI xs i=some v/\Q v H
def Qk(K:gA):R2:=fun x y H Q=> ∃p xs i v,x= .ref p/\y= .int i/\SqT K H p xs/\atI xs i=some v/\Q v H
theorem Ki:IxR X (Ql X.K):=by
 intro value slice pins s σ H x y v u Q I rx ry h hs;obtain⟨p,xs,i,z,rfl,rfl,hq,he,q⟩:=h;cases rx;obtain⟨t,rfl⟩:=ry;obtain⟨its,r,pl,hz⟩:=I.list hq;obtain⟨j,h1,h2,h3,h4,h5⟩:=Ee he;obtain⟨w,ew,y9⟩:=r.get h2;have hl:=r.length;have hn:=zg;have fin:EP X pins σ Q w s:=⟨z,H,I,y9,q⟩
 by_cases h0:0<=i
 ·have hj:i.toNat=j:=by
   rw[BJ h0 h5] at h1;exact iw h1
  exact item_listR pl.isList h0 (by omega) (by rw[hj];simpa using ew) fin hs
 ·have hj:(i+(its.toArray.size:Int)).toNat=j:=by
   rw[BI (by omega) h4] at h1;rw[iK,<-hl];exact iw h1
  exact F4 (x:=w) pl.isList.typeIs slot_list_getitem.lookup
   (wpAny_getItem_list_neg (Q:=fun r s'=>r=w/\EP X pins σ Q r s') pl.isList (by omega) (by rw[iK]<;>omega) (by omega) (by rw[hj];simpa using ew) ⟨rfl,fin⟩) hs
theorem MT:IxR X (Qk X.K):=by
 intro value slice pins s σ H x y v u Q I rx ry h hs;obtain⟨p,xs,i,z,rfl,rfl,hq,he,q⟩:=h;cases rx;obtain⟨t,rfl⟩:=ry;obtain⟨its,r,pl,hz⟩:=I.tuple hq;obtain⟨j,h1,h2,h3,h4,h5⟩:=Ee he;obtain⟨w,ew,y9⟩:=r.get h2;have hl:=r.length;have hn:=zg;have fin:EP X pins σ Q w s:=⟨z,H,I,y9,q⟩
 exact F4 (x:=w) pl.typeIs slot_tuple_getitem.lookup
  (getItem_tuple (j:=j) (Q:=fun r s'=>r=w/\EP X pins σ Q r s') pl (by omega) (by omega) (by rw[iK,<-hl];exact h1) (by simpa using ew) ⟨rfl,fin⟩) hs
theorem Cu(its:hJ)(n j:Nat)(u:gp):Obj.mapSeq (·.setIfInBounds j u) {cls:= .type "list",data:= .seq its.toArray n}={cls:= .type "list",data:= .seq (its.set j u).toArray n}:=by
 simp[Obj.mapSeq]
theorem Inv.lst{pins:gO}{σ:St}{H:Hp}{s:gi}{p:fZ}{xs:List V}(I:Inv X pins σ H s)(h:H p=some (.lst xs)):
  ∃(its:hJ) (n:Nat),Vals xs its/\s.heap.get? p=some {cls:= .type "list",data:= .seq its.toArray n}/\xs.length<=sizeLine:=by
 obtain⟨z,its,n,r,e⟩:=I.hok p _ h;exact⟨its,n,r,e,z⟩
theorem Inv.lstUpd{pins:gO}{σ:St}{H:Hp}{s:gi}{p:fZ}{xs ys:List V}{its its':hJ}{n n':Nat}{f:Obj->Obj}(I:Inv X pins σ H s)(h:H p=some (.lst xs))
  (ho:s.heap.get? p=some {cls:= .type "list",data:= .seq its.toArray n})(hf:f {cls:= .type "list",data:= .seq its.toArray n}={cls:= .type "list",data:= .seq its'.toArray n'})(r:Vals ys its')(hz:ys.length<=sizeLine)(t:Nat):
  Inv X pins σ (upd H p (.lst ys)) {s with heap:=s.heap.update p f,toks:=t}:=by
 have e:(s.heap.update p f).get? p=some {cls:= .type "list",data:= .seq its'.toArray n'}:=by
  rw[uN f ho (by rw[hf]<;>rfl),hf]
 refine I.write (x:=p) (e:=p) (by rw[h];trivial) (.inl rfl) (fun b u hb q=>(yA _ _ (lN hb)).trans q) ⟨_,e⟩ ?_;exact⟨hz,its',n',r,e⟩
def N0:V->V->V->Hp->(Hp->Prop)->Prop:=fun o i v H Q=> ∃p xs k j,o= .ref p/\i= .int k/\H p=some (.lst xs)/\ixN xs.length k=some j/\Q (upd H p (.lst (xs.set j v)))
theorem GL:Nt X N0:=by
 intro pins s σ H o i v ov iv u Q I ro ri rv h;obtain⟨p,xs,k,j,rfl,rfl,hp,hj,q⟩:=h;cases ro;obtain⟨t,rfl⟩:=ri;obtain⟨its,n,r,ho,hz⟩:=I.lst hp;obtain⟨h1,h2,h3,h4⟩:=zj hj;have hl:=r.length;have hn:=zg
 have I':Inv X pins σ (upd H p (.lst (xs.set j v))) {s with heap:=s.heap.update p (Obj.mapSeq (·.setIfInBounds j u))}:=
  I.lstUpd hp ho (Cu its n j u) (r.set rv j) (by rw[oq];exact hz) s.toks
 by_cases h0:0<=k
 ·have hk:k.toNat=j:=by
   rw[BJ h0 h4] at h1;exact iw h1
  exact PySem.W.ki_setAt ho h0 (by omega) (by rw[iK,<-hl];exact h4) (by rw[hk];exact⟨_,I',q⟩)
 ·have hk:(k+(its.toArray.size:Int)).toNat=j:=by
   rw[BI (by omega) h3] at h1;rw[iK,<-hl];exact iw h1
  exact PySem.W.ki_setBack ho (by omega) (by rw[iK,<-hl];exact h3) (by omega) (by rw[hk];exact⟨_,I',q⟩)
theorem yQ(lo hi:Option Int)(n:Nat):(sliceBounds lo hi none n).1=((HT.sIx n 0 lo:Nat):Int)/\(sliceBounds lo hi none n).2.1=((HT.sIx n n hi:Nat):Int)/\(sliceBounds lo hi none n).2.2=1:=by
 refine⟨?_,?_,rfl⟩
 ·cases lo with
  |none=>simp[sliceBounds,HT.sIx]
  |some i=>
   simp only[sliceBounds,HT.sIx,Option.getD_none,show(1:Int)>0 by decide,hV];by_cases h:i<0
   ·simp only[h,hV]<;>omega
   ·simp only[h,iJ]<;>omega
 ·cases hi with
  |none=>simp[sliceBounds,HT.sIx]
  |some i=>
   simp only[sliceBounds,HT.sIx,Option.getD_none,show(1:Int)>0 by decide,hV];by_cases h:i<0
   ·simp only[h,hV]<;>omega
   ·simp only[h,iJ]<;>omega
theorem wy(its:hJ)(lo hi:Option Int):slicePick its.toArray lo hi none=((its.drop (HT.sIx its.length 0 lo)).take (HT.sIx its.length its.length hi-HT.sIx its.length 0 lo)).toArray:=by
 obtain⟨h1,h2,h3⟩:=yQ lo hi its.toArray.size;unfold slicePick;rw[h1,h2,h3];simp only[sliceRange_one,pick_run,iK]<;>rfl
def Qh(K:gA):V->Option Int->Option Int->Hp->VK->Prop:=fun x lo hi H Q=> ∃a xs,x= .ref a/\SqL K H a xs/\ ∀p,H p=none->Q (.ref p) (upd H p (.lst (AY xs lo hi)))
theorem Jm:SlR X (Qh X.K):=by
 intro pins s σ H x v vl vu lo hi sl Q I rx hs pl pu h;obtain⟨a,xs,rfl,hx,q⟩:=h;cases rx;obtain⟨its,r,ht,hz⟩:=I.list hx;have hlen:=r.length;refine⟨"list",_,slot_list_getitem.lookup,ht.isList.typeIs,?_⟩;refine wpAny_getItem_list_slice ht.isList hs pl pu .none (by simp) ?_ (by rw[iK]<;>omega);rw[wy,<-hlen];refine⟨.ref s.heap.objs.size,_,I.laid (t':=s.toks) (o:= .lst (AY xs lo hi)) (fun b ob q=>iM _ q) (ig _) ?_,rfl,q _ (I.hok.fresh (ig _))⟩;exact⟨mE (tH xs lo hi) hz,_,0,(r.drop (HT.sIx xs.length 0 lo)).take (HT.sIx xs.length xs.length hi-HT.sIx xs.length 0 lo),jx _ rfl⟩
noncomputable def La:V->Bool
 | .non=>true
 | .bl _=>true
 | .int _=>true
 | .str _=>true
 |_=>false
noncomputable def eqV:V->V->Bool
 | .non,.non=>true
 | .bl a,.bl b=>a==b
 | .bl a,.int b=>(if a then 1 else 0)==b
 | .int a,.bl b=>a==(if b then 1 else 0)
 | .int a,.int b=>a==b
 | .str a,.str b=>a==b
 |_,_=>false
theorem kD{A:gB}{s:gi}{y x:V}{u v:gp}(ry:RelV y u)(rx:RelV x v)(fy:La y=true)(fx:La x=true):SeqAt.EqAt A s u v (eqV y x):=by
 cases y with
 |non=>
  cases ry
  cases x with
  |non=>cases rx;exact SeqAt.EqAt.same _
  |bl b=>cases rx;exact SeqAt.EqAt.none_bool b
  |int b=>obtain⟨t,rfl⟩:=rx;exact SeqAt.EqAt.none_int b t
  |str b=>obtain⟨t,rfl⟩:=rx;exact SeqAt.EqAt.none_str b t
  |_=>exact absurd (show false=true from fx) iU
 |bl a=>
  cases ry
  cases x with
  |non=>cases rx;exact SeqAt.EqAt.bool_none a
  |bl b=>cases rx;exact SeqAt.EqAt.bool_bool a b
  |int b=>obtain⟨t,rfl⟩:=rx;exact SeqAt.EqAt.bool_int a b t
  |str b=>obtain⟨t,rfl⟩:=rx;exact SeqAt.EqAt.bool_str a b t
  |_=>exact absurd (show false=true from fx) iU
 |int a=>
  obtain⟨t',rfl⟩:=ry
  cases x with
  |non=>cases rx;exact SeqAt.EqAt.int_none a t'
  |bl b=>cases rx;exact SeqAt.EqAt.int_bool a t' b
  |int b=>obtain⟨t,rfl⟩:=rx;exact SeqAt.EqAt.int_int a t' b t
  |str b=>obtain⟨t,rfl⟩:=rx;exact SeqAt.EqAt.int_str a t' b t
  |_=>exact absurd (show false=true from fx) iU
 |str a=>
  obtain⟨t',rfl⟩:=ry
  cases x with
  |non=>cases rx;exact SeqAt.EqAt.str_none a t'
  |bl b=>cases rx;exact SeqAt.EqAt.str_bool a t' b
  |int b=>obtain⟨t,rfl⟩:=rx;exact SeqAt.EqAt.str_int a t' b t
  |str b=>obtain⟨t,rfl⟩:=rx;exact SeqAt.EqAt.str_str a t' b t
  |_=>exact absurd (show false=true from fx) iU
 |_=>exact absurd (show false=true from fy) iU
theorem qY:iY X (.builtin "len") (fun xs H Q=> ∃p ys,xs=[.ref p]/\(SqL X.K H p ys\/SqT X.K H p ys)/\Q (.int ys.length) H):=by
 intro pins s σ H xs us Q I r h;obtain⟨p,ys,rfl,hq,q⟩:=h;obtain⟨u,rfl,rx⟩:=pP r;cases rx;have hn:=zg;rcases hq with hq|hq
 ·obtain⟨its,r',pl,hz⟩:=I.list hq;have hlen:=r'.length;exact Calls.call_len_list pl.isList (by simp only[iK]<;>omega) ⟨.int ys.length,H,I.tok _,⟨s.toks+1,by rw[iK,hlen]⟩,q⟩
 ·obtain⟨its,r',pl,hz⟩:=I.tuple hq;have hlen:=r'.length;exact len_tuple pl (by simp only[iK]<;>omega) ⟨.int ys.length,H,I.tok _,⟨s.toks+1,by rw[iK,hlen]⟩,q⟩
theorem qX:iY X (.type "list") (fun xs H Q=> ∃p ys,xs=[.ref p]/\(SqL X.K H p ys\/SqT X.K H p ys)/\ ∀l,H l=none->Q (.ref l) (upd H l (.lst ys))):=by
 intro pins s σ H xs us Q I r h;obtain⟨p,ys,rfl,hq,q⟩:=h;obtain⟨u,rfl,rx⟩:=pP r;cases rx
 have fin: ∀(its:hJ),Vals ys its->ys.length<=sizeLine-> ∀(h':gz) (c':Nat),(∀b o',s.heap.get? b=some o'->h'.get? b=some o')->
   h'.get? s.heap.objs.size=some {cls:= .type "list",dict:=none,data:= .seq its.toArray c',slots:= #[]}->EP X pins σ Q (.ref s.heap.objs.size) {s with heap:=h'}:=fun its r' hz h' c' kp e=>
  ⟨.ref s.heap.objs.size,_,I.laid (t':=s.toks) kp (ig _) (show ObjOk X.prog X.w _ h' _ (.lst ys) from⟨hz,its,c',r',e⟩),rfl,q _ (I.hok.fresh (ig _))⟩
 rcases hq with hq|hq
 ·obtain⟨its,r',pl,hz⟩:=I.list hq;have hlen:=r'.length;obtain⟨o,ho,hc,n,hd⟩:=pl.isList;exact call_list_seq p (.inl rfl) ho hc hd (fun h' c' kp e=>fin its r' hz h' c' kp e) (by simp only[iK]<;>omega)
 ·obtain⟨its,r',pl,hz⟩:=I.tuple hq;have hlen:=r'.length;obtain⟨o,ho,hc,n,hd⟩:=pl;exact call_list_seq p (.inr rfl) ho hc hd (fun h' c' kp e=>fin its r' hz h' c' kp e) (by simp only[iK]<;>omega)
theorem pY:iY X (.type "tuple") (fun xs H Q=> ∃p ys,xs=[.ref p]/\((SqL X.K H p ys/\ ∀l,H l=none->Q (.ref l) (upd H l (.tup ys)))\/(SqT X.K H p ys/\Q (.ref p) H))):=by
 intro pins s σ H xs us Q I r h;obtain⟨p,ys,rfl,h⟩:=h;obtain⟨u,rfl,rx⟩:=pP r;cases rx;rcases h with⟨hq,q⟩|⟨hq,q⟩
 ·obtain⟨its,r',pl,hz⟩:=I.list hq;have hlen:=r'.length;refine call_tuple_list pl.isList (fun h' kp=>?_) (by simp only[iK]<;>omega);have I1:Inv X pins σ H {s with heap:=h'}:=I.kept (t':=s.toks) kp
  have I2:Inv X pins σ (upd H h'.objs.size (.tup ys)) {s with heap:=h'.push {cls:= .type "tuple",data:= .seq its.toArray}}:=
   I1.laid (t':=s.toks) (fun b o e=>iM _ e) (ig _) (show ObjOk X.prog X.w _ _ _ (.tup ys) from⟨hz,its,r',uQ _ _⟩)
  exact⟨.ref h'.objs.size,_,I2,rfl,q _ (I1.hok.fresh (ig _))⟩
 ·obtain⟨its,r',pl,hz⟩:=I.tuple hq;exact call_tuple_same pl ⟨.ref p,H,I,rfl,q⟩
def tyV(K:gA)(T:String)(x:V)(H:Hp):Prop:=match x with
 | .str _=>T="str"
 | .int _=>T="int"
 | .ref p=>(T="list"/\ ∃xs,SqL K H p xs)\/(T="tuple"/\ ∃o,K.lookup p=some o/\o.cls= .type "tuple"/\o.dict=none)\/
   (T="dict"/\((∃kvs,H p=some (.dK kvs))\/ ∃kvs,H p=some (.dT kvs)))\/(T="set"/\ ∃S n,H p=some (.set S n))
 |_=>False
theorem Gs{pins:gO}{σ:St}{H:Hp}{s:gi}{T:String}{x:V}{v:gp}(I:Inv X pins σ H s)(r:RelV x v)(ty:tyV X.K T x H):
  s.TypeIs v T/\ ∀a,v= .ref a-> ∃ob,s.heap.get? a=some ob/\ob.dict=none:=by
 cases x with
 |str z=>
  obtain⟨t,rfl⟩:=r;cases(show T="str" from ty);exact⟨typeIs_str s z t,fun _ e=>nomatch e⟩
 |int i=>
  obtain⟨t,rfl⟩:=r;cases(show T="int" from ty);exact⟨typeIs_int s i t,fun _ e=>nomatch e⟩
 |ref p=>
  cases r;rcases ty with⟨rfl,xs,hq⟩|⟨rfl,o,hk,hc,hd⟩|⟨rfl,hk⟩|⟨rfl,S,n,hk⟩
  ·obtain⟨its,_,pl,_⟩:=I.list hq;refine⟨pl.isList.typeIs,fun a e=>?_⟩;cases e;obtain⟨o,n,e,c,hd,_⟩:=pl;exact⟨o,e,hd⟩
  ·refine⟨⟨o,I.kIn p o hk,hc⟩,fun a e=>?_⟩;cases e;exact⟨o,I.kIn _ o hk,hd⟩
  ·have z: ∃o,s.heap.get? p=some o/\o.ExactDict:=by
    rcases hk with⟨kvs,hk⟩|⟨kvs,hk⟩
    ·obtain⟨_,_,_,_,o,_,_,e,ex,_⟩:=I.hok p _ hk;exact⟨o,e,ex⟩
    ·obtain⟨_,_,_,_,o,_,_,e,ex,_⟩:=I.hok p _ hk;exact⟨o,e,ex⟩
   obtain⟨o,e,ex⟩:=z;refine⟨⟨o,e,ex.1⟩,fun a e2=>?_⟩;cases e2;exact⟨o,e,ex.2.1⟩
  ·obtain⟨o,_,_,_,e,ex,_⟩:=I.hok p _ hk;refine⟨⟨o,e,ex.1⟩,fun a e2=>?_⟩;cases e2;exact⟨o,e,ex.2.1⟩
 |_=>exact False.elim ty
def Po(K:gA)(T:String)(r:V->List V->Hp->VK->Prop)(to:TE):TE:=fun σ H Q=>to σ H fun x H1=>tyV K T x H1/\r x [] H1 Q
def tBM(K:gA)(T:String)(r:V->List V->Hp->VK->Prop)(to:TE)(t:TA):TE:=fun σ H Q=>to σ H fun x H1=>tyV K T x H1/\t σ H1 fun xs H2=>r x xs H2 Q
variable {o e:gm}{es:iL}{to:TE}{t:TA}{name:Str}{apos f9:Pos}{T id:String}{r:V->List V->Hp->VK->Prop}
theorem Mz(pa:PlainAttrs T)(slot:Slot T name id)(eP:typeOf (.builtin id)=pure (.type "method_descriptor"))(hm:MtR X id r)(ho:PE X o to)
  (g8:attributeBase o name X.env (eval o X.env)=eval o X.env:=by rfl)(g7:(apos.endLine==f9.line)=true:=by rfl):PE X (.Call (.Attribute o name apos) [] [] f9) (Po X.K T r to):=by
 intro pins s σ H Q I h;refine wpAny_Call_method0_late g8 g7 (thn (ho pins s σ H _ I h) fun v s1 ⟨x,H1,I1,r1,ty,q1⟩=>?_);obtain⟨h1,h2⟩:=Gs I1 r1 ty;exact⟨T,id,pa,slot,eP,h1,h2,F3 rfl (PySem.evalArgs_none (hm pins s1 σ H1 x [] v [] Q I1 r1 .nil q1))⟩
theorem Hz(pa:PlainAttrs T)(slot:Slot T name id)(eP:typeOf (.builtin id)=pure (.type "method_descriptor"))(hm:MtR X id r)(ho:PE X o to)(ha:PA X (e::es) t)
  (g8:attributeBase o name X.env (eval o X.env)=eval o X.env:=by rfl)
  (l4:((backTo f9 (starEach (e::es) X.env)).all (fun x=>!x.1)&&(backToKw f9 (keywordEach [] X.env)).all (fun x=>x.1.isSome)
   &&decide ((e::es).length+([]:List Keyword).length+(if([]:List Keyword).isEmpty then 0 else 1)<30))=true:=by rfl)
  (g7:(apos.endLine==f9.line)=true:=by rfl)(hs:starEach (e::es) X.env=(false,eval e X.env)::starEach es X.env:=by rfl)(g0:(backTo f9 (starEach es X.env)).any (·.1)=false:=by rfl):
  PE X (.Call (.Attribute o name apos) (e::es) [] f9) (tBM X.K T r to t):=by
 intro pins s σ H Q I h;refine wpAny_Call_method_late g8 l4 g7 rfl (thn (ho pins s σ H _ I h) fun v s1 ⟨x,H1,I1,r1,ty,q1⟩=>?_);obtain⟨h1,h2⟩:=Gs I1 r1 ty;refine⟨T,id,pa,slot,eP,h1,h2,?_⟩;have hA:=ha f9 pins s1 σ H1 _ I1 q1;rw[hs] at hA ⊢;refine F3 (by show(false||(backTo f9 (starEach es X.env)).any (·.1))=false;rw[g0]<;>rfl) (F1 ?_);exact thn hA fun us s2 ⟨vs,H2,I2,r2,q2⟩=>hm pins s2 σ H2 x vs v us Q I2 r1 r2 q2
end
def MtM(X:Cx)(id:String)(r:V->List V->Hp->VK->Prop):Prop:=
 ∀(pins:gO) (s:gi) (σ:St) (H:Hp) (x:V) (xs:List V) (v:gp) (us:hJ) (Q:VK),Inv X pins σ H s->RelV x v->Vals xs us->r x xs H Q->
  wpAny (model X.prog X.w) X.A (call (.builtin id) (v::us)) (EP X pins σ Q) X.xe s
theorem Vals.one: ∀{x:V} {us:hJ},Vals [x] us-> ∃u,us=[u]/\RelV x u
 |_,_,.cons r .nil=>⟨_,rfl,r⟩
theorem Vals.zero: ∀{us:hJ},Vals [] us->us=[]
 |_,.nil=>rfl
theorem Vals.dropLast{xs:List V}{us:hJ}(h:Vals xs us):Vals xs.dropLast us.dropLast:=by
 induction h with
 |nil=>exact .nil
 |cons r t ih=>
  cases t with
  |nil=>exact .nil
  |cons q t'=>exact .cons r ih
theorem Vals.eraseIdx: ∀{xs:List V} {us:hJ} (i:Nat),Vals xs us->Vals (xs.eraseIdx i) (us.eraseIdx i)
 |_,_,_,.nil=> .nil
 |_,_,0,.cons _ t=>t
 |_,_,i+1,.cons r t=> .cons r (Vals.eraseIdx i t)
theorem Vals.rep{xs:List V}{us:hJ}(h:Vals xs us): ∀k:Nat,Vals (List.replicate k xs).flatten (List.replicate k us).flatten
 |0=> .nil
 |k+1=>by
  rw[sQ,sQ,rN,rN];exact Vals.append h (Vals.rep h k)
theorem CP{α:Type}(l:List α):l.eraseIdx (l.length-1)=l.dropLast:=by
 induction l with
 |nil=>rfl
 |cons a r ih=>
  cases r with
  |nil=>rfl
  |cons b r=>
   have e:(a::b::r).length-1=((b::r).length-1)+1:=by
    have h1:(a::b::r).length=r.length+2:=rfl;have h2:(b::r).length=r.length+1:=rfl;omega
   rw[e,List.eraseIdx_cons_succ,ih]
   all_goals rfl
theorem xp{α:Type}: ∀(l:List α) (i:Nat),(l.eraseIdx i).length<=l.length
 |[],_=>ig _
 |_::_,0=>yz _
 |_::r,i+1=>Nat.succ_le_succ (xp r i)
theorem xw(its:hJ): ∀(k:Nat) (acc:hJ),
  List.foldl (fun x1 x2=>x1++x2) acc.toArray (List.replicate k its.toArray)=(acc++(List.replicate k its).flatten).toArray
 |0,acc=>by simp
 |k+1,acc=>by
  have e:acc.toArray++its.toArray=(acc++its).toArray:=by simp
  have e2:(acc++its)++(List.replicate k its).flatten=acc++(List.replicate (k+1) its).flatten:=by
   rw[sQ,rN,jQ]
  rw[<-e2,<-xw its k (acc++its),<-e,sQ,List.foldl_cons]
section
variable {X:Cx}{pins:gO}{σ:St}{H:Hp}{s:gi}{l b:fZ}{xs ys zs:List V}
theorem Inv.lset{its its':hJ}{n:Nat}{f:Array Value->Array Value}{t':Nat}(I:Inv X pins σ H s)(hH:H l=some (.lst xs))
  (e:s.heap.get? l=some {cls:= .type "list",data:= .seq its.toArray n})(hf:f its.toArray=its'.toArray)(hv:Vals ys its')(hz:ys.length<=sizeLine):
  Inv X pins σ (upd H l (.lst ys)) {s with heap:=s.heap.update l (Obj.mapSeq f),toks:=t'}:=by
 have q:=PySem.IsL.update e f;rw[hf] at q;refine I.write (x:=l) (e:=l) (by rw[hH];exact trivial) (.inl rfl) (fun b' u hb hu=>(yA s.heap (Obj.mapSeq f) (lN hb)).trans hu) ⟨_,q⟩ ?_;exact⟨hz,its',_,hv,q⟩
theorem Inv.lnew{its:hJ}{t':Nat}(I:Inv X pins σ H s)(hv:Vals ys its)(hz:ys.length<=sizeLine):
  Inv X pins σ (upd H s.heap.objs.size (.lst ys)) {s with heap:=s.heap.push {cls:= .type "list",data:= .seq its.toArray},toks:=t'}:=
 I.laid (fun _ _ q=>iM _ q) (ig _) ⟨hz,its,0,hv,jx _ rfl⟩
theorem Inv.fresh(I:Inv X pins σ H s):H s.heap.objs.size=none:=I.hok.fresh (ig _)
theorem Inv.lstM(I:Inv X pins σ H s)(hH:H l=some (.lst xs)):xs.length<=sizeLine/\ ∃(its:hJ) (n:Nat),Vals xs its/\xs.length=its.length/\s.heap.get? l=some {cls:= .type "list",data:= .seq its.toArray n}:=by
 obtain⟨z,its,n,r,e⟩:=I.hok l _ hH;exact⟨z,its,n,r,r.length,e⟩
theorem HI{n:Nat}(h:n<=sizeLine):Builtin.List.listTooLong n=false:=by
 unfold Builtin.List.listTooLong;exact kx (by omega)
end
section
variable {X:Cx}
def Jt:V->List V->Hp->VK->Prop:=fun x vs H Q=> ∃l xs y,x= .ref l/\vs=[y]/\H l=some (.lst xs)/\xs.length<sizeLine/\Q .non (upd H l (.lst (xs++[y])))
theorem EM:MtM X "list.append" Jt:=by
 intro pins s σ H x vs v us Q I rx rv h;obtain⟨l,xs,y,rfl,rfl,hH,hz,q⟩:=h;cases rx;obtain⟨u,rfl,ru⟩:=rv.one;obtain⟨z,its,n,r,hl,e⟩:=I.lstM hH;refine ux F.slot_list_append ⟨_,e,rfl⟩ FZ (FY _ _) (PySem.list_append l its.toArray n u (by rw[iK];omega)) ⟨e,?_⟩;refine⟨.non,_,I.lset (its':=its++[u]) hH e (by simp) (r.append (.cons ru .nil)) ?_,rfl,q⟩;rw[nX,FX];omega
def Qj:V->List V->Hp->VK->Prop:=fun x vs H Q=> ∃l xs y,x= .ref l/\vs=[]/\H l=some (.lst xs)/\xs[xs.length-1]?=some y/\Q y (upd H l (.lst xs.dropLast))
theorem MN:MtM X "list.pop" Qj:=by
 intro pins s σ H x vs v us Q I rx rv h;obtain⟨l,xs,y,rfl,rfl,hH,hy,q⟩:=h;cases rx;have hus:=rv.zero;subst hus;obtain⟨z,its,n,r,hl,e⟩:=I.lstM hH;obtain⟨u,hu,ru⟩:=r.get hy
 have eL:its.toArray[its.toArray.size-1]?=some u:=by
  show its.toArray[its.length-1]?=some u;rw[<-rM,<-hl];exact hu
 refine ux F.slot_list_pop ⟨_,e,rfl⟩ F.entry_list_pop (F.args_list_pop_1 _) (MeetsSeq.list_pop_last l its.toArray n u eL (by rw[iK];omega)) ⟨e,?_⟩;refine⟨y,_,I.lset (its':=its.dropLast) hH e ?_ r.dropLast ?_,ru,q⟩
 ·show its.toArray.eraseIdxIfInBounds (its.toArray.size-1)=its.dropLast.toArray;rw[iK,FW,CP]
 ·rw[FV];omega
def LQ:V->List V->Hp->VK->Prop:=fun x vs H Q=> ∃l xs i k y,x= .ref l/\vs=[.int i]/\H l=some (.lst xs)/\ -(2^63)<=i/\i<2^63/\seqIndex? i xs.length=some k/\xs[k]?=some y/\Q y (upd H l (.lst (xs.eraseIdx k)))
theorem HK:MtM X "list.pop" LQ:=by
 intro pins s σ H x vs v us Q I rx rv h;obtain⟨l,xs,i,k,y,rfl,rfl,hH,h1,h2,hk,hy,q⟩:=h;cases rx;obtain⟨u,rfl,ru⟩:=rv.one;obtain⟨t,rfl⟩:=ru;obtain⟨z,its,n,r,hl,e⟩:=I.lstM hH;obtain⟨w,hw,y9⟩:=r.get hy
 refine ux F.slot_list_pop ⟨_,e,rfl⟩ F.entry_list_pop (F.args_list_pop_2 _ _)
  (MeetsSeq.list_pop_at l its.toArray n i t k w (fitsIndex_both h1 h2) (by rw[iK,<-hl];exact hk) (by rw[<-rM];exact hw) (by rw[iK];omega)) ⟨e,?_⟩
 refine⟨y,_,I.lset (its':=its.eraseIdx k) hH e ?_ (r.eraseIdx k) ?_,y9,q⟩
 ·show its.toArray.eraseIdxIfInBounds k=(its.eraseIdx k).toArray;rw[FW]
 ·have:=xp xs k;omega
theorem Kd{α:Type}(xs:List α)(k:Nat):(List.replicate k xs).flatten.length=k*xs.length:=by
 induction k with
 |zero=>simp
 |succ k ih=>rw[sQ,rN,nX,ih,Nat.succ_mul,Nat.add_comm]
end
section
variable {prog:gC}{w:gy}{A:gB}{E:gU}{s:gi}
end
section
variable {X:Cx}
end
end L2
namespace Att
open PySem PySem.W PySem.Calls PyProof.Rows
theorem tQ{P:Params}{h:gz}: ∀(ns:gS) (vs:hJ),WellAll P h vs (ns.map WData.int)->IntsAre vs ns:=by
 intro ns
 induction ns with
 |nil=>
  intro vs w;rw[qw] at w;cases w;exact .nil
 |cons n ns ih=>
  intro vs w;rw[ic] at w
  cases w with
  |cons a b=>
   cases a;exact .cons _ _ (ih _ b)
theorem Ey{l:OpenLaw}{n:Nat}(hn:l.most=some n){P:Params}{h:gz}{args:List WData}{vals:hJ}
  (ae:l.row.toRowW.claim.pre args=true)(eN:WellAll P h vals args):
  ∃a vs ns,vals=[Value.ref a]/\args=[WData.list (ns.map WData.int)]/\h.get? a=some {cls:= .type "list",data:= .seq vs.toArray}/\IntsAre vs ns/\ns.length<=n:=by
 have hsh:WShape.hasAll [] args [.list .int]=true:=(pre_splitW ae).1;have hc:l.pre.holds [] {args:=args}=true:=(pre_splitW ae).2;obtain⟨d,r,rfl,h1,h2⟩:=hasAllW_cons hsh;obtain rfl:=hasAllW_nil h2;obtain⟨xs,rfl,h3⟩:=hasW_list h1;obtain⟨ns,rfl⟩:=items_int h3
 have hlen:ns.length<=n:=by
  unfold OpenLaw.pre at hc
  have h4:(WTm.not (.lt (.lit (.int (n:Int))) (.len (.arg 0)))).holds [] {args:=[.list (ns.map .int)]}=true:=by
   have h4:=(holds_andW hc).1;rw[hn] at h4;exact h4
  have h5:=condW_of h4 (w_not (w_lt w_lit (w_len_list (w_arg rfl))));rw[jF] at h5;refine Nat.le_of_not_lt fun q=>?_;have q':(n:Int)<((ns.length:Nat):Int):=by omega
  first
   |(rw[oo q'] at h5;exact absurd h5 (by decide))
   |(simp at h5;omega)
 cases eN with
 |cons w1 w2=>
  cases w2
  cases w1 with
  |list ho hall=>exact⟨_,_,ns,rfl,rfl,ho,tQ ns _ hall,hlen⟩
theorem EG(l:OpenLaw)(args:List WData):l.row.toRowW.claim.post args (.bool true) args=true:=
 postW_of (r:=l.row.toRowW) (X:=(true==true))
  (show WShape.has [] (.bool true) .bool=true by first|rfl|decide|simp[WShape.has,WShape.arms,WShape.armsAll])
  (show(WTm.eq .res (.lit (.bool true))).value [] {args:=args,res:=some (.bool true),after:=args}=some (.bool (true==true)) from w_eq_bool (w_res rfl) w_lit) rfl
theorem Kz{l:OpenLaw}{n:Nat}{q:gC}{loose:gG}{XP:(Str->Option Value)->Heap->Prop}{YP:World->Heap->Prop}{d:DefRec}
  (hn:l.most=some n)(cz:d.params.defaults=[])
  (call: ∀(w:gy) (s₀ s₁:gi) (mg mb:jy) (fa:fZ) (o:Obj) (pm cd doc:gp) (a:fZ) (vs:hJ) (ns:gS),
   Ground q loose [] XP w s₀ mg mb s₁.heap->YP w s₁.heap->
   s₁.heap.get? fa=some o->o.data= .func (docDef d.name d.params d.body d.scope pm cd doc)->s₁.heap.CodeRec cd d.name->mg d.name=some (.ref fa)->
   s₁.heap.get? a=some {cls:= .type "list",data:= .seq vs.toArray}->IntsAre vs ns->ns.length<=n->s₁.gens= #[]->
   codeAny (model l.prog w) callerA (.call (.ref fa) ⟨[.ref a],[]⟩) (fun r s'=>r= .ok (.ret (.bool true))/\OldK s₁.heap s'.heap/\s'.os=s₁.os/\AllBare s'.gens) s₁):
  WalkO q loose XP YP l.row.toRowW d [] (fun f vs=>PySem.call f vs):=by
 intro w s₀ s₁ mg mb G Y fa o pm cd doc dV kV ho hd l5 hD hmg hg args vals as ae hlay hrd eN hlo;obtain rfl:dV= .none:=Dflts.none hD cz;obtain rfl:kV= .none:=Dflts.noKw hD;obtain⟨a,vs,ns,rfl,rfl,cb,hints,hlen⟩:=Ey hn ae eN;refine enter_call (uz (call w s₀ s₁ mg mb fa o pm cd doc a vs ns G Y ho (fd_plain hd) l5 hmg cb hints hlen hg) fun r s' hq=>?_);obtain⟨rfl,h2,h3,h4⟩:=hq;exact⟨.inl ⟨.bool true,.bool true,[],rfl,fun _=>rfl,.bool true,EG l _,fun _=>⟨List.Pairwise.nil,fun _ hm=>(nomatch hm)⟩⟩,h2,h3,h4⟩
section
variable {prog:gC}{w:gy}{A:gB}{E:gU}{s:gi}{K:Frag}
end
end Att
namespace L2
open PySem PySem.Spec PyProof.Rows
theorem wX: ∀{vs:hJ} {ns:gS},IntsAre vs ns->Vals (ns.map V.int) vs
 |_,_,.nil=> .nil
 |_,_,.cons n t h=> .cons ⟨t,rfl⟩ (wX h)
noncomputable def nS(s:Stmt):Arguments:=match s with
 | .FunctionDef _ a _ _ _ _ _ _ _ _=>a
 |_=>{posonlyargs:=[],args:=[],vararg:=none,kwonlyargs:=[],kw_defaults:=[],kwarg:=none,defaults:=[]}
noncomputable def jD(s:Stmt):List Stmt:=match s with
 | .FunctionDef _ _ b _ _ _ _ _ _ _=>b
 |_=>[]
noncomputable def gg(s:Stmt):Scope:=match s with
 | .FunctionDef _ _ _ _ _ _ sc _ _ _=>sc
 |_=>{kind:= .function,names:=[],isGenerator:=false,isCoroutine:=false}
abbrev CX0:CXT:=fun _ _ _ _ _ _=>False
abbrev E0:XK:=fun _ _ _=>False
theorem K0{X:Cx}:zJ CX0 X E0:=fun _ _ _ _ _ _ _ h=>h.elim
structure Fun(K:gA)(x qual:Str)(st:Stmt)(f:fZ)(fd:kE):Prop where
 ex: ∃(oc:gp) (od:Option Addr) (kV doc pm:gp) (an:Option Addr) (c9 ct:gp) (t7:oj),
  fd=PySem.W.fnOf x qual (nS st) (jD st) (gg st) .none kV doc pm an c9 ct/\K.lookup f=some ⟨oc,od,.func fd,t7⟩/\PySem.W.codeIn K c9 qual=true
 kp:PySem.W.keepIn K (.ref f)=true
section
variable {P:gC}{w:gy}{K:gA}{mg:jy}{base:gz}
theorem Fun.ok{x qual:Str}{st:Stmt}{f:fZ}{fd:kE}{N ps:gG}{k:Nat}{sp:Sp}(F:Fun K x qual st f fd)(S:FnScope N ps (gg st))(len: ∀vs H Q E,sp vs H Q E->vs.length=ps.length)
  (k8: ∀(c9:gp) (A:gB) (outer:List Env) (s:gi) (H:Hp) (vs:List V) (Q:VK) (E:XK),Room k (A.deeper (envOfC qual (gg st) s.heap.objs.size f c9))->sp vs H Q E->
   ∃t,PSs (my CX0 P w K mg base N qual (gg st) f c9 A outer s H E).nox (jD st) t/\t {nx:=fun _ H'=>Q .non H',rt:=Q} (mT N vs) H):FnOk P w K mg base CX0 (k+1) f fd ps sp:=by
 obtain⟨oc,od,kV,doc,pm,an,c9,ct,t7,rfl,lk,l5⟩:=F.ex;refine Im lk l5 S len fun A outer s H vs Q E hr bU=>?_;obtain⟨t,h,q⟩:=k8 c9 A outer s H vs Q E hr bU;exact⟨t,h.nox,q⟩
theorem Fun.binds{x qual:Str}{st:Stmt}{f:fZ}{fd:kE}{ps:gG}(F:Fun K x qual st f fd)
  (h: ∀(kV doc pm:gp) (an:Option Addr) (c9 ct:gp) (us:hJ),us.length=ps.length->bindArgs (PySem.W.fnOf x qual (nS st) (jD st) (gg st) .none kV doc pm an c9 ct) ⟨us,[]⟩=pure (ps.zip us)):Binds K fd ps []:=by
 obtain⟨oc,od,kV,doc,pm,an,c9,ct,t7,rfl,lk,l5⟩:=F.ex;exact .all (h kV doc pm an c9 ct)
theorem Il{x qual:Str}{st:Stmt}{f:fZ}{oc:gp}{od an:Option Addr}{t7:oj}{kV doc pm c9 ct:gp}(l:K.lookup f=some ⟨oc,od,.func (PySem.W.fnOf x qual (nS st) (jD st) (gg st) .none kV doc pm an c9 ct),t7⟩)
  (c:PySem.W.codeIn K c9 qual=true)(k:PySem.W.keepIn K (.ref f)=true):Fun K x qual st f (PySem.W.fnOf x qual (nS st) (jD st) (gg st) .none kV doc pm an c9 ct):=⟨⟨oc,od,kV,doc,pm,an,c9,ct,t7,rfl,l,c⟩,k⟩
end
section
variable {X:Cx}
end
theorem MV{A B:Prop}(h:B):if false=true then A else B:=by
 rw[gv iU];exact h
theorem MU{A B:Prop}(h:A):if true=true then A else B:=by
 rw[gq rfl];exact h
def Same(H H':Hp):Prop:= ∀b o,H b=some o->H' b=some o
theorem Same.refl(H:Hp):Same H H:=fun _ _ h=>h
theorem Same.trans{H H1 H2:Hp}(a:Same H H1)(b:Same H1 H2):Same H H2:=fun c o h=>b c o (a c o h)
theorem qk(env:Env): ∀(l:List (Str×NameKind)) (cs:jl),(∀x∈l,x.2= .free-> ∃c,env.cells.lookup x.1=some c)->(∀x c,cs.lookup x=some c->env.cells.lookup x=some c)->
  ∃cl,(forIn l cs fun x r=>if x.2==NameKind.free then do let a <-cellOf env x.1;pure (ForInStep.yield ((x.1,a)::r)) else pure (ForInStep.yield r))=(pure cl:Sem (List (Str×Addr)))/\
   (∀x c,cl.lookup x=some c->env.cells.lookup x=some c)/\(∀x,(x,NameKind.free)∈l-> ∃c,cl.lookup x=some c)/\ ∀x c,cs.lookup x=some c-> ∃c,cl.lookup x=some c
 |[],cs,_,hc=>⟨cs,rfl,hc,fun x h=>by simp at h,fun x c h=>⟨c,h⟩⟩
 |(n,k)::l,cs,h,hc=>by
  by_cases hk:k= .free
  ·subst hk;obtain⟨c,e⟩:=h (n,.free) jg rfl;have e':env.cells.lookup n=some c:=e
   obtain⟨cl,h1,h2,h3,h4⟩:=qk env l ((n,c)::cs) (fun x hx=>h x (jf _ hx)) (fun x d hx=>by
    rw[lL] at hx
    cases hb:x==n with
    |true=>rw[hb] at hx;have:=qx hb;subst this;cases hx;exact e'
    |false=>rw[hb] at hx;exact hc x d hx)
   refine⟨cl,?_,h2,fun x hx=>?_,fun x d hx=>?_⟩
   ·rw[uM];have:cellOf env n=pure c:=by unfold cellOf;rw[e']
    simp only[this,pure_bind,beq_self_eq_true,hV];exact h1
   ·rcases kb.mp hx with z|z
    ·cases z;exact h4 n c (by simp[lL])
    ·exact h3 x z
   ·cases hb:x==n with
    |true=>have:=qx hb;subst this;exact h4 x c (by simp[lL])
    |false=>exact h4 x d (by rw[lL,hb];exact hx)
  ·obtain⟨cl,h1,h2,h3,h4⟩:=qk env l cs (fun x hx=>h x (jf _ hx)) hc;have hb:(k==NameKind.free)=false:=by simpa using hk
   refine⟨cl,?_,h2,fun x hx=>?_,h4⟩
   ·rw[uM];simp only[hb,hZ,iJ,pure_bind];exact h1
   ·rcases kb.mp hx with z|z
    ·cases z;exact absurd rfl hk
    ·exact h3 x z
theorem qj(env:Env)(scope:iq)(h: ∀x∈scope.names,x.2= .free-> ∃c,env.cells.lookup x.1=some c):
  ∃cl,closureFor scope env=pure cl/\(∀x c,cl.lookup x=some c->env.cells.lookup x=some c)/\ ∀x,(x,NameKind.free)∈scope.names-> ∃c,cl.lookup x=some c:=by
 obtain⟨cl,h1,h2,h3,_⟩:=qk env scope.names [] h (fun x c hx=>by simp at hx);refine⟨cl,?_,h2,h3⟩;unfold closureFor;have:(forIn scope.names ([]:List (Str×Addr)) fun x r=>if x.2==NameKind.free then do let a <-cellOf env x.1;pure (ForInStep.yield ((x.1,a)::r)) else pure (ForInStep.yield r))=(pure cl:Sem (List (Str×Addr))):=h1
 first
  |exact(pO (· >>=fun r=>pure r) this).trans (pure_bind _ _)
  |(simp only[bind_pure];exact this)
  |exact this
theorem kH: ∀(names:List (Str×NameKind)) (n:Nat) (acc:jl),cellsFrom n names acc=cellsFrom n names []++acc
 |[],_,_=>rfl
 |(x,k)::r,n,acc=>by
  unfold cellsFrom;split
  ·rw[kH r (n+1) ((x,n)::acc),kH r (n+1) [(x,n)],jQ];rfl
  ·exact kH r n acc
theorem mR{x:Str}{c:fZ}: ∀(names:List (Str×NameKind)) (n:Nat),(x,c)∈cellsFrom n names []->(x,NameKind.cell)∈names
 |[],_,h=>by simp[cellsFrom] at h
 |(y,k)::r,n,h=>by
  unfold cellsFrom at h;split at h
  ·rename_i hk;rw[kH] at h;rcases nG.mp h with z|z
   ·exact jf _ (mR r _ z)
   ·cases nZ.mp z;rw[qx hk];exact jg
  ·exact jf _ (mR r _ h)
structure BCls(cells:jl)(scope:iq)(C:fZ)(h:gz)(cl:jl):Prop where
 one: ∀x c,cl.lookup x=some c->(cells.lookup x=some c/\scope.names.lookup x≠some .cell)\/(C<c/\scope.names.lookup x=some .cell/\h.IsCell c none)
 all: ∀x,(x,NameKind.free)∈scope.names\/(x,NameKind.cell)∈scope.names-> ∃c,cl.lookup x=some c
 inj: ∀x y c,C<c->cl.lookup x=some c->cl.lookup y=some c->(∀z d,cells.lookup z=some d->d<C)->x=y
 ex: ∀x c,cl.lookup x=some c->cells.lookup x=some c\/C<c
theorem J8{M:Model}{A:gB}{E:gU}{s:gi}{scope:iq}{globals:fZ}{env:Env}{cl:jl}{qual:Str}{Q:Env->Shared->Prop}(i8: ∀y∈scope.names,y.2= .cell->scope.names.lookup y.1=some .cell)
  (j7: ∀x c,cl.lookup x=some c->env.cells.lookup x=some c)(j9: ∀x,(x,NameKind.free)∈scope.names-> ∃c,cl.lookup x=some c)
  (hQ: ∀h' cs,h'.Ns s.heap.objs.size (fun _=>none)->(∀b o,s.heap.get? b=some o->h'.get? b=some o)->BCls env.cells scope s.heap.objs.size h' cs->
   Q {scope,locals:=s.heap.objs.size,globals,cells:=cs,qual,func:=none,code:=env.code,frame:=env.frame,builtins:=env.builtins} {s with heap:=h'}):
  wpAny M A (newFunctionEnv scope globals cl [] qual none .none (some env)) Q E s:=by
 simp only[newFunctionEnv,Option.isSome_some,hV];refine gk (wpAny_alloc ?_);refine gk (wpAny_layCells _ (fun name kind cells=>by cases hkc:kind==NameKind.cell<;>simp[hkc]) _ _ _ _ ?_);have ok:=cellsFrom_ok scope.names (s.heap.push {cls:= .type "dict",data:= .dict #[]}) (s.heap.objs.size+1) [] ⟨fun _ _ hm=>(nomatch hm),List.Pairwise.nil⟩ (by rw[qv];exact ig _);rw[qv] at ok;rw[show({s with heap:=s.heap.push {cls:= .type "dict",data:= .dict #[]}}:Shared).heap.objs.size=s.heap.objs.size+1 from qv ..];simp only[List.forIn_nil];have look: ∀x,(cellsFrom (s.heap.objs.size+1) scope.names cl).lookup x=((cellsFrom (s.heap.objs.size+1) scope.names []).lookup x).or (cl.lookup x):=fun x=>by rw[kH,List.lookup_append]
 have two: ∀x c,(cellsFrom (s.heap.objs.size+1) scope.names cl).lookup x=some c->(cl.lookup x=some c/\(cellsFrom (s.heap.objs.size+1) scope.names []).lookup x=none)\/(x,c)∈cellsFrom (s.heap.objs.size+1) scope.names []:=fun x c h=>by
  rw[look] at h
  cases hx:(cellsFrom (s.heap.objs.size+1) scope.names []).lookup x with
  |none=>rw[hx] at h;exact .inl ⟨h,rfl⟩
  |some d=>rw[hx] at h;cases h;exact .inr (mV hx)
 have lo: ∀{x:Str} {c:fZ},(x,c)∈cellsFrom (s.heap.objs.size+1) scope.names []->s.heap.objs.size<c:=fun {x c} h=>(ok.empty x c h).2;refine gk (gF (gF (hQ _ _ ((Heap.Ns.new s.heap (.type "dict")).keeps (pushCells_keeps _ _)) (fun b o e=>pushCells_keeps _ _ b o (iM _ e)) ⟨fun x c h=>?_,fun x h=>?_,fun x y c hc h1 h2 hz=>?_,fun x c h=>?_⟩)))
 ·rcases two x c h with⟨z,hn⟩|z
  ·refine .inl ⟨j7 x c z,fun e=>?_⟩;have:=yC scope.names (s.heap.objs.size+1) [] (.inl e);rw[hn] at this;cases this
  ·exact .inr ⟨lo z,i8 _ (mR _ _ z) rfl,(ok.empty x c z).1⟩
 ·rcases h with h|h
  ·obtain⟨c,hc⟩:=j9 x h;rw[look,hc];cases(cellsFrom (s.heap.objs.size+1) scope.names []).lookup x<;>exact⟨_,rfl⟩
  ·have:=yC scope.names (s.heap.objs.size+1) cl (.inl (i8 _ h rfl));exact Fh.mp this
 ·rcases two x c h1 with⟨z,_⟩|z
  ·exact absurd (hz x c (j7 x c z)) (BH hc)
  ·rcases two y c h2 with⟨z',_⟩|z'
   ·exact absurd (hz y c (j7 y c z')) (BH hc)
   ·exact name_of_addr ok.apart z z'
 ·rcases two x c h with⟨z,_⟩|z
  ·exact .inl (j7 x c z)
  ·exact .inr (lo z)
noncomputable def Cx.comp(X:Cx)(N':gG)(scope:iq)(cl:jl)(C:fZ)(s3:gi)(H3:Hp)(fp:iW)(pins:gO):Cx:=
 {X with N:=N',s₀:=s3,H₀:=H3,env:=compEnvC scope cl C X.env,outer:=X.stack,stack:=X.stack,ex:=fp,fn:=fun x=>scope.names.lookup x==some .cell,pn:=X.pn++pins,xe:=fun _ _=>False}
abbrev TB:=St->Hp->(St->Hp->Prop)->Prop
def PB(X:Cx)(code:Sem Unit)(t:TB):Prop:=
 ∀(pins:gO) (s:gi) (σ:St) (H:Hp) (N:St->Hp->Prop),Inv X pins σ H s->t σ H N->
  wpAny (model X.prog X.w) X.A code (fun _ s'=> ∃σ' H',Inv X pins σ' H' s'/\N σ' H') X.xe s
def PIf(X:Cx)(ifs:iL)(t:TT):Prop:=
 ∀(pins:gO) (s:gi) (σ:St) (H:Hp) (Q:Bool->Hp->Prop),Inv X pins σ H s->t σ H Q->
  wpAny (model X.prog X.w) X.A (forIn ifs true fun c r=>if r=true then do let ok <-isTrue c X.env (eval c X.env);pure (ForInStep.yield ok) else pure (ForInStep.yield r)) (TP X pins σ Q) X.xe s
noncomputable def NH:TT:=fun _ H Q=>Q true H
section
variable {X:Cx}
theorem JU:PIf X [] NH:=fun pins s σ H Q I h=>wpAny_tests_nil ⟨H,I,h⟩
theorem JT{c:gm}{t:TT}(h:PT X c t):PIf X [c] t:=fun pins s σ H Q I hw=>wpAny_tests_one (h pins s σ H Q I hw)
noncomputable def jt(e:gm)(depth:Nat)(acc:gp)(env:Env):Sem Unit:=
 match(clausesOf e)[depth+1]? with
 |some g'=>do
  let x <-eval g'.iter env
  standAt g'.iter.pos
  let x <-foldedSetIterable g'.iter env x
  let _ <-runOwn (.compStart e (depth+1) (<-holding [x] (pyIter x)) acc env) env
 |none=>match e with
  | .ListComp elt _ _ _=>do let _ <-call (.builtin "list.append") [acc,<-eval elt env]
  | .SetComp elt _ _ _=>do let v <-eval elt env;standAt elt.pos;let _ <-call (.builtin "set.add") [acc,v]
  |_=>unsupported "no"
def Gz(J:It)(g:TG)(ti:TT)(tb:TB):TB:=fun σ H N=> ∃W:Nat->Nat->St->Hp->Prop,(∃m,W 0 m σ H)/\ ∀i m σ H,W i m σ H->
 (J.stop i H/\N σ H)\/(J.go i H/\ ∀x H',J.yld i H x H'->g x σ H' fun σ2 H2=>ti σ2 H2 fun b H3=>if b=true then tb σ2 H3 fun σ4 H4=> ∃m',m'<m/\W (i+1) m' σ4 H4 else ∃m',m'<m/\W (i+1) m' σ2 H3)
theorem zv(e:gm)(depth:Nat)(it acc:gp)(env:Env)(g:pK)(hl:(∃elt gens sc p,e= .ListComp elt gens sc p)\/(∃elt gens sc p,e= .SetComp elt gens sc p))
  (hg:(clausesOf e)[depth]?=some g)(ha:g.is_async=0)(s9: ∀g',(clausesOf e)[depth+1]?=some g'->g'.is_async=0):
  compTurn e depth it acc env=(do
   standAt g.iter.pos
   match <-pyNext it with
   |none=>pure (.done .next)
   |some v=>
    letOwnedTupleGo g.target it v
    assign g.target env v
    let ok <-forIn g.ifs true fun c r=>if r=true then do let ok <-isTrue c env (eval c env);pure (ForInStep.yield ok) else pure (ForInStep.yield r)
    if ok=true then jt e depth acc env
    again (.compLoop e depth it acc env)):=by
 rcases hl with⟨elt,gens,sc,p,rfl⟩|⟨elt,gens,sc,p,rfl⟩
 ·have fm:gens[depth]?=some g:=hg;unfold compTurn jt;simp only[clausesOf] at hg s9 ⊢;rw[fm];simp only[ha]
  cases hn:gens[depth+1]? with
  |none=>rfl
  |some g'=>
   have:=s9 g' hn;simp only[this,rL,hZ,iJ]
   congr 1;funext _;congr 1;funext r
   cases r with
   |none=>rfl
   |some v=>
    dsimp only
    congr 1;funext _;congr 1;funext _;congr 1;funext ok
    cases ok with
    |false=>rfl
    |true=>simp only[hV,bind_assoc];rfl
 ·have fm:gens[depth]?=some g:=hg;unfold compTurn jt;simp only[clausesOf] at hg s9 ⊢;rw[fm];simp only[ha]
  cases hn:gens[depth+1]? with
  |none=>rfl
  |some g'=>
   have:=s9 g' hn;simp only[this,rL,hZ,iJ]
   congr 1;funext _;congr 1;funext r
   cases r with
   |none=>rfl
   |some v=>
    dsimp only
    congr 1;funext _;congr 1;funext _;congr 1;funext ok
    cases ok with
    |false=>rfl
    |true=>simp only[hV,bind_assoc];rfl
theorem IG 
  (hl:(∃elt gens sc p,e= .ListComp elt gens sc p)\/(∃elt gens sc p,e= .SetComp elt gens sc p))
  (h:wpAny (model prog w) A ((compTurn e depth it acc env).onRaise (fun x=>do noteFrame x env;theTreesLotGoes x)) Q E s):
  wpAny (model prog w) (A.under (.compLoop e depth it acc env)) ((model prog w).den (.compLoop e depth it acc env)) Q E s:=by
 rcases hl with⟨elt,gens,sc,p,rfl⟩|⟨elt,gens,sc,p,rfl⟩
 ·exact h
 ·exact h
theorem Ka{e:gm}{depth:Nat}{acc:gp}{c:pK}{g:TG}{ti:TT}{tb:TB}{J:It}{fp:iW}{it:fZ}{tn:Nat->Heap->Prop}(cW:X.xe=fun _ _=>False)(hc:X.calm=true)
  (hl:(∃elt gens sc p,e= .ListComp elt gens sc p)\/(∃elt gens sc p,e= .SetComp elt gens sc p))(hg:(clausesOf e)[depth]?=some c)(ha:c.is_async=0)(s9: ∀g',(clausesOf e)[depth+1]?=some g'->g'.is_async=0)
  (T:Turn X.prog X.w X.K c.target J fp it tn)(pg:PG X c.target g)(eF:PIf X c.ifs ti)(pb:PB X (jt e depth acc X.env) tb)
  {pins:gO}{s:gi}{σ:St}{H:Hp}{N:St->Hp->Prop}(I:Inv X pins σ H s)(f2: ∀b∈fp,oR X pins H b)(st:tn 0 s.heap)(h:Gz J g ti tb σ H N):
  codeAny (model X.prog X.w) X.A (.compLoop e depth (.ref it) acc X.env) (fun r s'=>r= .ok .next/\ ∃σ' H',Inv X pins σ' H' s'/\(∀b∈fp,H' b=none)/\N σ' H') s:=by
 obtain⟨W,⟨m0,w0⟩,turn⟩:=h;have v8: ∀{H':Hp},(∀b∈fp,H' b=none)-> ∀b∈fp,oR X pins H' b:=fun hn b hb=>⟨hn b hb,(f2 b hb).2⟩
 have F2: ∀{α:Type} {t:Sem α} {Q:α->Shared->Prop} {E:gU} {s:gi},wpAny (model X.prog X.w) X.A t Q X.xe s->wpAny (model X.prog X.w) X.A t Q E s:=fun h=>lM h (fun _ _ x=>x) fun _ _ z=>by rw[cW] at z;exact z.elim
 refine codeAny_loop rfl (fun n s'=> ∃i σ' H',Inv X pins σ' H' s'/\tn i s'.heap/\(∀b∈fp,H' b=none)/\W i n σ' H') (fun n s3 hI=>?_) m0 ⟨0,σ,H,I,st,fun b hb=>(f2 b hb).1,w0⟩;refine IG hl ?_;refine wpAny_noted ?_;rw[zv e depth (.ref it) acc X.env c hl hg ha s9];obtain⟨i,σ3,H3,I3,j8,cN,w3⟩:=hI;refine gk (uR ?_);rcases turn i n σ3 H3 w3 with⟨stop,qn⟩|⟨go,step⟩
 ·refine gk (thn (T.done X rfl rfl rfl hc i pins s3 σ3 H3 _ I3 (v8 cN) j8 stop) fun r s4 ⟨hr,I4⟩=>?_);subst hr;exact gF ⟨rfl,σ3,H3,I4,cN,qn⟩
 ·refine gk (thn (T.item X rfl rfl rfl hc i pins s3 σ3 H3 _ I3 (v8 cN) j8 go) fun r s4 ⟨u,hr,h4⟩=>?_);subst hr;refine gk (thn h4 fun _ s5 ⟨x,H5,I5,r5,y5,aZ,fL⟩=>?_);have fX:=I5.pinned (v8 fL) (T.obj _ _ aZ);refine gk (thn (F2 (pg _ s5 σ3 H5 x u _ fX r5 (step x H5 y5))) fun _ s6 ⟨σ6,H6,I6,q6⟩=>?_);refine gk (thn (F2 (eF _ s6 σ6 H6 _ I6 q6)) fun ok s7 ⟨H7,I7,q7⟩=>?_)
  have again: ∀{s8:gi} {σ8:St} {H8:Hp},Inv X (pins++vt fp s5.heap) σ8 H8 s8->(∃m',m'<n/\W (i+1) m' σ8 H8)-> ∃m,m<n/\ ∃i σ' H',Inv X pins σ' H' s8/\tn i s8.heap/\(∀b∈fp,H' b=none)/\W i m σ' H':=fun {s8 σ8 H8} I8 ⟨m',hm,w8⟩=>by
   refine⟨m',hm,i+1,σ8,H8,I8.unpinned,T.keep _ _ _ aZ fun b hb o e=>(I8.pin (b,o) (mW _ (mW _ (nO hb e)))).1,fun b hb=>?_,w8⟩;obtain⟨o,e,d⟩:=T.obj _ _ aZ b hb;exact(I8.pin (b,o) (mW _ (mW _ (nO hb e)))).2.1
  cases ok with
  |false=>
   rw[gv iU] at q7;exact gF ⟨rfl,again I7 q7⟩
  |true=>
   rw[gq rfl] at q7;simp only[hV];refine gk (thn (F2 (pb _ s7 σ6 H7 _ I7 q7)) fun _ s8 ⟨σ8,H8,I8,q8⟩=>?_);exact gF ⟨rfl,again I8 q8⟩
def NL(d:fZ)(te:TE):TB:=fun σ H N=>te σ H fun y H1=> ∃ys,H1 d=some (.lst ys)/\ys.length<sizeLine/\N σ (upd H1 d (.lst (ys++[y])))
theorem JZ{elt:gm}{gens:pL}{sc:iq}{p:Pos}{depth:Nat}{d:fZ}{te:TE}(hn:gens[depth+1]?=none)(he:PE X elt te):PB X (jt (.ListComp elt gens sc p) depth (.ref d) X.env) (NL d te):=by
 intro pins s σ H N I h
 have e1:jt (.ListComp elt gens sc p) depth (.ref d) X.env=(do let _ <-call (.builtin "list.append") [.ref d,<-eval elt X.env]):=by
  unfold jt;simp only[clausesOf];rw[hn]
 rw[e1];refine gk (thn (he pins s σ H _ I h) fun u s1 ⟨y,H1,I1,ru,ys,hd,hz,q⟩=>?_);obtain⟨z,its,n,r,hl,e⟩:=I1.lstM hd;refine gk (ux F.slot_list_append ⟨_,e,rfl⟩ FZ (FY _ _) (PySem.list_append d its.toArray n u (by rw[iK];omega)) ⟨e,?_⟩);refine gF ⟨σ,_,I1.lset (its':=its++[u]) hd e (by simp) (r.append (.cons ru .nil)) ?_,q⟩;rw[nX,FX];omega
theorem GC{prog:gC}{w:gy}{A:gB}{e:gm}{depth:Nat}{it acc:gp}{env:Env}{R:Result->Shared->Prop}{s:gi}{c:pK}
  (hl:(∃elt gens sc p,e= .ListComp elt gens sc p)\/(∃elt gens sc p,e= .SetComp elt gens sc p))(hg:(clausesOf e)[depth]?=some c)(ha:c.is_async=0)
  (h0:codeAny (model prog w) A (.compLoop e depth it acc env) R s)
  (self: ∀(Q:gU) (E:gU),Q it s->wpAny (model prog w) A (pyIter it) Q E s):
  codeAny (model prog w) A (.compStart e depth it acc env) R s:=by
 have core:wpAny (model prog w) A (compStart e depth it acc env) (fun fin s'=>match fin with| .done f=>R (.ok f) s'| .again c'=>c'.quiet=true/\codeAny (model prog w) A c' R s') (notedBy (model prog w) A env fun x s'=>R (.error x) s') s:=by
  unfold compStart;rw[hg];simp only[Option.elim,ha,rL,hZ,iJ];refine gk (wpAny_askSetting (wpAny_ite ?_));split
  ·first
    |exact gk (gF (gF (And.intro rfl h0)))
    |exact gF (And.intro rfl h0)
  ·exact gk (qz (gk (uR (gk (self _ _ (gF (And.intro rfl h0)))))))
 rcases hl with⟨elt,gens,sc,p,rfl⟩|⟨elt,gens,sc,p,rfl⟩
 ·refine BG ?_;show wpAny _ A ((compStart (.ListComp elt gens sc p) depth it acc env).onRaise (fun x=>do noteFrame x env;standAt theWindowsPlace)) _ _ s;exact wpAny_notedAt core
 ·refine BG ?_;show wpAny _ A ((compStart (.SetComp elt gens sc p) depth it acc env).onRaise (fun x=>do noteFrame x env;standAt theWindowsPlace)) _ _ s;exact wpAny_notedAt core
end
theorem lO{env:Env}: ∀{names:List (Str×NameKind)} {x:Str},names.lookup x=some .free->
  (names.map fun(n,k)=>if(k==NameKind.free&&env.scope.kind== .function&&env.kindOf n==some .cell) then(n,NameKind.cell) else(n,k)).lookup x=some .cell\/
  (names.map fun(n,k)=>if(k==NameKind.free&&env.scope.kind== .function&&env.kindOf n==some .cell) then(n,NameKind.cell) else(n,k)).lookup x=some .free
 |[],_,h=>by simp at h
 |(n,k)::r,x,h=>by
  have ih:= @lO env r x;rw[ic]
  cases hx:x==n with
  |true=>
   simp only[lL,hx] at h;cases h;by_cases hc:(NameKind.free==NameKind.free&&env.scope.kind== .function&&env.kindOf n==some .cell)=true
   ·left;simp only[hc,hV,lL,hx]
   ·right;simp only[hc,iJ,lL,hx,hZ]
  |false=>
   simp only[lL,hx] at h;by_cases hc:(k==NameKind.free&&env.scope.kind== .function&&env.kindOf n==some .cell)=true
   ·simp only[hc,hV,lL,hx];exact ih h
   ·simp only[hc,iJ,lL,hx,hZ];exact ih h
theorem jA{env:Env}: ∀{names:List (Str×NameKind)} {x:Str} {k':NameKind},
  (names.map fun(n,k)=>if(k==NameKind.free&&env.scope.kind== .function&&env.kindOf n==some .cell) then(n,NameKind.cell) else(n,k)).lookup x=some k'-> ∃k,(x,k)∈names/\(k=k'\/k= .free)
 |[],_,_,h=>by simp at h
 |(n,k)::r,x,k',h=>by
  rw[ic] at h
  cases hx:x==n with
  |true=>
   have e:=qx hx;subst e;by_cases hc:(k==NameKind.free&&env.scope.kind== .function&&env.kindOf x==some .cell)=true
   ·refine⟨k,jg,.inr ?_⟩
    have h1:(k==NameKind.free)=true:=by
     cases hk:(k==NameKind.free) with
     |true=>rfl
     |false=>rw[hk] at hc;simp at hc
    exact qx h1
   ·simp only[hc,iJ,lL,hx,hZ] at h;exact⟨k,jg,.inl (by simpa using h)⟩
  |false=>
   by_cases hc:(k==NameKind.free&&env.scope.kind== .function&&env.kindOf n==some .cell)=true
   ·simp only[hc,hV,lL,hx] at h;obtain⟨k2,h1,h2⟩:=jA h;exact⟨k2,jf _ h1,h2⟩
   ·simp only[hc,iJ,lL,hx,hZ] at h;obtain⟨k2,h1,h2⟩:=jA h;exact⟨k2,jf _ h1,h2⟩
structure CompScope(X:Cx)(N':gG)(scope:iq)(pre:St->St):Prop where
 cell: ∀y∈scope.names,y.2= .cell->scope.names.lookup y.1=some .cell
 kind:scope.kind= .function
 names: ∀y∈scope.names,y.2= .local->scope.names.lookup y.1=some .local
 free: ∀y∈scope.names,y.2= .free->X.env.scope.names.lookup y.1=some .cell\/X.env.scope.names.lookup y.1=some .free
 len: ∀σ:St,(pre σ).length=N'.length
 pre: ∀(σ:St) (i:Nat) (v:V) (x:Str),(pre σ)[i]?=some (some v)->N'[i]?=some x->scope.names.lookup x=some .free/\ ∃j:Nat,X.N[j]?=some x/\σ[j]?=some (some v)
section
variable {X:Cx}
theorem Ku{N':gG}{scope:iq}{pre:St->St}(S:CompScope X N' scope pre){pins:gO}{s3:gi}{σ:St}{H3:Hp}{fp:iW}{cl:jl}{h':gz}{t':Nat}(I:Inv X pins σ H3 s3)
  (B:BCls X.env.cells scope s3.heap.objs.size h' cl)
  (ff: ∀b∈fp,oR X pins H3 b)(fo: ∀b∈fp,b<s3.heap.objs.size)
  (aj:h'.Ns s3.heap.objs.size (fun _=>none))(hk: ∀b o,s3.heap.get? b=some o->h'.get? b=some o):
  Inv (X.comp N' scope cl s3.heap.objs.size s3 H3 fp pins) [] (pre σ) H3 {s3 with heap:=h',toks:=t'}:=by
 have df: ∀b∈frs X.stack,H3 b=none:=I.stkFree;have nfs: ∀b,b≠X.env.locals->b∉X.fs->b∉frs X.stack:=fun b h1 h2 z=>(kb.mp (I.stkSub b z)).elim h1 h2;have old: ∀x c,X.env.cells.lookup x=some c->c<s3.heap.objs.size:=fun x c e=>(I.cell x c e).elim fun _ z=>z.lt
 refine⟨⟨I.ok.mod,?_,I.ok.glob,I.ok.blt,ig _,fun x y c h1 h2=>?_,fun x hx=>?_,fun x c hf e=>?_,I.ok.hd,I.ok.frames,.inl rfl,fun b hb=>?_,
  I.bs,mE I.ok.bsz I.sz,fun b o e hb=>?_,fun b hb=>nfs b (ff b hb).2.1 (ff b hb).2.2.1,I.stack,df⟩,rfl,I.bare,Un.kept hk,⟨_,aj,fun i x v h1 h2 h3=>?_⟩,fun x c hx=>?_,I.hok.fresh (ig _),fun x c hx=>?_,fun p hp=>?_,I.hok.kept hk,S.len σ⟩
 ·show(relabel scope X.env).kind= .function;simp[relabel,S.kind]
 ·rcases B.ex x c h1 with z|z
  ·rcases B.ex y c h2 with z'|z'
   ·exact I.ok.inj x y c z z'
   ·exact absurd (old x c z) (BH z')
  ·exact B.inj x y c z h1 h2 old
 ·
  have eM:(relabel scope X.env).names.lookup x=some .cell\/(relabel scope X.env).names.lookup x=some .free:=hx;refine B.all x ?_;rcases eM with z|z
  ·obtain⟨k,h1,h2⟩:=jA z;rcases h2 with h2|h2<;>subst h2
   ·exact .inr h1
   ·exact .inl h1
  ·obtain⟨k,h1,h2⟩:=jA z;rcases h2 with h2|h2<;>(subst h2;exact .inl h1)
 ·rcases B.one x c e with⟨_,z⟩|⟨z,_⟩
  ·exact absurd (qx hf) z
  ·exact uB z
 ·refine⟨iF (fo b hb),fun x c hx=>?_⟩;rcases B.ex x c hx with z|z
  ·exact(ff b hb).2.2.2.2.1 x c z
  ·exact mC (BF (fo b hb) z)
 ·
  have r9:b∈fp:=hb;rcases(ff b r9).2.2.2.1 with z|z
  ·exact I.ok.noex b o e z
  ·exact absurd (lF (iC e) (mE I.ok.bsz z)) (ot _)
 ·obtain⟨hf,j,hj,hv⟩:=S.pre σ i v x h2 h1;obtain⟨m,hn,hl⟩:=I.loc;have l7:=S.free (x,.free) (mV hf) rfl;obtain⟨u,r,l⟩:=hl j x v hj hv (by rcases l7 with z|z;exact .inr (.inl z);exact .inr (.inr z));refine⟨u,r,.inr ⟨lO hf,?_⟩⟩;rcases l with⟨cI,_⟩|⟨_,c,hc,i8⟩
  ·have dR:X.env.scope.names.lookup x=some .local:=cI;rcases l7 with z|z<;>(have z':X.env.scope.names.lookup x=_:=z;rw[dR] at z';cases z')
  ·obtain⟨c',bL⟩:=B.all x (.inl (mV hf));rcases B.one x c' bL with⟨this,_⟩|⟨_,z,_⟩
   ·rw[hc] at this;cases this;exact⟨c,bL,i8.keeps hk⟩
   ·rw[hf] at z;cases z
 ·rcases B.one x c hx with⟨z,_⟩|⟨_,_,z⟩
  ·obtain⟨v,hv⟩:=I.cell x c z;exact⟨v,hv.keeps hk⟩
  ·exact⟨_,z⟩
 ·rcases B.ex x c hx with z|z
  ·exact I.freeC x c z
  ·exact I.hok.fresh (uB z)
 ·have cX:p∈X.pn++pins:=by simpa[Cx.comp] using hp
  obtain⟨e,n,h1,h2,h3⟩:=I.pin p cX;exact⟨hk _ _ e,n,iF (iC e),nfs _ h1 h2,h3⟩
theorem A1{N':gG}{scope:iq}{pins:gO}{s3 s4:gi}{σ σ':St}{H3 H4:Hp}{fp:iW}{cl:jl}{h':gz}(I:Inv X pins σ H3 s3)(ff: ∀b∈fp,oR X pins H3 b)
  (J:Inv (X.comp N' scope cl s3.heap.objs.size s3 H3 fp pins) [] σ' H4 s4)(hs:Heap.SameBut s3.heap.objs.size s4.heap h'):Inv X pins σ H4 {s4 with heap:=h'}:=by
 have K:=I.call' (s':=s4) (ch:=fp) J.os J.base J.hok J.bare fun b hb=>⟨(ff b hb).2.2.2.1,(ff b hb).2.1,(ff b hb).2.2.2.2.1,(ff b hb).2.2.2.2.2⟩
 have lt1:X.env.locals<s3.heap.objs.size:=I.lt;refine K.turned (it:=s3.heap.objs.size) (t':=s4.toks) (fun b o hb e=>by rw[hs.2 b hb];exact e) J.free (mC lt1) (.inr I.sz) (fun x c hx z=>?_) (fun p hp z=>?_)
 ·obtain⟨v,o,e,_⟩:=I.cell x c hx;exact absurd (iC e) (by rw[z];exact ot _)
 ·obtain⟨e,_⟩:=I.pin p hp;exact absurd (iC e) (by rw[z];exact ot _)
def NO(J:It)(g:TG)(ti:TT)(tb:Addr->TB)(pre:St->St)(σ:St)(H:Hp)(Q:VK):Prop:=
 ∀d,H d=none->Gz J g ti (tb d) (pre σ) (upd H d (.lst [])) fun _ H2=>Q (.ref d) H2
theorem A0{elt:gm}{c:pK}{hU:pL}{scope:iq}{pos:Pos}{N':gG}{pre:St->St}{g:TG}{ti:TT}{tb:Addr->TB}{aP:jl}{J:It}{fp:iW}{it:fZ}{tn:Nat->Heap->Prop}
  (S:CompScope X N' scope pre)(hc:X.calm=true)(ha:c.is_async=0)(s9: ∀g',hU[0]?=some g'->g'.is_async=0)
  (ah: ∀(cl:jl) (C:fZ) (s3:gi) (H3:Hp) (fp:iW) (pins:gO),let X':=X.comp N' scope cl C s3 H3 fp pins
   PG X' c.target g/\PIf X' c.ifs ti/\ ∀d,PB X' (jt (.ListComp elt (c::hU) scope pos) 0 (.ref d) X'.env) (tb d))
  (j7: ∀x c,aP.lookup x=some c->X.env.cells.lookup x=some c)(j9: ∀x,(x,NameKind.free)∈scope.names-> ∃c,aP.lookup x=some c)
  {pins:gO}{s2:gi}{σ:St}{H2:Hp}{Q:VK}{E:gU}{RR:Value->Addr->Result->Shared->Prop}(I2:Inv X pins σ H2 s2)(T:Turn X.prog X.w X.K c.target J fp it tn)(i3:tn 0 s2.heap)(f2: ∀b∈fp,oR X pins H2 b)
  (h:NO J g ti tb pre σ H2 Q)
  (hRR: ∀(d:fZ) (cl:jl) (s3:gi) (H3 H4:Hp) (σ':St) (s4:gi),Inv X pins σ H3 s3->(∀b∈fp,oR X pins H3 b)->Inv (X.comp N' scope cl s3.heap.objs.size s3 H3 fp pins) [] σ' H4 s4->Q (.ref d) H4->RR (.ref d) s3.heap.objs.size (.ok .next) s4):
  wpAny (model X.prog X.w) X.A (newList []) (fun acc s₃=>wpAny (model X.prog X.w) X.A (newFunctionEnv scope X.env.globals aP [] X.env.qual none .none (some X.env)) (fun cenv s₄=>
   codeAny (model X.prog X.w) X.A (.compStart (.ListComp elt (c::hU) scope pos) 0 (.ref it) acc {cenv with scope:=relabel scope X.env}) (RR acc cenv.locals) s₄) E s₃) E s2:=by
 have I3:Inv X pins σ (upd H2 s2.heap.objs.size (.lst [])) {s2 with heap:=s2.heap.push {cls:= .type "list",data:= .seq ([]:List Value).toArray}}:=I2.lnew (t':=s2.toks) .nil (by simp);have fo: ∀b∈fp,b<s2.heap.objs.size:=fun b hb=>by obtain⟨o,e,_⟩:=T.obj _ _ i3 b hb;exact iC e
 have ff: ∀b∈fp,oR X pins (upd H2 s2.heap.objs.size (.lst [])) b:=fun b hb=>⟨by rw[gK (iF (fo b hb))];exact(f2 b hb).1,(f2 b hb).2⟩
 refine mD ?_;refine J8 S.cell j7 j9 fun h1 cl aj hk0 B=>?_;have hk: ∀b o,(s2.heap.push {cls:= .type "list",data:= .seq ([]:List Value).toArray}).get? b=some o->h1.get? b=some o:=hk0;have fv: ∀b∈fp,b<(s2.heap.push {cls:= .type "list",data:= .seq ([]:List Value).toArray}).objs.size:=fun b hb=>by rw[qv];exact uL (fo b hb)
 have J0:=Ku (t':=s2.toks) S I3 B ff fv aj hk;obtain⟨pg,eF,pb⟩:=ah cl (s2.heap.push {cls:= .type "list",data:= .seq ([]:List Value).toArray}).objs.size {s2 with heap:=s2.heap.push {cls:= .type "list",data:= .seq ([]:List Value).toArray}} (upd H2 s2.heap.objs.size (.lst [])) fp pins;have o9:tn 0 h1:=T.keep _ _ _ i3 fun b hb o e=>hk b o (iM _ e);have hw:=h s2.heap.objs.size (I2.hok.fresh (ig _))
 have ff': ∀b∈fp,oR (X.comp N' scope cl (s2.heap.push {cls:= .type "list",data:= .seq ([]:List Value).toArray}).objs.size {s2 with heap:=s2.heap.push {cls:= .type "list",data:= .seq ([]:List Value).toArray}} (upd H2 s2.heap.objs.size (.lst [])) fp pins) []
   (upd H2 s2.heap.objs.size (.lst [])) b:=fun b hb=>by
  obtain⟨z1,z2,z3,z4,z5,z6⟩:=ff b hb;refine⟨z1,iF (fv b hb),fun z=>(kb.mp (I3.stkSub b z)).elim z2 z3,.inl hb,fun x c hx=>(B.ex x c hx).elim (z5 x c) fun z=>mC (BF (fv b hb) z),fun p hp=>z6 p (by simpa[Cx.comp] using hp)⟩
 have hl:(∃el gens sc p,Expr.ListComp elt (c::hU) scope pos= .ListComp el gens sc p)\/(∃el gens sc p,Expr.ListComp elt (c::hU) scope pos= .SetComp el gens sc p):= .inl ⟨_,_,_,_,rfl⟩;refine GC hl rfl ha ?_ (fun Q' E' hq=>T.self X.A 0 _ Q' E' o9 hq)
 refine uz (Ka (X:=X.comp N' scope cl (s2.heap.push {cls:= .type "list",data:= .seq ([]:List Value).toArray}).objs.size {s2 with heap:=s2.heap.push {cls:= .type "list",data:= .seq ([]:List Value).toArray}} (upd H2 s2.heap.objs.size (.lst [])) fp pins)
  (depth:=0) (acc:= .ref s2.heap.objs.size) rfl hc hl rfl ha (fun g' dW=>s9 g' (by simpa[clausesOf] using dW)) T pg eF (pb _) J0 ff' o9 hw) fun r s4 hr=>?_
 obtain⟨rfl,σ4,H4,I4,_,q⟩:=hr;exact hRR _ _ _ _ _ _ _ I3 ff I4 q
noncomputable def GA(wi:TI)(g:TG)(ti:TT)(tb:Addr->TB)(pre:St->St):TE:=fun σ H Q=>wi σ H fun J H1=>NO J g ti tb pre σ H1 Q
theorem Hv{elt:gm}{c:pK}{hU:pL}{scope:iq}{pos:Pos}{N':gG}{pre:St->St}{wi:TI}{g:TG}{ti:TT}{tb:Addr->TB}
  (S:CompScope X N' scope pre)(hc:X.calm=true)(ha:c.is_async=0)(s9: ∀g',hU[0]?=some g'->g'.is_async=0)
  (hs: ∀x,foldedSetIterable c.iter X.env x=pure x)(pi:PI X c.target c.iter wi)
  (ah: ∀(cl:jl) (C:fZ) (s3:gi) (H3:Hp) (fp:iW) (pins:gO),let X':=X.comp N' scope cl C s3 H3 fp pins
   PG X' c.target g/\PIf X' c.ifs ti/\ ∀d,PB X' (jt (.ListComp elt (c::hU) scope pos) 0 (.ref d) X'.env) (tb d)):
  PE X (.ListComp elt (c::hU) scope pos) (GA wi g ti tb pre):=by
 intro pins s σ H Q I h;obtain⟨tg,cG,ifs,az⟩:=c;obtain rfl:az=0:=ha;obtain⟨cl,l8,j7,j9⟩:=qj X.env scope fun x hx hf=>I.ok.has x.1 (S.free x hx hf);rw[eval_ListComp];show wpAny _ X.A (comprehension _ scope X.env _ (newList []) false (eval cG X.env)) _ _ s;refine FU (use:=none) (g:=⟨tg,cG,ifs,0⟩) (gs:=hU) rfl hs l8 S.kind S.names (thn (pi pins s σ H _ I h) fun v s1 h1=>thn h1 fun dF s2 h2=>?_);obtain⟨it,fp,tn,J,H2,rfl,I2,T,i3,f2,hw⟩:=h2;refine A0 (RR:=fun acc C=>compPost (model X.prog X.w) X.A X.xe none (EP X pins σ Q) acc C) S hc rfl s9 ah j7 j9 I2 T i3 f2 hw fun d cl' s3 H3 H4 σ' s4 I3 ff J4 q=>?_;obtain⟨m,hn,_⟩:=id J4.loc;exact⟨m,hn,fun h' bh=>⟨.ref d,H4,A1 I3 ff J4 bh,rfl,q⟩⟩
theorem Hg{elt:gm}{c:pK}{hU:pL}{scope:iq}{pos d9 py:Pos}{N':gG}{pre:St->St}{wi:TI}{g:TG}{ti:TT}{tb:Addr->TB}{y:Str}{i:Nat}
  (bg:swapsWith (.ListComp elt (c::hU) scope pos) (some (.Name y py)) d9.line X.env=pure true)
  (S:CompScope X N' scope pre)(hc:X.calm=true)(ha:c.is_async=0)(s9: ∀g',hU[0]?=some g'->g'.is_async=0)
  (hs: ∀x,foldedSetIterable c.iter X.env x=pure x)(pi:PI X c.target c.iter wi)(eD:PG X (.Name y py) (AN i))
  (ah: ∀(cl:jl) (C:fZ) (s3:gi) (H3:Hp) (fp:iW) (pins:gO),let X':=X.comp N' scope cl C s3 H3 fp pins
   PG X' c.target g/\PIf X' c.ifs ti/\ ∀d,PB X' (jt (.ListComp elt (c::hU) scope pos) 0 (.ref d) X'.env) (tb d)):
  PS X (.Assign [.Name y py] (.ListComp elt (c::hU) scope pos) d9) (Ls (GA wi g ti tb pre) (AN i)):=by
 intro pins s σ H D I h;obtain⟨tg,cG,ifs,az⟩:=c;obtain rfl:az=0:=ha;obtain⟨cl,l8,j7,j9⟩:=qj X.env scope fun x hx hf=>I.ok.has x.1 (S.free x hx hf);rw[exec_Assign_Name_used _ _ _ _ bg];refine gk (uR (gk ?_));show wpAny _ X.A (do let _ <-comprehension (.ListComp elt (⟨tg,cG,ifs,0⟩::hU) scope pos) scope X.env _ (newList []) false (eval cG X.env) (some (assign (.Name y py) X.env))) _ _ s
 refine gk (lM (FU (use:=some (assign (.Name y py) X.env)) (g:=⟨tg,cG,ifs,0⟩) (gs:=hU) (Q:=fun _ s'=>SP X pins D .next s') rfl hs l8 S.kind S.names
  (thn (pi pins s σ H _ I h) fun v s1 h1=>thn h1 fun dF s2 h2=>?_)) (fun _ s' hq=>gF (gF hq)) fun _ _ e=>e)
 obtain⟨it,fp,tn,J,H2,rfl,I2,T,i3,f2,hw⟩:=h2;refine A0 (RR:=fun acc C=>compPost (model X.prog X.w) X.A X.xe (some (assign (.Name y py) X.env)) (fun _ s'=>SP X pins D .next s') acc C) S hc rfl s9 ah j7 j9 I2 T i3 f2 hw fun d cl' s3 H3 H4 σ' s4 I3 ff J4 q=>?_;obtain⟨m,hn,_⟩:=id J4.loc;obtain⟨oC,es,ep,ho,hd,hr⟩:=id hn;have IX:Inv X pins σ H4 s4:=A1 I3 ff J4 (BE ..);have hCl:s3.heap.objs.size≠X.env.locals:=mC I3.lt;have hCf:s3.heap.objs.size∉X.fs:=fun z=>I3.nofs (ig _) z
 have IP:Inv X (pins++[(s3.heap.objs.size,oC)]) σ H4 s4:=IX.pins_of fun p hp=>by
  rcases nG.mp hp with z|z
  ·exact IX.pin p (mW _ z)
  ·rcases nZ.mp z with rfl
   exact⟨ho,J4.free,hCl,hCf,fun v z=>by rw[hd] at z;cases z⟩
 show wpAny _ X.A (assign (.Name y py) X.env (.ref d)) _ _ _;refine thn (eD _ s4 σ H4 (.ref d) (.ref d) _ IP rfl q) fun _ s5 ⟨σ5,H5,I5,q5⟩=>?_;have pC:=I5.pin (s3.heap.objs.size,oC) (by simp);refine⟨m,⟨oC,es,ep,pC.1,hd,hr⟩,fun h' bh=>⟨σ5,H5,?_,q5⟩⟩;refine I5.unpinned.turned (it:=s3.heap.objs.size) (t':=s5.toks) (fun b o hb e=>by rw[bh.2 b hb];exact e) pC.2.1 hCl (.inr I3.sz) (fun x c hx z=>?_) (fun p hp z=>?_)
 ·obtain⟨v,o,e,_⟩:=I3.cell x c hx;exact absurd (iC e) (by rw[z];exact ot _)
 ·obtain⟨e,_⟩:=I3.pin p hp;exact absurd (iC e) (by rw[z];exact ot _)
end
section
variable {κ:Type}[DecidableEq κ]
noncomputable def oh(kvs:List (κ×V))(k:κ):Option V:=(kvs.find? fun kv=>decide (kv.1=k)).map (·.2)
noncomputable def oi(kvs:List (κ×V))(k:κ)(v:V):List (κ×V):=
 if(kvs.any fun kv=>decide (kv.1=k))=true then kvs.map (fun kv=>if kv.1=k then(kv.1,v) else kv) else kvs++[(k,v)]
theorem ox{p:κ×V}{r:List (κ×V)}{k:κ}(e:p.1=k):oh (p::r) k=some p.2:=by simp[oh,rK,e]
theorem ml{p:κ×V}{r:List (κ×V)}{k:κ}(e: ¬p.1=k):oh (p::r) k=oh r k:=by simp[oh,rK,e]
theorem Aa(k:κ): ∀kvs:List (κ×V),(kvs.any fun kv=>decide (kv.1=k))=(oh kvs k).isSome
 |[]=>rfl
 |p::r=>by
  rw[rJ];by_cases e:p.1=k
  ·simp only[ox e,oo e,Bool.true_or,Option.isSome_some]
  ·rw[ml e,kx e,Bool.false_or];exact Aa k r
theorem tD(kvs:List (κ×V))(k:κ)(v:V):(oi kvs k v).length<=kvs.length+1:=by
 unfold oi;split
 ·rw[jF];omega
 ·rw[nX,lX,List.length_nil];omega
theorem RelO.isSome_eq{o:Option V}{u:Option Value}(r:RelO o u):o.isSome=u.isSome:=by
 cases o with
 |none=>cases u with
  |none=>rfl
  |some _=>exact(show False from r).elim
 |some _=>cases u with
  |none=>exact(show False from r).elim
  |some _=>rfl
theorem KV.val{kvs:List (κ×V)}{vs:List (κ×Value)}(r:KV kvs vs)(k:κ):RelO (oh kvs k) (valueAt vs k):=by
 unfold KV at r
 induction r with
 |nil=>exact True.intro
 | @cons p q ps qs h t ih=>
  obtain⟨h1,h2⟩:=h;by_cases e:p.1=k
  ·have e':q.1=k:=h1.symm.trans e;have b:valueAt (q::qs) k=some q.2:=by simp[valueAt,rK,e']
   rw[ox e,b];exact h2
  ·have e': ¬q.1=k:=fun z=>e (h1.trans z);have b:valueAt (q::qs) k=valueAt qs k:=by simp[valueAt,rK,e']
   rw[ml e,b];exact ih
theorem KV.any{kvs:List (κ×V)}{vs:List (κ×Value)}(r:KV kvs vs)(k:κ):(kvs.any fun kv=>decide (kv.1=k))=vs.any fun kv=>decide (kv.1=k):=by
 unfold KV at r
 induction r with
 |nil=>rfl
 |cons h t ih=>rw[rJ,rJ,ih,h.1]
theorem KV.repl{kvs:List (κ×V)}{vs:List (κ×Value)}(r:KV kvs vs)(k:κ){y:V}{u:gp}(ry:RelV y u):
  KV (kvs.map fun kv=>if kv.1=k then(kv.1,y) else kv) (vs.map fun kv=>if kv.1=k then(kv.1,u) else kv):=by
 unfold KV at r ⊢
 induction r with
 |nil=>exact .nil
 | @cons p q ps qs h t ih=>
  rw[ic,ic];refine .cons ?_ ih;obtain⟨h1,h2⟩:=h;by_cases e:p.1=k
  ·rw[gq e,gq (h1.symm.trans e)];exact⟨h1,ry⟩
  ·rw[gv e,gv (fun z=>e (h1.trans z))];exact⟨h1,h2⟩
theorem KV.put{kvs:List (κ×V)}{vs:List (κ×Value)}(r:KV kvs vs)(k:κ){y:V}{u:gp}(ry:RelV y u):KV (oi kvs k y) (stored vs k u):=by
 unfold oi stored;rw[r.any k];by_cases e:(vs.any fun kv=>decide (kv.1=k))=true
 ·rw[gq e,gq e];exact r.repl k ry
 ·rw[gv e,gv e];exact Paired.snoc r ⟨rfl,ry⟩
theorem KV.length{kvs:List (κ×V)}{vs:List (κ×Value)}(r:KV kvs vs):kvs.length=vs.length:=rP r
end
theorem xt{P:gC}{w:gy}{k:Key}{u:gp}(r:RelV (kV k) u):(jz P w).is k u=true:=by
 cases k with
 |inl i=>obtain⟨t,e⟩:=(show ∃t,u=Value.int i t from r);subst e;exact AB P w i t
 |inr x=>obtain⟨t,e⟩:=(show ∃t,u=Value.str x t from r);subst e;exact AA P w x t
theorem xu{P:gC}{w:gy}: ∀{ks:List Key} {us:hJ},Vals (ks.map kV) us->ItemsAre (jz P w) ks us
 |[],_,r=>by rw[qw] at r;cases r;exact .nil
 |k::ks,_,r=>by
  rw[ic] at r
  cases r with
  |cons h t=>exact .cons (xt h) (xu t)
abbrev KT(H:Hp):List (List Key×V)->List (List Key×Addr×Value)->Prop:=Paired fun p q=>p.1=q.1/\H q.2.1=some (.tup (p.1.map kV))/\RelV p.2 q.2.2
theorem KT.val{H:Hp}{kvs:List (List Key×V)}{xs:List (List Key×Addr×Value)}(r:KT H kvs xs)(k:List Key):RelO (oh kvs k) ((atKey xs k).map (·.2)):=by
 induction r with
 |nil=>exact True.intro
 | @cons p q ps qs h t ih=>
  obtain⟨h1,_,h2⟩:=h;by_cases e:p.1=k
  ·have e':q.1=k:=h1.symm.trans e;have b:atKey (q::qs) k=some q.2:=by simp[atKey,rK,e']
   rw[ox e,b];exact h2
  ·have e': ¬q.1=k:=fun z=>e (h1.trans z);have b:atKey (q::qs) k=atKey qs k:=by simp[atKey,rK,e']
   rw[ml e,b];exact ih
theorem KT.repl{H:Hp}{kvs:List (List Key×V)}{xs:List (List Key×Addr×Value)}(r:KT H kvs xs)(k:List Key){y:V}{u:gp}(ry:RelV y u):
  KT H (kvs.map fun kv=>if kv.1=k then(kv.1,y) else kv) (xs.map (putAt k u)):=by
 induction r with
 |nil=>exact .nil
 | @cons p q ps qs h t ih=>
  rw[ic,ic];refine .cons ?_ ih;obtain⟨h1,h2,h3⟩:=h;unfold putAt;by_cases e:p.1=k
  ·rw[gq e,gq (h1.symm.trans e)];exact⟨h1,h2,ry⟩
  ·rw[gv e,gv (fun z=>e (h1.trans z))];exact⟨h1,h2,h3⟩
theorem KT.put{H:Hp}{kvs:List (List Key×V)}{xs:List (List Key×Addr×Value)}(r:KT H kvs xs)(k:List Key){b:fZ}{y:V}{u:gp}(hb:H b=some (.tup (k.map kV)))(ry:RelV y u):
  KT H (oi kvs k y) (storedH xs k b u):=by
 have e:(kvs.any fun kv=>decide (kv.1=k))=(atKey xs k).isSome:=by
  rw[Aa,(r.val k).isSome_eq,BD]
 unfold oi storedH;rw[e];by_cases q:(atKey xs k).isSome=true
 ·rw[gq q,gq q];exact r.repl k ry
 ·rw[gv q,gv q];exact Paired.snoc r ⟨rfl,hb,ry⟩
theorem KT.keeps{H H':Hp}{kvs:List (List Key×V)}{xs:List (List Key×Addr×Value)}(r:KT H kvs xs)(ht: ∀b ys,H b=some (.tup ys)->H' b=some (.tup ys)):KT H' kvs xs:=
 Paired.mapP r fun _ _ z=>⟨z.1,ht _ _ z.2.1,z.2.2⟩
section
variable {P:gC}{w:gy}{H:Hp}{h:gz}{a:fZ}
theorem KR{u:HO}(ok:HOk P w H h)(e:Rd H a u):ObjOk P w H h a u:=e.ok ok
theorem IB{kvs:List (Key×V)}(ok:HOk P w H h)(e:Rd H a (.dK kvs)):kvs.length<=sizeLine/\(a==sysModules)=false/\ ∃vs,KV kvs vs/\h.DictOf (jz P w) a vs:=
 show ObjOk P w H h a (.dK kvs) from KR ok e
theorem IC{kvs:List (Key×V)}(ok:HOk P w H h)(e:H a=some (.dK kvs)):kvs.length<=sizeLine/\(a==sysModules)=false/\ ∃vs,KV kvs vs/\h.DictOf (jz P w) a vs:=IB ok (.inl e)
theorem sj{ks:List Key}(ok:HOk P w H h)(e:H a=some (.tup (ks.map kV))):(tupleKind (jz P w)).is h ks a:=by
 obtain⟨_,its,r,o,h1,h2,n,h3⟩:=(show ObjOk P w H h a (.tup (ks.map kV)) from ok a _ e)
 exact⟨o,its.toArray,n,h1,h2,h3,by simpa using xu r⟩
theorem Iz{kvs:List (List Key×V)}(ok:HOk P w H h)(e:Rd H a (.dT kvs)):kvs.length<=sizeLine/\(a==sysModules)=false/\
  ∃xs,KT H kvs xs/\h.DictOfH (tupleKind (jz P w)) a xs:=by
 obtain⟨z,y,xs,r,o,es,ep,h1,h2,h3,h4,h5⟩:=(show ObjOk P w H h a (.dT kvs) from KR ok e)
 refine⟨z,y,xs,r,o,es,ep,h1,h2,h3,h4,fun x hx=>?_,h5⟩
 have all: ∀{l:List (List Key×V)} {m:List (List Key×Addr×Value)},KT H l m-> ∀x∈m,(tupleKind (jz P w)).is h x.1 x.2.1:=by
  intro l m q
  induction q with
  |nil=>intro x hx;exact nomatch hx
  | @cons p q ps qs hq t ih=>
   intro x hx;rcases kb.mp hx with e|hx
   ·subst e;exact sj ok (by rw[<-hq.1];exact hq.2.1)
   ·exact ih x hx
 exact all r x hx
theorem IA{kvs:List (List Key×V)}(ok:HOk P w H h)(e:H a=some (.dT kvs)):kvs.length<=sizeLine/\(a==sysModules)=false/\
  ∃xs,KT H kvs xs/\h.DictOfH (tupleKind (jz P w)) a xs:=Iz ok (.inl e)
end
def DGet(H:Hp)(a:fZ)(y:V)(r:Option V):Prop:=
 (∃kvs k,Rd H a (.dK kvs)/\y=kV k/\r=oh kvs k)\/ ∃kvs k b,Rd H a (.dT kvs)/\y= .ref b/\H b=some (.tup (k.map kV))/\r=oh kvs k
def DPut(H:Hp)(a:fZ)(y v:V)(H':Hp):Prop:=
 (∃kvs k,H a=some (.dK kvs)/\y=kV k/\kvs.length<sizeLine/\H'=upd H a (.dK (oi kvs k v)))\/
 ∃kvs k b,H a=some (.dT kvs)/\y= .ref b/\H b=some (.tup (k.map kV))/\kvs.length<sizeLine/\H'=upd H a (.dT (oi kvs k v))
theorem DGet.k{H:Hp}{a:fZ}{kvs:List (Key×V)}{k:Key}(e:H a=some (.dK kvs)):DGet H a (kV k) (oh kvs k):= .inl ⟨kvs,k,.inl e,rfl,rfl⟩
theorem DGet.t{H:Hp}{a b:fZ}{kvs:List (List Key×V)}{k:List Key}(e:H a=some (.dT kvs))(eb:H b=some (.tup (k.map kV))):DGet H a (.ref b) (oh kvs k):= .inr ⟨kvs,k,b,.inl e,rfl,eb,rfl⟩
theorem DPut.k{H:Hp}{a:fZ}{kvs:List (Key×V)}{k:Key}{v:V}(e:H a=some (.dK kvs))(hl:kvs.length<sizeLine):DPut H a (kV k) v (upd H a (.dK (oi kvs k v))):= .inl ⟨kvs,k,e,rfl,hl,rfl⟩
theorem DPut.t{H:Hp}{a b:fZ}{kvs:List (List Key×V)}{k:List Key}{v:V}(e:H a=some (.dT kvs))(eb:H b=some (.tup (k.map kV)))(hl:kvs.length<sizeLine):
  DPut H a (.ref b) v (upd H a (.dT (oi kvs k v))):= .inr ⟨kvs,k,b,e,rfl,eb,hl,rfl⟩
section
variable {X:Cx}{pins:gO}{σ:St}{H:Hp}{s:gi}{a:fZ}{y v:V}{u r:gp}{o:Option V}{A:gB}{E:gU}
theorem Inv.big(I:Inv X pins σ H s):sysModules<s.heap.objs.size:=by
 have h:mainGlobals<s.heap.objs.size:=(I.mod.glob.keeps I.bk).lt;exact BF (by decide) h
theorem OB{Q:gU}(hu:A.units+1<cLine)(I:Inv X pins σ H s)(g:DGet H a y o)(ry:RelV y u)(h: ∀s',Inv X pins σ H s'->Q (.bool o.isSome) s'):
  wpAny (model X.prog X.w) A (compareOp .In u (.ref a)) Q E s:=by
 rcases g with⟨kvs,k,e,ey,l⟩|⟨kvs,k,b,e,ey,eb,l⟩
 ·subst ey;obtain⟨z,hd,vs,rel,dd⟩:=IB I.hok e;refine wpAny_in_of (xt ry) hd dd.mapOf ?_;rw[<-(rel.val k).isSome_eq,<-l];exact h _ (I.tok _)
 ·subst ey;cases(show u=Value.ref b from ry);obtain⟨z,hd,xs,rel,dd⟩:=Iz I.hok e;refine wpAny_in_heap (uK hu) (sj I.hok eb) hd dd ?_;have q:=(rel.val k).isSome_eq;rw[BD] at q;rw[<-q,<-l];exact h _ (I.tok _)
theorem D5{Q:gU}(hu:A.units+1<cLine)(I:Inv X pins σ H s)(g:DGet H a y o)(ry:RelV y u)(h: ∀s',Inv X pins σ H s'->Q (.bool (!o.isSome)) s'):
  wpAny (model X.prog X.w) A (compareOp .NotIn u (.ref a)) Q E s:=by
 rcases g with⟨kvs,k,e,ey,l⟩|⟨kvs,k,b,e,ey,eb,l⟩
 ·subst ey;obtain⟨z,hd,vs,rel,dd⟩:=IB I.hok e;refine wpAny_notIn_of (xt ry) hd dd.mapOf ?_;rw[<-(rel.val k).isSome_eq,<-l];exact h _ (I.tok _)
 ·subst ey;cases(show u=Value.ref b from ry);obtain⟨z,hd,xs,rel,dd⟩:=Iz I.hok e;refine wpAny_notIn_heap (uK hu) (sj I.hok eb) hd dd ?_;have q:=(rel.val k).isSome_eq;rw[BD] at q;rw[<-q,<-l];exact h _ (I.tok _)
theorem um{h':gz}{t':Nat}{ob:HO}(I:Inv X pins σ H s)(mu:Mut (H a))(hs:Heap.SameBut a s.heap h')(he: ∃q,h'.get? a=some q)(new:ObjOk X.prog X.w (upd H a ob) h' a ob):
  Inv X pins σ (upd H a ob) {s with heap:=h',toks:=t'}:=
 I.write (x:=a) (e:=a) mu (.inl rfl) (fun b q hb z=>(hs.2 b hb).trans z) he new
theorem Nf{P:gC}{w:gy}{H':Hp}{h':gz}{kvs:List (Key×V)}{vs:List (Key×Value)}(z:kvs.length<=sizeLine)(hd:(a==sysModules)=false)(rel:KV kvs vs)(dd:h'.DictOf (jz P w) a vs):
  ObjOk P w H' h' a (.dK kvs):=⟨z,hd,vs,rel,dd⟩
theorem sA{H':Hp}{Q:Unit->Shared->Prop}(hu:A.units+1<cLine)(I:Inv X pins σ H s)(g:DPut H a y v H')(ry:RelV y u)(rv:RelV v r)(h: ∀s',Inv X pins σ H' s'->Q () s'):
  wpAny (model X.prog X.w) A (setItem (.ref a) u r) Q E s:=by
 rcases g with⟨kvs,k,e,ey,l,eH⟩|⟨kvs,k,b,e,ey,eb,l,eH⟩
 ·subst ey eH;obtain⟨z,hd,vs,rel,dd⟩:=IC I.hok e;have hz:vs.length<=sizeLine:=by rw[<-rel.length];exact z
  have hl:(oi kvs k v).length<=sizeLine:=by have:=tD kvs k v;omega
  refine wpAny_setItem_pairs (hsz:=hz) (xt ry) dd fun h' ej hs=>h _ ?_;have he: ∃q,h'.get? a=some q:=let⟨q,_,_,hq,_⟩:=ej;⟨q,hq⟩
  exact um I (by rw[e];exact True.intro) hs he (Nf hl hd (rel.put k rv) ej)
 ·subst ey eH;cases(show u=Value.ref b from ry);obtain⟨z,hd,xs,rel,dd⟩:=IA I.hok e;have hz:xs.length<=sizeLine:=by rw[<-rP rel];exact z
  have hl:(oi kvs k v).length<=sizeLine:=by have:=tD kvs k v;omega
  refine wpAny_setItem_heap (hsz:=hz) (uK hu) (sj I.hok eb) dd fun h' ej hs=>h _ ?_;obtain⟨q,es,ep,hq,h2,h3,h4,_,h5⟩:=ej;refine um I (by rw[e];exact True.intro) hs ⟨q,hq⟩ ⟨hl,hd,_,(rel.put k eb rv).keeps fun c ys ec=>?_,q,es,ep,hq,h2,h3,h4,h5⟩;rw[gK (K6 ec e (fun z=>nomatch z))];exact ec
end
theorem ID{P:gC}{w:gy}{H:Hp}(h:gz)(hb:sysModules<h.objs.size):ObjOk P w H (h.push {cls:= .type "dict",data:= .dict #[]}) h.objs.size (.dK []):=
 ⟨mB _,beq_eq_false_iff_ne.mpr (lN (iF hb)),[],.nil,Heap.DictOf.new h⟩
noncomputable def Lr:TE:=fun _ H Q=> ∀p,H p=none->Q (.ref p) (upd H p (.dK []))
section
variable {X:Cx}{pos:Pos}
theorem Hx:PE X (.Dict [] [] pos) Lr:=fun pins s σ H Q I h=>
 wpAny_Dict_empty ⟨.ref s.heap.objs.size,_,I.laid (a:=s.heap.objs.size) (o:= .dK []) (t':=s.toks) (fun _ _ q=>iM _ q) (ig _) (ID s.heap I.big),rfl,h _ (I.hok.fresh (ig _))⟩
end
end L2
namespace PX
open PySem PySem.Spec PyProof.Rows L2
inductive OK where
 |dct|set|fn(i:Nat)|exc(c:Nat)
 deriving DecidableEq
inductive D where
 |non|bl(b:Bool)|int(i:Int)|str(x:Str)|tup(l:List D)|lst(l:List D)|oth(k:OK)(ks vs:List D)
mutual
/-- the hash of ints and of tuples of such -/
noncomputable def D.hash:D->Int
 | .int i=>hashInt i
 | .tup l=>reduceHash (Builtin.Tuple.tupleHashOf (D.hashL l))
 |_=>0
noncomputable def D.hashL:List D->List Int
 |[]=>[]
 |d::l=>D.hash d::D.hashL l
end
noncomputable def iG:Key->D
 | .inl i=> .int i
 | .inr x=> .str x
def QN(K:gA)(o:Obj)(C:Nat):Prop:=o.cls= .ref C/\(∀a:Addr,PySem.W.KitX K (.ref a) (.ref C) fun h=>h.get? a=some o)/\ ∀n∈["int","bool","str","tuple","list","dict"],PySem.W.kitOne K (.ref C) (.type n)=some false
def OthB(K:gA)(h:Option HO)(k:OK)(ks vs:List D)(us:List V):Prop:=
 match k with
 | .dct=>(∃kvs:List (Key×V),h=some (.dK kvs)/\ks=kvs.map (fun p=>iG p.1)/\us=kvs.map (·.2))\/
   (∃kvs:List (List Key×V),h=some (.dT kvs)/\ks=kvs.map (fun p=> .tup (p.1.map iG))/\us=kvs.map (·.2))
 | .set=>ks=[]/\ ∃zs:List (Int×V),h=some (.stt zs)/\zs.Perm ((D.hashL vs).zip us)
 | .exc C=>(ks=[]/\vs=[]/\us=[])/\ ∃o,h=some (.frz o (.own 0))/\QN K o C
 |_=>False
theorem OthB.ex{K h k ks vs us}(x:OthB K h k ks vs us): ∃o,h=some o:=by
 cases k with
 |dct=>rcases x with⟨_,e,_⟩|⟨_,e,_⟩<;>exact⟨_,e⟩
 |set=>obtain⟨_,_,e,_⟩:=x;exact⟨_,e⟩
 |exc C=>obtain⟨_,_,e,_⟩:=x;exact⟨_,e⟩
 |_=>exact x.elim
theorem OthB.keep{K k ks vs us}(x:OthB K h k ks vs us)(kp: ∀o,h=some o->h'=some o):OthB K h' k ks vs us:=by
 obtain⟨o,e⟩:=x.ex;rw[kp o e,<-e];exact x
abbrev AP':=Addr->Prop
def KT(K:gA)(a:fZ)(xs:List V):Prop:= ∃(o:Obj) (its:jI) (n:Nat),K.lookup a=some o/\o.cls= .type "tuple"/\o.data= .seq its n/\its.size<=sizeLine/\Vals xs its.toList
def KL(K:gA)(a:fZ)(xs:List V):Prop:= ∃(o:Obj) (its:jI) (n:Nat),K.lookup a=some o/\o.cls= .type "list"/\o.dict=none/\o.data= .seq its n/\its.size<=sizeLine/\Vals xs its.toList
def SqTO(K:gA)(H:Hp)(O:AP')(a:fZ)(xs:List V):Prop:=H a=some (.tup xs)/\ ¬O a
def SqLO(K:gA)(H:Hp)(O:AP')(a:fZ)(xs:List V):Prop:=(Rd H a (.lst xs)/\ ¬O a)\/KL K a xs
theorem SqTO.sq{K H O a xs}(h:SqTO K H O a xs):SqT K H a xs:= .inl (.inl h.1)
theorem SqLO.sq{K H O a xs}(h:SqLO K H O a xs):SqL K H a xs:=h.elim (fun z=> .inl z.1) .inr
theorem Rd.mono{a u}(h:Rd H a u)(k: ∀o,H a=some o->H' a=some o):Rd H' a u:=by
 rcases h with h|⟨o,h⟩
 ·exact .inl (k _ h)
 ·exact .inr ⟨o,k _ h⟩
theorem SqTO.mono{K H H'}{a xs}(h:SqTO K H O a xs)(k: ∀b o,H b=some o-> ¬O b->H' b=some o)(hO: ∀b,H b≠none->O' b->O b):SqTO K H' O' a xs:=
 ⟨k a _ h.1 h.2,fun z=>h.2 (hO a (by rw[h.1];simp) z)⟩
theorem SqLO.mono{K H H'}{a xs}(h:SqLO K H O a xs)(k: ∀b o,H b=some o-> ¬O b->H' b=some o)(hO: ∀b,H b≠none->O' b->O b):SqLO K H' O' a xs:=by
 rcases h with⟨r,n⟩|h
 ·refine .inl ⟨Rd.mono r fun o e=>k a o e n,fun z=>n (hO a ?_ z)⟩;rcases r with r|⟨_,r⟩<;>(rw[r];simp)
 ·exact .inr h
mutual
/-- v is the datum,in H;nothing of it stands at an address of O -/
def Rep(K:gA)(H:Hp)(O:AP'):D->V->Prop
 | .non,v=>v= .non
 | .bl b,v=>v= .bl b
 | .int i,v=>v= .int i
 | .str x,v=>v= .str x
 | .tup l,v=> ∃a xs,v= .ref a/\SqTO K H O a xs/\RepL K H O l xs
 | .lst l,v=> ∃a xs,v= .ref a/\SqLO K H O a xs/\RepL K H O l xs
 | .oth k ks vs,v=> ∃a us,v= .ref a/\(¬O a/\OthB K (H a) k ks vs us)/\RepL K H O vs us
def RepL(K:gA)(H:Hp)(O:AP'):List D->List V->Prop
 |[],vs=>vs=[]
 |d::l,vs=> ∃v r,vs=v::r/\Rep K H O d v/\RepL K H O l r
end
mutual
theorem Rep.mono{K H H'}{O O':AP'}(k: ∀b o,H b=some o-> ¬O b->H' b=some o)(hO: ∀b,H b≠none->O' b->O b): ∀{d:D} {v:V},Rep K H O d v->Rep K H' O' d v
 | .non,_,h=>h
 | .bl _,_,h=>h
 | .int _,_,h=>h
 | .str _,_,h=>h
 | .tup l,_,h=>by
  rw[Rep] at h ⊢;obtain⟨a,xs,e,s,r⟩:=h;exact⟨a,xs,e,s.mono k hO,RepL.mono k hO r⟩
 | .lst l,_,h=>by
  rw[Rep] at h ⊢;obtain⟨a,xs,e,s,r⟩:=h;exact⟨a,xs,e,s.mono k hO,RepL.mono k hO r⟩
 | .oth kk ks vs,_,h=>by
  rw[Rep] at h ⊢;obtain⟨a,us,e,s,r⟩:=h;exact⟨a,us,e,⟨fun z=>s.1 (hO a (by obtain⟨o,q⟩:=s.2.ex;rw[q];simp) z),s.2.keep fun o q=>k a o q s.1⟩,RepL.mono k hO r⟩
theorem RepL.mono{K H H'}{O O':AP'}(k: ∀b o,H b=some o-> ¬O b->H' b=some o)(hO: ∀b,H b≠none->O' b->O b): ∀{l:List D} {vs:List V},RepL K H O l vs->RepL K H' O' l vs
 |[],_,h=>h
 |d::l,_,h=>by
  rw[RepL] at h ⊢;obtain⟨v,r,e,h1,h2⟩:=h;exact⟨v,r,e,Rep.mono k hO h1,RepL.mono k hO h2⟩
end
theorem Rep.mkInt{K H O i}:Rep K H O (.int i) (.int i):=by rw[Rep]
theorem Rep.mkBl{K H O i}:Rep K H O (.bl i) (.bl i):=by rw[Rep]
theorem Rep.mkNon{K H O}:Rep K H O .non .non:=by rw[Rep]
theorem Rep.mkStr{K H O i}:Rep K H O (.str i) (.str i):=by rw[Rep]
theorem Rep.int{K H O i v}(h:Rep K H O (.int i) v):v= .int i:=by rwa [Rep] at h
theorem Rep.bl{K H O i v}(h:Rep K H O (.bl i) v):v= .bl i:=by rwa [Rep] at h
theorem Rep.non{K H O v}(h:Rep K H O .non v):v= .non:=by rwa [Rep] at h
theorem Rep.str{K H O i v}(h:Rep K H O (.str i) v):v= .str i:=by rwa [Rep] at h
theorem Rep.tup{K H O l v}(h:Rep K H O (.tup l) v): ∃a xs,v= .ref a/\SqTO K H O a xs/\RepL K H O l xs:=by rwa [Rep] at h
theorem Rep.lst{K H O l v}(h:Rep K H O (.lst l) v): ∃a xs,v= .ref a/\SqLO K H O a xs/\RepL K H O l xs:=by rwa [Rep] at h
theorem Rep.oth{K H O k ks vs v}(h:Rep K H O (.oth k ks vs) v): ∃a us,v= .ref a/\(¬O a/\OthB K (H a) k ks vs us)/\RepL K H O vs us:=by rwa [Rep] at h
theorem Rep.mkOth{K H O k ks vs a us}(n: ¬O a)(h:OthB K (H a) k ks vs us)(r:RepL K H O vs us):Rep K H O (.oth k ks vs) (.ref a):=by rw[Rep];exact⟨a,us,rfl,⟨n,h⟩,r⟩
theorem Rep.mkTup{K H O l a xs}(h:SqTO K H O a xs)(r:RepL K H O l xs):Rep K H O (.tup l) (.ref a):=by rw[Rep];exact⟨a,xs,rfl,h,r⟩
theorem Rep.mkLst{K H O l a xs}(h:SqLO K H O a xs)(r:RepL K H O l xs):Rep K H O (.lst l) (.ref a):=by rw[Rep];exact⟨a,xs,rfl,h,r⟩
theorem RepL.length{K H O}: ∀{l:List D} {vs:List V},RepL K H O l vs->vs.length=l.length
 |[],vs,h=>by rw[RepL] at h;rw[h];rfl
 |d::l,vs,h=>by
  rw[RepL] at h;obtain⟨v,r,rfl,_,h2⟩:=h;simp[RepL.length h2]
theorem RepL.get{K H O}: ∀{l:List D} {vs:List V} {i:Nat} {d:D},RepL K H O l vs->l[i]?=some d-> ∃v,vs[i]?=some v/\Rep K H O d v
 |[],_,_,_,_,e=>by simp at e
 |d::l,vs,0,d',h,e=>by
  rw[RepL] at h;obtain⟨v,r,rfl,h1,_⟩:=h;simp at e;subst e;exact⟨v,rfl,h1⟩
 |d::l,vs,i+1,d',h,e=>by
  rw[RepL] at h;obtain⟨v,r,rfl,_,h2⟩:=h;obtain⟨w,h3,h4⟩:=RepL.get (i:=i) h2 (by simpa using e);exact⟨w,by simpa using h3,h4⟩
theorem RepL.append{K H O}: ∀{l m:List D} {vs ws:List V},RepL K H O l vs->RepL K H O m ws->RepL K H O (l++m) (vs++ws)
 |[],_,vs,_,h,h'=>by rw[RepL] at h;subst h;exact h'
 |d::l,_,vs,_,h,h'=>by
  rw[RepL] at h;obtain⟨v,r,rfl,h1,h2⟩:=h;show RepL K H O (d::(l++_)) _;rw[RepL];exact⟨v,_,rfl,h1,RepL.append h2 h'⟩
theorem RepL.one{K H O}{d:D}{v:V}(h:Rep K H O d v):RepL K H O [d] [v]:=by
 rw[RepL];exact⟨v,[],rfl,h,by rw[RepL]⟩
theorem RepL.nil{K H O}:RepL K H O [] []:=by rw[RepL]
theorem RepL.cons{K H O}{l vs}(h:Rep K H O d v)(h':RepL K H O l vs):RepL K H O (d::l) (v::vs):=by
 rw[RepL];exact⟨v,vs,rfl,h,h'⟩
theorem RepL.take{K H O}: ∀{l:List D} {vs:List V} (n:Nat),RepL K H O l vs->RepL K H O (l.take n) (vs.take n)
 |_,_,0,_=>by simp[RepL]
 |[],vs,n+1,h=>by rw[RepL] at h;subst h;simp[RepL]
 |d::l,vs,n+1,h=>by
  rw[RepL] at h;obtain⟨v,r,rfl,h1,h2⟩:=h;exact RepL.cons h1 (RepL.take n h2)
theorem RepL.drop{K H O}: ∀{l:List D} {vs:List V} (n:Nat),RepL K H O l vs->RepL K H O (l.drop n) (vs.drop n)
 |_,_,0,h=>h
 |[],vs,n+1,h=>by rw[RepL] at h;subst h;simp[RepL]
 |d::l,vs,n+1,h=>by
  rw[RepL] at h;obtain⟨v,r,rfl,h1,h2⟩:=h;exact RepL.drop n h2
theorem RepL.set{K H O}{d:D}{v:V}(hv:Rep K H O d v): ∀{l:List D} {vs:List V} (i:Nat),RepL K H O l vs->RepL K H O (l.set i d) (vs.set i v)
 |[],vs,i,h=>by rw[RepL] at h;subst h;simp[RepL]
 |e::l,vs,0,h=>by
  rw[RepL] at h;obtain⟨w,r,rfl,h1,h2⟩:=h;exact RepL.cons hv h2
 |e::l,vs,i+1,h=>by
  rw[RepL] at h;obtain⟨w,r,rfl,h1,h2⟩:=h;exact RepL.cons h1 (RepL.set hv i h2)
abbrev Sl:=Option (D×Bool)
abbrev Dn:=List Sl
def OwnA(σ:L2.St)(δ:Dn)(a:fZ):Prop:= ∃(i:Nat) (d:D),δ[i]?=some (some (d,true))/\σ[i]?=some (some (V.ref a))
def OwnOk(K:gA)(H:Hp)(O:AP'):D->Addr->Prop
 | .lst l,a=> ∃xs,H a=some (.lst xs)/\RepL K H O l xs
 | .oth k ks vs,a=> ∃us,OthB K (H a) k ks vs us/\RepL K H O vs us
 |_,_=>False
theorem OwnOk.mono{K H H'}(h:OwnOk K H O d a)(k: ∀b o,H b=some o-> ¬O b->H' b=some o)(hO: ∀b,H b≠none->O' b->O b)(ka: ∀o,H a=some o->H' a=some o):OwnOk K H' O' d a:=by
 cases d with
 |lst l=>obtain⟨xs,e,r⟩:=h;exact⟨xs,ka _ e,RepL.mono k hO r⟩
 |oth kk ks vs=>obtain⟨us,e,r⟩:=h;exact⟨us,e.keep ka,RepL.mono k hO r⟩
 |_=>exact h
theorem OwnOk.rep{K H}(h:OwnOk K H O d a)(na: ¬O' a)(hO: ∀b,H b≠none->O' b->O b):Rep K H O' d (.ref a):=by
 cases d with
 |lst l=>
  obtain⟨xs,e,r⟩:=h;rw[Rep];exact⟨a,xs,rfl,.inl ⟨.inl e,na⟩,RepL.mono (fun b o e _=>e) hO r⟩
 |oth kk ks vs=>
  obtain⟨us,e,r⟩:=h;exact Rep.mkOth na e (RepL.mono (fun b o e _=>e) hO r)
 |_=>exact h.elim
def Ow:Option HO->Prop
 |none=>False
 |some (.tup _)=>False
 |_=>True
theorem Ow.ne{o:Option HO}(h:Ow o):o≠none:=fun e=>by rw[e] at h;exact h
theorem Ow.up{o o':Option HO}(h:Ow o)(k: ∀x,o=some x->o'=some x):Ow o':=by
 cases o with
 |none=>exact h.elim
 |some x=>rw[k x rfl];exact h
theorem nOw{o:Option HO}(h:o=none): ¬Ow o:=fun z=>z.ne h
theorem Ow.nt{o:Option HO}(h:Ow o)(xs:List V):o≠some (.tup xs):=fun e=>by rw[e] at h;exact h
theorem OwnOk.ow{K H}{O:AP'}{d:D}{a:fZ}(h:OwnOk K H O d a):Ow (H a):=by
 cases d with
 |lst l=>obtain⟨xs,e,_⟩:=h;rw[e];trivial
 |oth k ks vs=>
  obtain⟨us,e,_⟩:=h
  cases k with
  |dct=>rcases e with⟨_,e,_⟩|⟨_,e,_⟩<;>(rw[e];trivial)
  |set=>obtain⟨_,_,e,_⟩:=e;rw[e];trivial
  |exc C=>obtain⟨_,_,e,_⟩:=e;rw[e];trivial
  |_=>exact e.elim
 |_=>exact h.elim
structure ER(K:gA)(H:Hp)(T:AP')(σ:L2.St)(δ:Dn):Prop where
 len:σ.length=δ.length
 val: ∀(i:Nat) (d:D),δ[i]?=some (some (d,false))-> ∃v,σ[i]?=some (some v)/\Rep K H (fun a=>OwnA σ δ a\/T a) d v
 own: ∀(i:Nat) (d:D),δ[i]?=some (some (d,true))-> ∃a,σ[i]?=some (some (V.ref a))/\OwnOk K H (fun a=>OwnA σ δ a\/T a) d a
 inj: ∀(i j:Nat) (d e:D) (a:fZ),δ[i]?=some (some (d,true))->δ[j]?=some (some (e,true))->σ[i]?=some (some (V.ref a))->σ[j]?=some (some (V.ref a))->i=j
 nT: ∀a,OwnA σ δ a-> ¬T a
 dom: ∀a,T a->Ow (H a)
theorem ER.ownOw{K H T σ δ}(E:ER K H T σ δ)(h:OwnA σ δ a):Ow (H a):=by
 obtain⟨i,d,h1,h2⟩:=h;obtain⟨b,h3,h4⟩:=E.own i d h1;rw[h2] at h3;cases h3;exact h4.ow
theorem ER.ownDom{K H T σ δ}(E:ER K H T σ δ)(h:OwnA σ δ a):H a≠none:=(E.ownOw h).ne
theorem ER.mono{K H H' σ δ}(E:ER K H T σ δ)(k: ∀b o,H b=some o-> ¬T b->H' b=some o)(hT: ∀b,H b≠none->T' b->T b)(hd: ∀a,T' a->Ow (H' a)):ER K H' T' σ δ where
 len:=E.len
 val:=fun i d h=>by
  obtain⟨v,h1,h2⟩:=E.val i d h;exact⟨v,h1,Rep.mono (fun b o e n=>k b o e fun z=>n (.inr z)) (fun b hb z=>z.elim .inl fun z=> .inr (hT b hb z)) h2⟩
 own:=fun i d h=>by
  obtain⟨a,h1,h2⟩:=E.own i d h;exact⟨a,h1,h2.mono (fun b o e n=>k b o e fun z=>n (.inr z)) (fun b hb z=>z.elim .inl fun z=> .inr (hT b hb z)) fun o e=>k a o e (E.nT a ⟨i,d,h,h1⟩)⟩
 inj:=E.inj
 nT:=fun a h z=>E.nT a h (hT a (E.ownDom h) z)
 dom:=hd
theorem OwnA.set(h:OwnA σ (δ.set i (some (d,false))) a):OwnA σ δ a:=by
 obtain⟨j,e,h1,h2⟩:=h;rw[uJ] at h1;split at h1
 ·split at h1<;>simp at h1
 ·exact⟨j,e,h1,h2⟩
theorem ER.freeze{K H T σ δ}(E:ER K H T σ δ){i:Nat}{d:D}{b:Bool}(h:δ[i]?=some (some (d,b))):ER K H T σ (δ.set i (some (d,false)))/\ ∃v,σ[i]?=some (some v)/\Rep K H (fun a=>OwnA σ (δ.set i (some (d,false))) a\/T a) d v:=by
 have hi:i<δ.length:=(rk.mp h).1
 have me: ∃v,σ[i]?=some (some v)/\Rep K H (fun a=>OwnA σ (δ.set i (some (d,false))) a\/T a) d v:=by
  cases b with
  |false=>
   obtain⟨v,h1,h2⟩:=E.val i d h;exact⟨v,h1,Rep.mono (fun _ _ e _=>e) (fun b _ z=>z.elim (fun z=> .inl z.set) .inr) h2⟩
  |true=>
   obtain⟨a,h1,h2⟩:=E.own i d h;refine⟨.ref a,h1,h2.rep (fun z=>?_) fun b _ z=>z.elim (fun z=> .inl z.set) .inr⟩;rcases z with⟨j,e,h3,h4⟩|z
   ·rw[uJ] at h3;split at h3
    ·first
      |(split at h3<;>simp at h3)
      |simp at h3
    ·rename_i t8;exact t8 (E.inj i j d e a h h3 h1 h4)
   ·exact E.nT a ⟨i,d,h,h1⟩ z
 refine⟨⟨by rw[oq];exact E.len,fun j e hj=>?_,fun j e hj=>?_,fun j k e f a hj hk h1 h2=>?_,fun a z=>E.nT a z.set,E.dom⟩,me⟩
 ·by_cases k6:i=j
  ·subst k6;rw[kY hi] at hj;cases hj;exact me
  ·rw[md k6] at hj;obtain⟨v,h1,h2⟩:=E.val j e hj;exact⟨v,h1,Rep.mono (fun _ _ e _=>e) (fun b _ z=>z.elim (fun z=> .inl z.set) .inr) h2⟩
 ·by_cases k6:i=j
  ·subst k6;rw[kY hi] at hj;cases hj
  ·rw[md k6] at hj;obtain⟨a,h1,h2⟩:=E.own j e hj;exact⟨a,h1,h2.mono (fun _ _ e _=>e) (fun b _ z=>z.elim (fun z=> .inl z.set) .inr) fun _ e=>e⟩
 ·have g1:δ[j]?=some (some (e,true)):=by
   by_cases k6:i=j
   ·subst k6;rw[kY hi] at hj;cases hj
   ·rwa [md k6] at hj
  have g2:δ[k]?=some (some (f,true)):=by
   by_cases k6:i=k
   ·subst k6;rw[kY hi] at hk;cases hk
   ·rwa [md k6] at hk
  exact E.inj j k e f a g1 g2 h1 h2
def OwnI(σ:L2.St)(δ:Dn)(i:Nat)(a:fZ):Prop:= ∃d:D,δ[i]?=some (some (d,true))/\σ[i]?=some (some (V.ref a))
structure Keep(σ:L2.St)(δ:Dn)(H:Hp)(δ':Dn)(H':Hp):Prop where
 kp: ∀a o,H a=some o-> ¬OwnA σ δ a->H' a=some o
 owi: ∀i a,OwnI σ δ' i a->OwnI σ δ i a
 dm: ∀a,H a≠none->H' a≠none
theorem Keep.ow{σ δ H δ' H'}(k:Keep σ δ H δ' H')(a:fZ)(h:OwnA σ δ' a):OwnA σ δ a:=by
 obtain⟨i,d,h1,h2⟩:=h;obtain⟨e,h3,h4⟩:=k.owi i a ⟨d,h1,h2⟩;exact⟨i,e,h3,h4⟩
theorem Keep.refl{σ δ H}:Keep σ δ H δ H:=⟨fun _ _ e _=>e,fun _ _ z=>z,fun _ z=>z⟩
theorem Keep.trans{σ δ δ1 δ2 H H1 H2}(x:Keep σ δ H δ1 H1)(y:Keep σ δ1 H1 δ2 H2):Keep σ δ H δ2 H2:=
 ⟨fun a o e n=>y.kp a o (x.kp a o e n) fun z=>n (x.ow a z),fun i a z=>x.owi i a (y.owi i a z),fun a z=>y.dm a (x.dm a z)⟩
theorem Keep.ext{σ δ H H1}(k: ∀a o,H a=some o->H1 a=some o):Keep σ δ H δ H1:=⟨fun a o e _=>k a o e,fun _ _ z=>z,fun a z=>by
 cases h:H a with
 |none=>exact absurd h z
 |some o=>rw[k a o h];simp⟩
theorem OwnI.set(h:OwnI σ (δ.set i (some (d,false))) j a):OwnI σ δ j a:=by
 obtain⟨e,h1,h2⟩:=h;rw[uJ] at h1;split at h1
 ·split at h1<;>simp at h1
 ·exact⟨e,h1,h2⟩
theorem Keep.set{σ δ H i d}:Keep σ δ H (δ.set i (some (d,false))) H:=⟨fun _ _ e _=>e,fun _ _ z=>z.set,fun _ z=>z⟩
def Post(K:gA)(T:AP')(σ:L2.St)(δ:Dn)(H:Hp)(r:D×Bool)(δ':Dn)(v:V)(H':Hp):Prop:=
 Keep σ δ H δ' H'/\
 match r with
 |(d,false)=>ER K H' T σ δ'/\Rep K H' (fun a=>OwnA σ δ' a\/T a) d v
 |(d,true)=> ∃p,v= .ref p/\H p=none/\ER K H' (fun a=>T a\/a=p) σ δ'/\OwnOk K H' (fun a=>OwnA σ δ' a\/T a\/a=p) d p
abbrev F:=Dn->Option ((D×Bool)×Dn)
def tF(K:gA)(f:F):TE:=fun σ H Q=> ∃δ T r δ',ER K H T σ δ/\f δ=some (r,δ')/\ ∀v H',Post K T σ δ H r δ' v H'->Q v H'
def PX(X:Cx)(e:gm)(f:F):Prop:=PE X e (tF X.K f)
noncomputable def Tmp(T:AP')(r:D×Bool)(v:V):AP':=fun a=>T a\/(r.2=true/\v= .ref a)
section
variable {K:gA}{T:AP'}{σ:L2.St}{δ δ1 δ2:Dn}{H H1 H2:Hp}{x y:D×Bool}{v u:V}
theorem Post.er(E:ER K H T σ δ)(P:Post K T σ δ H x δ1 v H1):ER K H1 (Tmp T x v) σ δ1:=by
 obtain⟨d,b⟩:=x
 cases b with
 |false=>
  refine P.2.1.mono (fun _ _ e _=>e) (fun b _ z=>z.elim id fun z=>absurd z.1 (by simp)) (fun a z=>?_);rcases z with z|z
  ·exact P.2.1.dom a z
  ·exact absurd z.1 (by simp)
 |true=>
  obtain⟨p,rfl,hp,E1,o1⟩:=P.2;refine E1.mono (fun _ _ e _=>e) (fun b _ z=>z.elim .inl fun z=> .inr (by have:=z.2;cases this;rfl)) (fun a z=>?_);rcases z with z|z
  ·exact E1.dom a (.inl z)
  ·have:=z.2;cases this;exact E1.dom _ (.inr rfl)
theorem Post.rep(E:ER K H T σ δ)(P:Post K T σ δ H x δ1 v H1):ER K H1 T σ δ1/\Rep K H1 (fun a=>OwnA σ δ1 a\/T a) x.1 v:=by
 obtain⟨d,b⟩:=x
 cases b with
 |false=>exact P.2
 |true=>
  obtain⟨p,rfl,hp,E1,o1⟩:=P.2;refine⟨E1.mono (fun _ _ e _=>e) (fun b _ z=> .inl z) (fun a z=>E1.dom a (.inl z)),o1.rep (fun z=>?_) fun b _ z=>z.elim .inl fun z=> .inr (.inl z)⟩;rcases z with z|z
  ·exact E1.nT p z (.inr rfl)
  ·exact(E.dom p z).ne hp
theorem Post.val(k:Keep σ δ H δ2 H2)(E:ER K H2 T σ δ2)(r:Rep K H2 (fun a=>OwnA σ δ2 a\/T a) d w):Post K T σ δ H (d,false) δ2 w H2:=⟨k,E,r⟩
end
theorem gH{α β:Type}{a a':α}{b b':β}(h:some (a,b)=some (a',b')):a=a'/\b=b':=by cases h;exact⟨rfl,rfl⟩
noncomputable def fC(d:D):F:=fun δ=>some ((d,false),δ)
noncomputable def kW(i:Nat):F:=fun δ=>match δ[i]? with
 |some (some (d,_))=>some ((d,false),δ.set i (some (d,false)))
 |_=>none
section
variable {X:Cx}{a b c:gm}{pos:Pos}{fa fb fc:F}
theorem PX.imp(h:PE X e t)(k: ∀σ H Q,tF X.K f σ H Q->t σ H Q):PX X e f:=fun pins s σ H Q I hw=>h pins s σ H Q I (k σ H Q hw)
theorem L9{i j}:PX X (.Constant (.int i) j pos) (fC (.int i)):=PX.imp My fun σ H Q h=>by
 obtain⟨δ,T,r,δ',E,e,k⟩:=h;cases e;exact k _ _ (Post.val .refl E (by first|exact Rep.mkInt|exact Rep.mkBl|exact Rep.mkNon|exact Rep.mkStr))
theorem KS{i j}:PX X (.Constant (.bool i) j pos) (fC (.bl i)):=PX.imp Ob fun σ H Q h=>by
 obtain⟨δ,T,r,δ',E,e,k⟩:=h;cases e;exact k _ _ (Post.val .refl E (by first|exact Rep.mkInt|exact Rep.mkBl|exact Rep.mkNon|exact Rep.mkStr))
theorem L5{j}:PX X (.Constant .none j pos) (fC .non):=PX.imp Mw fun σ H Q h=>by
 obtain⟨δ,T,r,δ',E,e,k⟩:=h;cases e;exact k _ _ (Post.val .refl E (by first|exact Rep.mkInt|exact Rep.mkBl|exact Rep.mkNon|exact Rep.mkStr))
theorem LW{i j}:PX X (.Constant (.str i) j pos) (fC (.str i)):=PX.imp Mu fun σ H Q h=>by
 obtain⟨δ,T,r,δ',E,e,k⟩:=h;cases e;exact k _ _ (Post.val .refl E (by first|exact Rep.mkInt|exact Rep.mkBl|exact Rep.mkNon|exact Rep.mkStr))
theorem LR{i:Nat}{x:Str}(hN:X.N[i]?=some x)(hv:Vis X.env.scope x)(hd:(x==("__debug__":Str))=false)(l5:(x==("__classdict__":Str))=false):PX X (.Name x pos) (kW i):=PX.imp (vz hN hv hd l5) fun σ H Q h=>by
 obtain⟨δ,T,r,δ',E,e,k⟩:=h;unfold kW at e
 cases hi:δ[i]? with
 |none=>rw[hi] at e;cases e
 |some o=>
  cases o with
  |none=>rw[hi] at e;cases e
  |some p=>
   obtain⟨d,b⟩:=p;rw[hi] at e;cases e;obtain⟨E1,v,h1,h2⟩:=E.freeze hi;exact⟨v,h1,k v H (Post.val .set E1 h2)⟩
end
inductive Opd where
 |val(r:D×Bool)|slot(i:Nat)
noncomputable def res(δ:Dn):Opd->Option D
 | .val r=>some r.1
 | .slot i=>match δ[i]? with
  |some (some (d,_))=>some d
  |_=>none
def iT(K:gA)(H:Hp)(O:AP')(d:D)(v:V):Prop:=Rep K H O d v\/ ∃a,v= .ref a/\OwnOk K H O d a
abbrev FO:=Dn->Option (Opd×Dn)
def PostO(K:gA)(T:AP')(σ:L2.St)(δ:Dn)(H:Hp)(o:Opd)(δ':Dn)(v:V)(H':Hp):Prop:=
 match o with
 | .val r=>Post K T σ δ H r δ' v H'
 | .slot i=>Keep σ δ H δ' H'/\ER K H' T σ δ'/\σ[i]?=some (some v)
noncomputable def Bc(T:AP')(o:Opd)(v:V):AP':=match o with
 | .val r=>Tmp T r v
 | .slot _=>T
def tO(K:gA)(f:FO):TE:=fun σ H Q=> ∃δ T o δ',ER K H T σ δ/\f δ=some (o,δ')/\ ∀v H',PostO K T σ δ H o δ' v H'->Q v H'
def PO(X:Cx)(e:gm)(f:FO):Prop:=PE X e (tO X.K f)
noncomputable def gc(f:F):FO:=fun δ=>(f δ).bind fun p=>some (.val p.1,p.2)
noncomputable def gf(i:Nat):FO:=fun δ=>match δ[i]? with
 |some (some _)=>some (.slot i,δ)
 |_=>none
theorem PE.imp'(h:PE X e t)(k: ∀σ H Q,t' σ H Q->t σ H Q):PE X e t':=fun pins s σ H Q I hw=>h pins s σ H Q I (k σ H Q hw)
section
variable {X:Cx}{pos:Pos}
theorem PX.po(h:PX X e f):PO X e (gc f):=PE.imp' h fun σ H Q hw=>by
 obtain⟨δ,T,o,δ',E,e,k⟩:=hw;unfold gc at e
 cases h1:f δ with
 |none=>rw[h1] at e;cases e
 |some p=>
  obtain⟨r,δ1⟩:=p;rw[h1] at e;obtain⟨rfl,rfl⟩:=gH e;exact⟨δ,T,r,δ1,E,h1,fun v H' P=>k v H' P⟩
theorem Mp{i:Nat}{x:Str}(hN:X.N[i]?=some x)(hv:Vis X.env.scope x)(hd:(x==("__debug__":Str))=false)(l5:(x==("__classdict__":Str))=false):PO X (.Name x pos) (gf i):=PE.imp' (vz hN hv hd l5) fun σ H Q h=>by
 obtain⟨δ,T,o,δ',E,e,k⟩:=h;unfold gf at e
 cases hi:δ[i]? with
 |none=>rw[hi] at e;cases e
 |some q=>
  cases q with
  |none=>rw[hi] at e;cases e
  |some p=>
   obtain⟨d,b⟩:=p;rw[hi] at e;obtain⟨rfl,rfl⟩:=gH e;obtain⟨E1,v,h1,h2⟩:=E.freeze hi;exact⟨v,h1,k v H ⟨.refl,E,h1⟩⟩
end
structure Ops(K:gA)(T:AP')(σ:L2.St)(δ:Dn)(H:Hp)(os:List Opd)(vs:List V)(δ':Dn)(H':Hp)(T':AP'):Prop where
 len:os.length=vs.length
 keep:Keep σ δ H δ' H'
 er:ER K H' T' σ δ'
 tt: ∀a,T a->T' a
 val: ∀(j:Nat) (d:D) (v:V),os[j]?=some (.val (d,false))->vs[j]?=some v->Rep K H' (fun a=>OwnA σ δ' a\/T a) d v
 tmp: ∀(j:Nat) (d:D) (v:V),os[j]?=some (.val (d,true))->vs[j]?=some v-> ∃p,v= .ref p/\T' p/\H p=none/\OwnOk K H' (fun a=>OwnA σ δ' a\/T a) d p
 slt: ∀(j i:Nat) (v:V),os[j]?=some (.slot i)->vs[j]?=some v->σ[i]?=some (some v)
section
variable {K:gA}{T T':AP'}{σ:L2.St}{δ δ' δ2:Dn}{H H' H2:Hp}{os:List Opd}{vs:List V}{o:Opd}{v:V}
theorem Ops.nil(E:ER K H T σ δ):Ops K T σ δ H [] [] δ H T:=⟨rfl,.refl,E,fun _ z=>z,fun j d v h=>by simp at h,fun j d v h=>by simp at h,fun j i v h=>by simp at h⟩
theorem PostO.keep(P:PostO K T σ δ H o δ' v H'):Keep σ δ H δ' H':=by
 cases o with
 |val r=>exact P.1
 |slot i=>exact P.1
theorem PostO.er(E:ER K H T σ δ)(P:PostO K T σ δ H o δ' v H'):ER K H' (Bc T o v) σ δ':=by
 cases o with
 |val r=>exact Post.er E P
 |slot i=>exact P.2.1
end
def Gen(K:gA)(H:Hp)(O:AP')(z:D×Bool)(Q:VK):Prop:=
 match z with
 |(d,false)=> ∀w H',(∀a o,H a=some o->H' a=some o)->Rep K H' O d w->Q w H'
 |(d,true)=> ∀p H',H p=none->(∀a o,H a=some o->H' a=some o)->OwnOk K H' (fun a=>O a\/a=p) d p->Q (.ref p) H'
section
variable {K:gA}{T T':AP'}{σ:L2.St}{δ δ1 δ' δ2:Dn}{H H1 H' H2:Hp}{os:List Opd}{vs:List V}{o:Opd}{v:V}{z:D×Bool}{Q:VK}
theorem Ops.cons(E:ER K H T σ δ)(P:PostO K T σ δ H o δ1 v H1)(B:Ops K (Bc T o v) σ δ1 H1 os vs δ2 H2 T'):Ops K T σ δ H (o::os) (v::vs) δ2 H2 T':=by
 have E1:=P.er E;have p1:=B.keep.kp;have p2:=B.keep.ow
 have eA: ∀a,T a->Bc T o v a:=fun a z=>by
  cases o with
  |val r=>exact .inl z
  |slot i=>exact z
 refine⟨by simp[B.len],P.keep.trans B.keep,B.er,fun a z=>B.tt a (eA a z),fun j d w h1 h2=>?_,fun j d w h1 h2=>?_,fun j i w h1 h2=>?_⟩
 ·cases j with
  |zero=>
   simp at h1 h2;subst h1;subst h2;have P':Post K T σ δ H (d,false) δ1 v H1:=P;exact Rep.mono (fun b ob e n=>p1 b ob e fun z=>n (.inl z)) (fun b _ z=>z.elim (fun z=>Or.inl (p2 b z)) Or.inr) (P'.rep E).2
  |succ j=>exact Rep.mono (fun _ _ e _=>e) (fun b _ z=>z.elim Or.inl fun z=>Or.inr (eA b z)) (B.val j d w (by simpa using h1) (by simpa using h2))
 ·cases j with
  |zero=>
   simp at h1 h2;subst h1;subst h2;have P':Post K T σ δ H (d,true) δ1 v H1:=P;obtain⟨p,rfl,hp,E3,ok⟩:=P'.2;have tp:Bc T (.val (d,true)) (V.ref p) p:= .inr ⟨rfl,rfl⟩;refine⟨p,rfl,B.tt p tp,hp,ok.mono (fun b ob e n=>p1 b ob e fun z=>n (.inl z)) (fun b _ z=>z.elim (fun z=>Or.inl (p2 b z)) fun z=>Or.inr (Or.inl z)) fun ob e=>p1 p ob e fun z=>E1.nT p z tp⟩
  |succ j=>
   obtain⟨p,rfl,tp,hp,ok⟩:=B.tmp j d w (by simpa using h1) (by simpa using h2);refine⟨p,rfl,tp,?_,ok.mono (fun _ _ e _=>e) (fun b _ z=>z.elim Or.inl fun z=>Or.inr (eA b z)) fun _ e=>e⟩
   cases hH:H p with
   |none=>rfl
   |some ob=>exact absurd hp (P.keep.dm p (by rw[hH];simp))
 ·cases j with
  |zero=>
   simp at h1 h2;subst h1;subst h2;exact P.2.2
  |succ j=>exact B.slt j i w (by simpa using h1) (by simpa using h2)
theorem Ops.view(B:Ops K T σ δ H os vs δ' H' T'){j:Nat}{d:D}(h1:os[j]?=some o)(h2:vs[j]?=some v)(hr:res δ' o=some d):iT K H' (fun a=>OwnA σ δ' a\/T a) d v:=by
 cases o with
 |val r=>
  obtain⟨e,b⟩:=r;have hd:e=d:=iw hr;subst hd
  cases b with
  |false=>exact .inl (B.val j e v h1 h2)
  |true=>
   obtain⟨p,rfl,_,_,ok⟩:=B.tmp j e v h1 h2;exact .inr ⟨p,rfl,ok⟩
 |slot i=>
  have hs:=B.slt j i v h1 h2;unfold res at hr;dsimp only at hr
  cases hi:δ'[i]? with
  |none=>rw[hi] at hr;cases hr
  |some q=>
   cases q with
   |none=>rw[hi] at hr;cases hr
   |some p=>
    obtain⟨e,b⟩:=p;rw[hi] at hr;have hd:e=d:=iw hr;subst hd
    cases b with
    |false=>
     obtain⟨w,h3,h4⟩:=B.er.val i e hi;rw[hs] at h3;cases h3;exact .inl (Rep.mono (fun _ _ e _=>e) (fun b _ z=>z.elim Or.inl fun z=>Or.inr (B.tt b z)) h4)
    |true=>
     obtain⟨a,h3,h4⟩:=B.er.own i e hi;rw[hs] at h3;cases h3;exact .inr ⟨a,rfl,h4.mono (fun _ _ e _=>e) (fun b _ z=>z.elim Or.inl fun z=>Or.inr (B.tt b z)) fun _ e=>e⟩
theorem Ops.done(B:Ops K T σ δ H os vs δ' H' T')(k: ∀v H2,Post K T σ δ H z δ' v H2->Q v H2):Gen K H' (fun a=>OwnA σ δ' a\/T a) z Q:=by
 obtain⟨d,b⟩:=z;have dom: ∀{H2:Hp},(∀a o,H' a=some o->H2 a=some o)-> ∀a,T a->Ow (H2 a):=fun {H2} hx a z=>(B.er.dom a (B.tt a z)).up (hx a)
 cases b with
 |false=>
  intro w H2 hx r;exact k w H2 ⟨B.keep.trans (.ext hx),B.er.mono (fun b o e _=>hx b o e) (fun b _ z=>B.tt b z) (dom hx),r⟩
 |true=>
  intro p H2 hp hx ok
  have hp0:H p=none:=by
   cases hH:H p with
   |none=>rfl
   |some ob=>exact absurd hp (B.keep.dm p (by rw[hH];simp))
  refine k (.ref p) H2 ⟨B.keep.trans (.ext hx),p,rfl,hp0,B.er.mono (fun b o e _=>hx b o e) (fun b hb z=>z.elim (B.tt b) fun z=>absurd (z▸hp) hb) (fun a z=>?_),ok.mono (fun _ _ e _=>e) (fun b _ z=>?_) fun _ e=>e⟩
  ·rcases z with z|z
   ·exact dom hx a z
   ·subst z;exact ok.ow
  ·rcases z with z|z|z
   ·exact Or.inl (Or.inl z)
   ·exact Or.inl (Or.inr z)
   ·exact Or.inr z
theorem Gen.int(g:Gen K H O (.int i,false) Q):Q (.int i) H:=g _ H (fun _ _ e=>e) Rep.mkInt
theorem Gen.bl(g:Gen K H O (.bl i,false) Q):Q (.bl i) H:=g _ H (fun _ _ e=>e) Rep.mkBl
theorem kJ{H:Hp}{p:fZ}{o:HO}(hp:H p=none): ∀a u,H a=some u->upd H p o a=some u:=fun a u e=>by rw[gK (by intro z;subst z;rw[e] at hp;cases hp)];exact e
theorem Gen.lst{O:AP'}{l:List D}{xs:List V}{p:fZ}(g:Gen K H O (.lst l,true) Q)(hp:H p=none)(r:RepL K H O l xs):Q (.ref p) (upd H p (.lst xs)):=
 g p _ hp (kJ hp) ⟨xs,gQ,RepL.mono (fun b o e _=>kJ hp b o e) (fun b hb z=>z.elim id fun z=>absurd (z▸hp) hb) r⟩
theorem Gen.tup(g:Gen K H O (.tup l,false) Q)(hp:H p=none)(np: ¬O p)(r:RepL K H O l xs):Q (.ref p) (upd H p (.tup xs)):=
 g _ _ (kJ hp) (Rep.mkTup ⟨gQ,np⟩ (RepL.mono (fun b o e _=>kJ hp b o e) (fun b hb z=>z) r))
theorem Ops.np(B:Ops K T σ δ H os vs δ' H' T')(hp: ¬Ow (H' p)): ¬(OwnA σ δ' p\/T p):=fun z=>hp (z.elim (fun z=>B.er.ownOw z) fun z=>B.er.dom p (B.tt p z))
end
noncomputable def jw(g:D->Option (D×Bool))(fa:FO):F:=fun δ=>(fa δ).bind fun p=>(res p.2 p.1).bind fun x=>(g x).bind fun z=>some (z,p.2)
noncomputable def gn(g:D->D->Option (D×Bool))(fa fb:FO):F:=fun δ=>(fa δ).bind fun p=>(fb p.2).bind fun q=>(res q.2 p.1).bind fun x=>(res q.2 q.1).bind fun y=>(g x y).bind fun z=>some (z,q.2)
noncomputable def iN:List FO->Dn->Option (List Opd×Dn)
 |[],δ=>some ([],δ)
 |f::fs,δ=>(f δ).bind fun p=>(iN fs p.2).bind fun q=>some (p.1::q.1,q.2)
noncomputable def qe(δ:Dn):List Opd->Option (List D)
 |[]=>some []
 |o::os=>(res δ o).bind fun d=>(qe δ os).bind fun l=>some (d::l)
noncomputable def gL(g:List D->Option (D×Bool))(fs:List FO):F:=fun δ=>(iN fs δ).bind fun p=>(qe p.2 p.1).bind fun ds=>(g ds).bind fun z=>some (z,p.2)
def tA(K:gA)(fs:List FO):TA:=fun σ H Q=> ∃δ T os δ',ER K H T σ δ/\iN fs δ=some (os,δ')/\ ∀vs H' T',Ops K T σ δ H os vs δ' H' T'->Q vs H'
section
variable {X:Cx}{e a b:gm}{es:iL}{fa fb:FO}{fs:List FO}{pos:Pos}
theorem fY{α β:Type}{x:Option α}{f:α->Option β}{b:β}(h:x.bind f=some b): ∃a,x=some a/\f a=some b:=by
 cases x with
 |none=>cases h
 |some a=>exact⟨a,rfl,h⟩
def QK(K:gA)(r:V->Hp->VK->Prop)(g:D->Option (D×Bool)):Prop:=
 ∀x z v H (O:AP') (Q:VK),(∀p,¬Ow (H p)-> ¬O p)->iT K H O x v->g x=some z->Gen K H O z Q->r v H Q
def Nr(K:gA)(r:R2)(g:D->D->Option (D×Bool)):Prop:=
 ∀x y z v u H (O:AP') (Q:VK),(∀p,¬Ow (H p)-> ¬O p)->iT K H O x v->iT K H O y u->g x y=some z->Gen K H O z Q->r v u H Q
def QJ(K:gA)(r:List V->Hp->VK->Prop)(g:List D->Option (D×Bool)):Prop:=
 ∀ds z vs H (O:AP') (Q:VK),(∀p,¬Ow (H p)-> ¬O p)->ds.length=vs.length->(∀(j:Nat) d v,ds[j]?=some d->vs[j]?=some v->iT K H O d v)->g ds=some z->Gen K H O z Q->r vs H Q
theorem L4{r:V->Hp->VK->Prop}{g:D->Option (D×Bool)}(h:PE X e (tUn r (tO X.K fa)))(hr:QK X.K r g):PX X e (jw g fa):=PX.imp h fun σ H Q hw=>by
 obtain⟨δ,T,rr,δ',E,e,k⟩:=hw;obtain⟨⟨o,δ1⟩,h1,e⟩:=fY e;obtain⟨x,h2,e⟩:=fY e;obtain⟨z,h3,e⟩:=fY e;obtain⟨rfl,rfl⟩:=gH e;refine⟨δ,T,o,δ1,E,h1,fun v H1 P1=>?_⟩;have B:=Ops.cons E P1 (Ops.nil (P1.er E));exact hr x z v H1 _ Q (fun p hp=>B.np hp) (B.view (j:=0) rfl rfl h2) h3 (B.done k)
theorem L0{r:R2}{g:D->D->Option (D×Bool)}(h:PE X e (tOp r (tO X.K fa) (tO X.K fb)))(hr:Nr X.K r g):PX X e (gn g fa fb):=PX.imp h fun σ H Q hw=>by
 obtain⟨δ,T,rr,δ',E,e,k⟩:=hw;obtain⟨⟨o,δ1⟩,h1,e⟩:=fY e;obtain⟨⟨o2,δ2⟩,h2,e⟩:=fY e;obtain⟨x,h3,e⟩:=fY e;obtain⟨y,h4,e⟩:=fY e;obtain⟨z,h5,e⟩:=fY e;obtain⟨rfl,rfl⟩:=gH e;refine⟨δ,T,o,δ1,E,h1,fun v H1 P1=>⟨δ1,Bc T o v,o2,δ2,P1.er E,h2,fun u H2 P2=>?_⟩⟩;have B:=Ops.cons E P1 (Ops.cons (P1.er E) P2 (Ops.nil (P2.er (P1.er E))));exact hr x y z v u H2 _ Q (fun p hp=>B.np hp) (B.view (j:=0) rfl rfl h3) (B.view (j:=1) rfl rfl h4) h5 (B.done k)
theorem za:PA X [] (tA X.K []):=fun pos pins s σ H Q I h=>by
 obtain⟨δ,T,os,δ',E,e,k⟩:=h;obtain⟨rfl,rfl⟩:=gH e;exact mQ pos pins s σ H Q I (k [] H T (Ops.nil E))
theorem qI(ha:PO X e fa)(hr:PA X es (tA X.K fs))(hs:starEach (e::es) X.env=(false,eval e X.env)::starEach es X.env):PA X (e::es) (tA X.K (fa::fs)):=fun pos pins s σ H Q I h=>by
 obtain⟨δ,T,os,δ',E,e,k⟩:=h;unfold iN at e;obtain⟨⟨o,δ1⟩,h1,e⟩:=fY e;obtain⟨⟨os2,δ2⟩,h2,e⟩:=fY e;obtain⟨rfl,rfl⟩:=gH e;exact jY ha hr hs pos pins s σ H Q I ⟨δ,T,o,δ1,E,h1,fun v H1 P1=>⟨δ1,Bc T o v,os2,δ2,P1.er E,h2,fun vs H2 T2 B=>k _ H2 T2 (Ops.cons E P1 B)⟩⟩
theorem lG{δ:Dn}: ∀{os:List Opd} {ds:List D},qe δ os=some ds->ds.length=os.length/\ ∀(j:Nat) d,ds[j]?=some d-> ∃o,os[j]?=some o/\res δ o=some d
 |[],ds,h=>by cases h;exact⟨rfl,fun j d h=>by simp at h⟩
 |o::os,ds,h=>by
  unfold qe at h;obtain⟨d,h1,h⟩:=fY h;obtain⟨l,h2,h⟩:=fY h;cases h;obtain⟨h3,h4⟩:=lG h2;refine⟨by simp[h3],fun j e he=>?_⟩
  cases j with
  |zero=>simp at he;subst he;exact⟨o,rfl,h1⟩
  |succ j=>
   obtain⟨o',q1,q2⟩:=h4 j e (by simpa using he);exact⟨o',by simpa using q1,q2⟩
theorem JE{r:List V->Hp->VK->Prop}{g:List D->Option (D×Bool)}(h:PE X e (tCB r (tA X.K fs)))(hr:QJ X.K r g):PX X e (gL g fs):=PX.imp h fun σ H Q hw=>by
 obtain⟨δ,T,rr,δ',E,e,k⟩:=hw;obtain⟨⟨os,δ1⟩,h1,e⟩:=fY e;obtain⟨ds,h2,e⟩:=fY e;obtain⟨z,h3,e⟩:=fY e;obtain⟨rfl,rfl⟩:=gH e;obtain⟨h4,h5⟩:=lG h2;refine⟨δ,T,os,δ1,E,h1,fun vs H1 T1 B=>?_⟩;refine hr ds z vs H1 _ Q (fun p hp=>B.np hp) (h4.trans B.len) (fun j d v hd hv=>?_) h3 (B.done k);obtain⟨o,ho,bW⟩:=h5 j d hd;exact B.view ho hv bW
end
open PySem.SeqAt
mutual
/-- ==of data -/
noncomputable def D.eqb:D->D->Bool
 | .non,.non=>true
 | .bl a,.bl b=>a==b
 | .bl a,.int b=>(if a then 1 else 0)==b
 | .int a,.bl b=>a==(if b then 1 else 0)
 | .int a,.int b=>a==b
 | .str a,.str b=>a==b
 | .tup l,.tup m=>D.eqbL l m
 | .lst l,.lst m=>D.eqbL l m
 | .oth _ _ _,.oth _ _ _=>true
 |_,_=>false
noncomputable def D.eqbL:List D->List D->Bool
 |[],[]=>true
 |a::l,b::m=>D.eqb a b&&D.eqbL l m
 |_,_=>false
end
mutual
noncomputable def D.dep:D->Nat
 | .tup l=>D.depL l+1
 | .lst l=>D.depL l+1
 | .oth _ _ _=>20000
 |_=>0
noncomputable def D.depL:List D->Nat
 |[]=>0
 |d::l=>max (D.dep d) (D.depL l)
end
mutual
theorem D.eqb_refl: ∀d:D,D.eqb d d=true
 | .non=>rfl
 | .bl a=>by simp[D.eqb]
 | .int a=>by simp[D.eqb]
 | .str a=>by simp[D.eqb]
 | .tup l=>by rw[D.eqb];exact D.eqbL_refl l
 | .lst l=>by rw[D.eqb];exact D.eqbL_refl l
 | .oth _ _ _=>by rw[D.eqb]
theorem D.eqbL_refl: ∀l:List D,D.eqbL l l=true
 |[]=>rfl
 |d::l=>by rw[D.eqbL,D.eqb_refl d,D.eqbL_refl l];rfl
end
theorem D.dep_mem{d:D}: ∀{l:List D} {j:Nat},l[j]?=some d->d.dep<=D.depL l
 |[],j,h=>by simp at h
 |e::l,0,h=>by simp at h;subst h;rw[D.depL];exact Nat.le_max_left _ _
 |e::l,j+1,h=>by rw[D.depL];exact mE (D.dep_mem (by simpa using h)) (Nat.le_max_right _ _)
noncomputable def oO(l m:List D)(j:Nat):Bool:=match l[j]?,m[j]? with
 |some d,some e=>D.eqb d e
 |_,_=>true
theorem lq: ∀l m:List D,((List.range (min l.length m.length)).all (oO l m)&&l.length==m.length)=D.eqbL l m
 |[],[]=>rfl
 |[],e::m=>by simp[D.eqbL]
 |d::l,[]=>by simp[D.eqbL]
 |d::l,e::m=>by
  rw[D.eqbL,<-lq l m];simp only[lX,Nat.succ_min_succ,List.range_succ_eq_map,List.all_cons,List.all_map,Function.comp_def];have h0:oO (d::l) (e::m) 0=D.eqb d e:=rfl;have h1:(fun x=>oO (d::l) (e::m) (Nat.succ x))=oO l m:=by funext x;simp[oO]
  rw[h0];simp only[h1,Bool.and_assoc]
  congr 2
  simp
section
variable {X:Cx}{pins:gO}{σ:L2.St}{H:Hp}{s:gi}
theorem kQ(h:iT X.K H O (.tup l) v): ∃a xs,v= .ref a/\SqT X.K H a xs/\RepL X.K H O l xs:=by
 rcases h with h|⟨a,rfl,h⟩
 ·obtain⟨a,xs,e,q,r⟩:=h.tup;exact⟨a,xs,e,q.sq,r⟩
 ·exact h.elim
theorem jm(h:iT X.K H O (.lst l) v): ∃a xs,v= .ref a/\SqL X.K H a xs/\RepL X.K H O l xs:=by
 rcases h with h|⟨a,rfl,h⟩
 ·obtain⟨a,xs,e,q,r⟩:=h.lst;exact⟨a,xs,e,q.sq,r⟩
 ·obtain⟨xs,e,r⟩:=h;exact⟨a,xs,rfl,.inl (.inl e),r⟩
theorem RepL.views{O:AP'}{l:List D}{xs:List V}(r:RepL X.K H O l xs){j:Nat}{d:D}{v:V}(h1:l[j]?=some d)(h2:xs[j]?=some v):Rep X.K H O d v:=by
 obtain⟨w,h3,h4⟩:=r.get h1;rw[h2] at h3;cases h3;exact h4
theorem HD(I:Inv X pins σ H s)(h:OthB X.K (H a) k ks vs us): ∃o,s.heap.get? a=some o/\(o.cls= .type "dict"\/o.cls= .type "set"\/ ∃C,o.cls= .ref C):=by
 cases k with
 |dct=>
  rcases h with⟨kvs,e,_⟩|⟨kvs,e,_⟩
  ·obtain⟨_,_,vs,_,o,es,ep,h1,h2,_⟩:=(show ObjOk X.prog X.w H s.heap a (.dK kvs) from I.hok a _ e)
   exact⟨o,h1,.inl h2.1⟩
  ·obtain⟨_,_,xs,_,o,es,ep,h1,h2,_⟩:=(show ObjOk X.prog X.w H s.heap a (.dT kvs) from I.hok a _ e)
   exact⟨o,h1,.inl h2.1⟩
 |set=>
  obtain⟨_,zs,e,_⟩:=h;obtain⟨es,n,t,h1,_⟩:=(show ObjOk X.prog X.w H s.heap a (.stt zs) from I.hok a _ e)
  exact⟨_,h1,.inr (.inl rfl)⟩
 |exc C=>
  obtain⟨_,o,e,h1,_⟩:=h;obtain⟨e1,_⟩:=(show ObjOk X.prog X.w H s.heap a (.frz o (.own 0)) from I.hok a _ e)
  exact⟨o,e1,.inr (.inr ⟨C,h1⟩)⟩
 |_=>exact h.elim
theorem Ad(I:Inv X pins σ H s)(h1:SqT X.K H a xs)(h2:SqL X.K H a ys):False:=by
 obtain⟨its,_,⟨o,e,c,_⟩,_⟩:=I.tuple h1;obtain⟨d6,_,⟨o2,n2,e2,c2,_⟩,_⟩:=I.list h2;rw[e] at e2;cases e2;rw[c] at c2;exact absurd c2 (by simp)
theorem J1(I:Inv X pins σ H s)(h1:SqT X.K H a xs)(h2:OthB X.K (H a) k ks vs us):False:=by
 obtain⟨its,_,⟨o,e,c,_⟩,_⟩:=I.tuple h1;obtain⟨o2,e2,c2⟩:=HD I h2;rw[e] at e2;cases e2;rw[c] at c2;rcases c2 with c2|c2|⟨C,c2⟩<;>exact absurd c2 (by simp)
theorem J2(I:Inv X pins σ H s)(h1:SqL X.K H a xs)(h2:OthB X.K (H a) k ks vs us):False:=by
 obtain⟨its,_,⟨o,n,e,c,_⟩,_⟩:=I.list h1;obtain⟨o2,e2,c2⟩:=HD I h2;rw[e] at e2;cases e2;rw[c] at c2;rcases c2 with c2|c2|⟨C,c2⟩<;>exact absurd c2 (by simp)
mutual
theorem Rep.inj(I:Inv X pins σ H s): ∀{d e:D} {v:V},d.dep<20000->Rep X.K H O d v->Rep X.K H O' e v->d=e
 | .non,e,v,hz,h,h'=>by
  have:=h.non;subst this
  cases e with
  |non=>rfl
  |bl b=>have:=h'.bl;cases this
  |int b=>have:=h'.int;cases this
  |str b=>have:=h'.str;cases this
  |tup m=>obtain⟨a,xs,z,_⟩:=h'.tup;cases z
  |lst m=>obtain⟨a,xs,z,_⟩:=h'.lst;cases z
  |oth m m1 m2=>obtain⟨a,xs,z,_⟩:=h'.oth;cases z
 | .bl b,e,v,hz,h,h'=>by
  have:=h.bl;subst this
  cases e with
  |non=>have:=h'.non;cases this
  |bl b=>have:=h'.bl;cases this;rfl
  |int b=>have:=h'.int;cases this
  |str b=>have:=h'.str;cases this
  |tup m=>obtain⟨a,xs,z,_⟩:=h'.tup;cases z
  |lst m=>obtain⟨a,xs,z,_⟩:=h'.lst;cases z
  |oth m m1 m2=>obtain⟨a,xs,z,_⟩:=h'.oth;cases z
 | .int b,e,v,hz,h,h'=>by
  have:=h.int;subst this
  cases e with
  |non=>have:=h'.non;cases this
  |bl b=>have:=h'.bl;cases this
  |int b=>have:=h'.int;cases this;rfl
  |str b=>have:=h'.str;cases this
  |tup m=>obtain⟨a,xs,z,_⟩:=h'.tup;cases z
  |lst m=>obtain⟨a,xs,z,_⟩:=h'.lst;cases z
  |oth m m1 m2=>obtain⟨a,xs,z,_⟩:=h'.oth;cases z
 | .str b,e,v,hz,h,h'=>by
  have:=h.str;subst this
  cases e with
  |non=>have:=h'.non;cases this
  |bl b=>have:=h'.bl;cases this
  |int b=>have:=h'.int;cases this
  |str b=>have:=h'.str;cases this;rfl
  |tup m=>obtain⟨a,xs,z,_⟩:=h'.tup;cases z
  |lst m=>obtain⟨a,xs,z,_⟩:=h'.lst;cases z
  |oth m m1 m2=>obtain⟨a,xs,z,_⟩:=h'.oth;cases z
 | .tup l,e,v,hz,h,h'=>by
  rw[D.dep] at hz;obtain⟨a,xs,rfl,q,r⟩:=h.tup
  cases e with
  |non=>have:=h'.non;cases this
  |bl b=>have:=h'.bl;cases this
  |int b=>have:=h'.int;cases this
  |str b=>have:=h'.str;cases this
  |tup m=>
   obtain⟨a2,ez,z,q2,r2⟩:=h'.tup;cases z;have:=I.tuple_inj q.sq q2.sq;subst this;rw[RepL.inj I (by omega) r r2]
  |lst m=>
   obtain⟨a2,ez,z,q2,r2⟩:=h'.lst;cases z;exact(Ad I q.sq q2.sq).elim
  |oth m m1 m2=>
   obtain⟨a2,us2,z,q2,r2⟩:=h'.oth;cases z;exact(J1 I q.sq q2.2).elim
 | .lst l,e,v,hz,h,h'=>by
  rw[D.dep] at hz;obtain⟨a,xs,rfl,q,r⟩:=h.lst
  cases e with
  |non=>have:=h'.non;cases this
  |bl b=>have:=h'.bl;cases this
  |int b=>have:=h'.int;cases this
  |str b=>have:=h'.str;cases this
  |tup m=>
   obtain⟨a2,ez,z,q2,r2⟩:=h'.tup;cases z;exact(Ad I q2.sq q.sq).elim
  |lst m=>
   obtain⟨a2,ez,z,q2,r2⟩:=h'.lst;cases z;have:=I.list_inj q.sq q2.sq;subst this;rw[RepL.inj I (by omega) r r2]
  |oth m m1 m2=>
   obtain⟨a2,us2,z,q2,r2⟩:=h'.oth;cases z;exact(J2 I q.sq q2.2).elim
 | .oth _ _ _,e,v,hz,h,h'=>by rw[D.dep] at hz;omega
theorem RepL.inj(I:Inv X pins σ H s){O O':AP'}: ∀{l m:List D} {vs:List V},D.depL l<20000->RepL X.K H O l vs->RepL X.K H O' m vs->l=m
 |[],m,vs,_,h,h'=>by
  rw[RepL] at h;subst h
  cases m with
  |nil=>rfl
  |cons e m=>rw[RepL] at h';obtain⟨_,_,z,_⟩:=h';cases z
 |d::l,m,vs,hz,h,h'=>by
  rw[D.depL] at hz;rw[RepL] at h;obtain⟨v,r,rfl,h1,h2⟩:=h
  cases m with
  |nil=>rw[RepL] at h';cases h'
  |cons e m=>
   rw[RepL] at h';obtain⟨v',r',z,h3,h4⟩:=h';cases z;rw[Rep.inj I (by omega) h1 h3,RepL.inj I (by omega) h2 h4]
end
theorem qU(h:iT X.K H O d v)(hd:d.dep=0)(nt: ∀l,d≠ .tup l)(nl: ∀l,d≠ .lst l):Rep X.K H O d v:=by
 rcases h with h|⟨a,rfl,h⟩
 ·exact h
 ·cases d with
  |lst l=>exact absurd rfl (nl l)
  |oth _ _ _=>rw[D.dep] at hd;omega
  |_=>exact h.elim
inductive Sh(X:Cx)(H:Hp)(s:gi)(O:AP'):D->V->Value->Prop
 |non:Sh X H s O .non .non .none
 |bl (b:Bool):Sh X H s O (.bl b) (.bl b) (.bool b)
 |int (i:Int) (t:Tok):Sh X H s O (.int i) (.int i) (.int i t)
 |str (x:Str) (t:Tok):Sh X H s O (.str x) (.str x) (.str x t)
 |tup {l:List D} {p:fZ} {xs:List V} {its:hJ} (q:SqT X.K H p xs) (r:RepL X.K H O l xs) (v:Vals xs its) (pl:IsTup s.heap p its.toArray):Sh X H s O (.tup l) (.ref p) (.ref p)
 |lst {l:List D} {p:fZ} {xs:List V} {its:hJ} (q:SqL X.K H p xs) (r:RepL X.K H O l xs) (v:Vals xs its) (pl:s.heap.IsList p its.toArray):Sh X H s O (.lst l) (.ref p) (.ref p)
theorem oX(I:Inv X pins σ H s)(h:iT X.K H O d v)(ra:RelV v a)(hn:d.dep<20000):Sh X H s O d v a:=by
 cases d with
 |oth m m1 m2=>rw[D.dep] at hn;omega
 |tup l=>obtain⟨p,xs,rfl,q,r⟩:=kQ h;cases ra;obtain⟨its,v1,pl,_⟩:=I.tuple q;exact .tup q r v1 pl
 |lst l=>obtain⟨p,xs,rfl,q,r⟩:=jm h;cases ra;obtain⟨its,v1,pl,_⟩:=I.list q;exact .lst q r v1 pl.isList
 |non=>have:=(qU h rfl (by simp) (by simp)).non;subst this;cases ra;exact .non
 |bl c=>have:=(qU h rfl (by simp) (by simp)).bl;subst this;cases ra;exact .bl c
 |int c=>have:=(qU h rfl (by simp) (by simp)).int;subst this;obtain⟨t,rfl⟩:=ra;exact .int c t
 |str c=>have:=(qU h rfl (by simp) (by simp)).str;subst this;obtain⟨t,rfl⟩:=ra;exact .str c t
theorem xF(I:Inv X pins σ H s)(n:Nat)
  (ih: ∀(d e:D) (v u:V) (a b:gp) (O O':AP') (A:gB),iT X.K H O d v->iT X.K H O' e u->RelV v a->RelV u b->d.dep+1<=n->e.dep<20000->A.units+n<cLine+1->EqAt A s a b (D.eqb d e)):
  ∀(d e:D) (v u:V) (a b:gp) (O O':AP') (A:gB),iT X.K H O d v->iT X.K H O' e u->RelV v a->RelV u b->d.dep<=n->e.dep<20000->A.units+n<cLine->EqAt A s a b (D.eqb d e):=by
 intro d e v u a b O O' A hd he ra rb hn o6 hA;have hu:A.units<cLine:=by omega
 have l8:cLine=9900:=rfl
 have items: ∀(l m:List D) (xs ys:List V) (its d6:hJ) (O1 O2:AP'),D.depL l+1<=n->D.depL m<20000->RepL X.K H O1 l xs->RepL X.K H O2 m ys->Vals xs its->Vals ys d6->
   ∀j (h1:j<its.toArray.size) (h2:j<d6.toArray.size),EqAt A.in1 s its.toArray[j] d6.toArray[j] (oO l m j):=fun l m xs ys its d6 O1 O2 hl hm r1 r2 v1 v2 j h1 h2=>by
  have e1:=v1.length;have e2:=v2.length;have e3:=r1.length;have e4:=r2.length;simp only[iK] at h1 h2;have hx:xs[j]?=some xs[j]:=iu (by omega);have hy:ys[j]?=some ys[j]:=iu (by omega);have aJ:l[j]?=some l[j]:=iu (by omega);have ak:m[j]?=some m[j]:=iu (by omega);obtain⟨w,w1,w2⟩:=v1.get hx;obtain⟨w',w3,w4⟩:=v2.get hy
  have i1:its.toArray[j]=w:=by
   have:its[j]?=some its[j]:=iu (by omega);rw[this] at w1;simpa using w1
  have i2:d6.toArray[j]=w':=by
   have:d6[j]?=some d6[j]:=iu (by omega);rw[this] at w3;simpa using w3
  rw[i1,i2];have hj:oO l m j=D.eqb l[j] m[j]:=by unfold oO;rw[aJ,ak]
  rw[hj];have af:=D.dep_mem aJ;have hdep2:=D.dep_mem ak;exact ih _ _ _ _ _ _ O1 O2 A.in1 (.inl (r1.views aJ hx)) (.inl (r2.views ak hy)) w2 w4 (by omega) (by omega) (by show A.units+1+n<cLine+1;omega)
 have h1:=oX I hd ra (by omega);have h2:=oX I he rb o6
 cases h1 with
 |non=>
  cases h2 with
  |non=>exact kD ra rb rfl rfl
  |bl c2=>exact kD ra rb rfl rfl
  |int c2 t2=>exact kD ra rb rfl rfl
  |str c2 t2=>exact kD ra rb rfl rfl
  |tup q2 r2 v2 f6=>exact EqAt.none_tuple f6 hu
  |lst q2 r2 v2 f6=>exact EqAt.none_list f6 hu
 |bl c1=>
  cases h2 with
  |non=>exact kD ra rb rfl rfl
  |bl c2=>exact kD ra rb rfl rfl
  |int c2 t2=>exact kD ra rb rfl rfl
  |str c2 t2=>exact kD ra rb rfl rfl
  |tup q2 r2 v2 f6=>exact EqAt.bool_tuple c1 f6 hu
  |lst q2 r2 v2 f6=>exact EqAt.bool_list c1 f6 hu
 |int c1 t1=>
  cases h2 with
  |non=>exact kD ra rb rfl rfl
  |bl c2=>exact kD ra rb rfl rfl
  |int c2 t2=>exact kD ra rb rfl rfl
  |str c2 t2=>exact kD ra rb rfl rfl
  |tup q2 r2 v2 f6=>exact EqAt.int_tuple c1 t1 f6 hu
  |lst q2 r2 v2 f6=>exact EqAt.int_list c1 t1 f6 hu
 |str c1 t1=>
  cases h2 with
  |non=>exact kD ra rb rfl rfl
  |bl c2=>exact kD ra rb rfl rfl
  |int c2 t2=>exact kD ra rb rfl rfl
  |str c2 t2=>exact kD ra rb rfl rfl
  |tup q2 r2 v2 f6=>exact EqAt.str_tuple c1 t1 f6 hu
  |lst q2 r2 v2 f6=>exact EqAt.str_list c1 t1 f6 hu
 | @tup l p xs its q r v1 pl=>
  cases h2 with
  |non=>exact EqAt.tuple_none pl hu
  |bl c2=>exact EqAt.tuple_bool c2 pl hu
  |int c2 t2=>exact EqAt.tuple_int c2 t2 pl hu
  |str c2 t2=>exact EqAt.tuple_str c2 t2 pl hu
  | @tup m p2 ys d6 q2 r2 v2 f6=>
   by_cases hp:p=p2
   ·subst hp;have:=I.tuple_inj q q2;subst this;rw[RepL.inj I (by rw[D.dep] at hn;omega) r r2,D.eqb_refl];exact EqAt.same _
   ·refine .of_refs hp ?_;have hl:D.depL l+1<=n:=by rw[D.dep] at hn;exact hn
    have hm:D.depL m<20000:=by rw[D.dep] at o6;omega
    have z:=RcAt.tuples pl f6 hu (items l m xs ys its d6 _ _ hl hm r r2 v1 v2);have e1:=v1.length;have e2:=v2.length;have e3:=r.length;have e4:=r2.length;simp only[iK] at z;rw[show its.length=l.length by omega,show d6.length=m.length by omega,lq] at z;rw[D.eqb];exact z
  |lst q2 r2 v2 f6=>exact EqAt.tuple_list pl f6 hu
 | @lst l p xs its q r v1 pl=>
  cases h2 with
  |non=>exact EqAt.list_none pl hu
  |bl c2=>exact EqAt.list_bool c2 pl hu
  |int c2 t2=>exact EqAt.list_int c2 t2 pl hu
  |str c2 t2=>exact EqAt.list_str c2 t2 pl hu
  |tup q2 r2 v2 f6=>exact EqAt.list_tuple pl f6 hu
  | @lst m p2 ys d6 q2 r2 v2 f6=>
   by_cases hp:p=p2
   ·subst hp;have:=I.list_inj q q2;subst this;rw[RepL.inj I (by rw[D.dep] at hn;omega) r r2,D.eqb_refl];exact EqAt.same _
   ·refine .of_refs hp ?_;have hl:D.depL l+1<=n:=by rw[D.dep] at hn;exact hn
    have hm:D.depL m<20000:=by rw[D.dep] at o6;omega
    have e1:=v1.length;have e2:=v2.length;have e3:=r.length;have e4:=r2.length;have al:=lq l m;by_cases hlen:l.length=m.length
    ·have z:=RcAt.lists pl f6 (by simp only[iK];omega) hu (items l m xs ys its d6 _ _ hl hm r r2 v1 v2);simp only[iK] at z;rw[show its.length=min l.length m.length by omega] at z;rw[D.eqb,<-al,hlen];rw[hlen] at z;simpa using z
    ·have z:=RcAt.lists_lengths pl f6 (by simp only[iK,bne_iff_ne,ne_eq];omega) hu;rw[D.eqb,<-al];rw[show(l.length==m.length)=false by simpa using hlen];simpa using z
theorem CQ(I:Inv X pins σ H s): ∀(n:Nat) (d e:D) (v u:V) (a b:gp) (O O':AP') (A:gB),iT X.K H O d v->iT X.K H O' e u->RelV v a->RelV u b->d.dep<=n->e.dep<20000->A.units+n<cLine->EqAt A s a b (D.eqb d e):=by
 intro n
 induction n with
 |zero=>
  intro d e v u a b O O' A hd he ra rb hn o6 hA;exact xF I 0 (fun d e v u a b O O' A hd he ra rb hn o6 hA=>absurd hn (by omega)) d e v u a b O O' A hd he ra rb hn o6 hA
 |succ n ih=>
  intro d e v u a b O O' A hd he ra rb hn o6 hA;exact xF I (n+1) (fun d e v u a b O O' A hd he ra rb hn o6 hA=>ih d e v u a b O O' A hd he ra rb (by omega) o6 (by omega)) d e v u a b O O' A hd he ra rb hn o6 hA
end
section
variable {X:Cx}{pins:gO}{σ:L2.St}{H:Hp}{s:gi}
theorem AV(I:Inv X pins σ H s){A:gB}{n:Nat}(hA:A.units+n<cLine): ∀(l m:List D) (xs ys:List V) (its d6:hJ) (O1 O2:AP'),D.depL l+1<=n->D.depL m<20000->RepL X.K H O1 l xs->RepL X.K H O2 m ys->Vals xs its->Vals ys d6->
   ∀j (h1:j<its.toArray.size) (h2:j<d6.toArray.size),EqAt A.in1 s its.toArray[j] d6.toArray[j] (oO l m j):=fun l m xs ys its d6 O1 O2 hl hm r1 r2 v1 v2 j h1 h2=>by
 have e1:=v1.length;have e2:=v2.length;have e3:=r1.length;have e4:=r2.length;simp only[iK] at h1 h2;have hx:xs[j]?=some xs[j]:=iu (by omega);have hy:ys[j]?=some ys[j]:=iu (by omega);have aJ:l[j]?=some l[j]:=iu (by omega);have ak:m[j]?=some m[j]:=iu (by omega);obtain⟨w,w1,w2⟩:=v1.get hx;obtain⟨w',w3,w4⟩:=v2.get hy
 have i1:its.toArray[j]=w:=by
  have:its[j]?=some its[j]:=iu (by omega);rw[this] at w1;simpa using w1
 have i2:d6.toArray[j]=w':=by
  have:d6[j]?=some d6[j]:=iu (by omega);rw[this] at w3;simpa using w3
 rw[i1,i2];have hj:oO l m j=D.eqb l[j] m[j]:=by unfold oO;rw[aJ,ak]
 rw[hj];have af:=D.dep_mem aJ;have hdep2:=D.dep_mem ak;exact CQ I (n-1) _ _ _ _ _ _ O1 O2 A.in1 (.inl (r1.views aJ hx)) (.inl (r2.views ak hy)) w2 w4 (by omega) (by omega) (by show A.units+1+(n-1)<cLine;omega)
theorem LK(I:Inv X pins σ H s)(hd:iT X.K H O d v)(he:iT X.K H O' e u)(ra:RelV v a)(rb:RelV u b)(hn:d.dep<=n)(o6:e.dep<20000)(hA:A.units+n<cLine):RcAt A s a b (D.eqb d e):=by
 have hu:A.units<cLine:=by omega
 have items:=AV I hA;have l8:cLine=9900:=rfl;have h1:=oX I hd ra (by omega);have h2:=oX I he rb o6
 cases h1 with
 |non=>
  cases h2 with
  |non=>exact RcAt.none_none
  |bl c2=>exact RcAt.none_bool c2
  |int c2 t2=>exact RcAt.none_int c2 t2
  |str c2 t2=>exact RcAt.none_str c2 t2
  |tup q2 r2 v2 f6=>exact RcAt.none_tuple f6 hu
  |lst q2 r2 v2 f6=>exact RcAt.none_list f6 hu
 |bl c1=>
  cases h2 with
  |non=>exact RcAt.bool_none c1
  |bl c2=>exact RcAt.bool_bool c1 c2
  |int c2 t2=>exact RcAt.bool_int c1 c2 t2
  |str c2 t2=>exact RcAt.bool_str c1 c2 t2
  |tup q2 r2 v2 f6=>exact RcAt.bool_tuple c1 f6 hu
  |lst q2 r2 v2 f6=>exact RcAt.bool_list c1 f6 hu
 |int c1 t1=>
  cases h2 with
  |non=>exact RcAt.int_none c1 t1
  |bl c2=>exact RcAt.int_bool c1 t1 c2
  |int c2 t2=>exact RcAt.int_int c1 t1 c2 t2
  |str c2 t2=>exact RcAt.int_str c1 t1 c2 t2
  |tup q2 r2 v2 f6=>exact RcAt.int_tuple c1 t1 f6 hu
  |lst q2 r2 v2 f6=>exact RcAt.int_list c1 t1 f6 hu
 |str c1 t1=>
  cases h2 with
  |non=>exact RcAt.str_none c1 t1
  |bl c2=>exact RcAt.str_bool c1 t1 c2
  |int c2 t2=>exact RcAt.str_int c1 t1 c2 t2
  |str c2 t2=>exact RcAt.str_str c1 t1 c2 t2
  |tup q2 r2 v2 f6=>exact RcAt.str_tuple c1 t1 f6 hu
  |lst q2 r2 v2 f6=>exact RcAt.str_list c1 t1 f6 hu
 | @tup l p xs its q r v1 pl=>
  cases h2 with
  |non=>exact RcAt.tuple_none pl hu
  |bl c2=>exact RcAt.tuple_bool c2 pl hu
  |int c2 t2=>exact RcAt.tuple_int c2 t2 pl hu
  |str c2 t2=>exact RcAt.tuple_str c2 t2 pl hu
  | @tup m p2 ys d6 q2 r2 v2 f6=>
   have hl:D.depL l+1<=n:=by rw[D.dep] at hn;exact hn
   have hm:D.depL m<20000:=by rw[D.dep] at o6;omega
   have e1:=v1.length;have e2:=v2.length;have e3:=r.length;have e4:=r2.length;have z:=RcAt.tuples pl f6 hu (items l m xs ys its d6 _ _ hl hm r r2 v1 v2);simp only[iK] at z;rw[show its.length=l.length by omega,show d6.length=m.length by omega,lq] at z;rw[D.eqb];exact z
  |lst q2 r2 v2 f6=>exact RcAt.tuple_list pl f6 hu
 | @lst l p xs its q r v1 pl=>
  cases h2 with
  |non=>exact RcAt.list_none pl hu
  |bl c2=>exact RcAt.list_bool c2 pl hu
  |int c2 t2=>exact RcAt.list_int c2 t2 pl hu
  |str c2 t2=>exact RcAt.list_str c2 t2 pl hu
  |tup q2 r2 v2 f6=>exact RcAt.list_tuple pl f6 hu
  | @lst m p2 ys d6 q2 r2 v2 f6=>
   have hl:D.depL l+1<=n:=by rw[D.dep] at hn;exact hn
   have hm:D.depL m<20000:=by rw[D.dep] at o6;omega
   have e1:=v1.length;have e2:=v2.length;have e3:=r.length;have e4:=r2.length;have al:=lq l m;by_cases hlen:l.length=m.length
   ·have z:=RcAt.lists pl f6 (by simp only[iK];omega) hu (items l m xs ys its d6 _ _ hl hm r r2 v1 v2);simp only[iK] at z;rw[show its.length=min l.length m.length by omega] at z;rw[D.eqb,<-al,hlen];rw[hlen] at z;simpa using z
   ·have z:=RcAt.lists_lengths pl f6 (by simp only[iK,bne_iff_ne,ne_eq];omega) hu;rw[D.eqb,<-al];rw[show(l.length==m.length)=false by simpa using hlen];simpa using z
theorem GX(I:Inv X pins σ H s)(hd:iT X.K H O d v)(he:iT X.K H O' e u)(ra:RelV v a)(rb:RelV u b)(hn:d.dep<=n)(o6:e.dep<20000)(hA:A.units+n<cLine):RcNeAt A s a b (!D.eqb d e):=by
 have hu:A.units<cLine:=by omega
 have items:=AV I hA;have l8:cLine=9900:=rfl;have h1:=oX I hd ra (by omega);have h2:=oX I he rb o6
 cases h1 with
 |non=>
  cases h2 with
  |non=>exact RcNeAt.none_none
  |bl c2=>exact RcNeAt.none_bool c2
  |int c2 t2=>exact RcNeAt.none_int c2 t2
  |str c2 t2=>exact RcNeAt.none_str c2 t2
  |tup q2 r2 v2 f6=>exact RcNeAt.none_tuple f6 hu
  |lst q2 r2 v2 f6=>exact RcNeAt.none_list f6 hu
 |bl c1=>
  cases h2 with
  |non=>exact RcNeAt.bool_none c1
  |bl c2=>exact RcNeAt.bool_bool c1 c2
  |int c2 t2=>exact RcNeAt.bool_int c1 c2 t2
  |str c2 t2=>exact RcNeAt.bool_str c1 c2 t2
  |tup q2 r2 v2 f6=>exact RcNeAt.bool_tuple c1 f6 hu
  |lst q2 r2 v2 f6=>exact RcNeAt.bool_list c1 f6 hu
 |int c1 t1=>
  cases h2 with
  |non=>exact RcNeAt.int_none c1 t1
  |bl c2=>exact RcNeAt.int_bool c1 t1 c2
  |int c2 t2=>exact RcNeAt.int_int c1 t1 c2 t2
  |str c2 t2=>exact RcNeAt.int_str c1 t1 c2 t2
  |tup q2 r2 v2 f6=>exact RcNeAt.int_tuple c1 t1 f6 hu
  |lst q2 r2 v2 f6=>exact RcNeAt.int_list c1 t1 f6 hu
 |str c1 t1=>
  cases h2 with
  |non=>exact RcNeAt.str_none c1 t1
  |bl c2=>exact RcNeAt.str_bool c1 t1 c2
  |int c2 t2=>exact RcNeAt.str_int c1 t1 c2 t2
  |str c2 t2=>exact RcNeAt.str_str c1 t1 c2 t2
  |tup q2 r2 v2 f6=>exact RcNeAt.str_tuple c1 t1 f6 hu
  |lst q2 r2 v2 f6=>exact RcNeAt.str_list c1 t1 f6 hu
 | @tup l p xs its q r v1 pl=>
  cases h2 with
  |non=>exact RcNeAt.tuple_none pl hu
  |bl c2=>exact RcNeAt.tuple_bool c2 pl hu
  |int c2 t2=>exact RcNeAt.tuple_int c2 t2 pl hu
  |str c2 t2=>exact RcNeAt.tuple_str c2 t2 pl hu
  | @tup m p2 ys d6 q2 r2 v2 f6=>
   have hl:D.depL l+1<=n:=by rw[D.dep] at hn;exact hn
   have hm:D.depL m<20000:=by rw[D.dep] at o6;omega
   have e1:=v1.length;have e2:=v2.length;have e3:=r.length;have e4:=r2.length;have z:=RcNeAt.tuples pl f6 hu (items l m xs ys its d6 _ _ hl hm r r2 v1 v2);simp only[iK] at z;rw[show its.length=l.length by omega,show d6.length=m.length by omega,lq] at z;rw[D.eqb];exact z
  |lst q2 r2 v2 f6=>exact RcNeAt.tuple_list pl f6 hu
 | @lst l p xs its q r v1 pl=>
  cases h2 with
  |non=>exact RcNeAt.list_none pl hu
  |bl c2=>exact RcNeAt.list_bool c2 pl hu
  |int c2 t2=>exact RcNeAt.list_int c2 t2 pl hu
  |str c2 t2=>exact RcNeAt.list_str c2 t2 pl hu
  |tup q2 r2 v2 f6=>exact RcNeAt.list_tuple pl f6 hu
  | @lst m p2 ys d6 q2 r2 v2 f6=>
   have hl:D.depL l+1<=n:=by rw[D.dep] at hn;exact hn
   have hm:D.depL m<20000:=by rw[D.dep] at o6;omega
   have e1:=v1.length;have e2:=v2.length;have e3:=r.length;have e4:=r2.length;have al:=lq l m;by_cases hlen:l.length=m.length
   ·have z:=RcNeAt.lists pl f6 (by simp only[iK];omega) hu (items l m xs ys its d6 _ _ hl hm r r2 v1 v2);simp only[iK] at z;rw[show its.length=min l.length m.length by omega] at z;rw[D.eqb,<-al,hlen];rw[hlen] at z;simpa using z
   ·have z:=RcNeAt.lists_lengths pl f6 (by simp only[iK,bne_iff_ne,ne_eq];omega) hu;rw[D.eqb,<-al];rw[show(l.length==m.length)=false by simpa using hlen];simpa using z
theorem MK(hu:X.A.units+60<cLine):OpR X (compareOp .Eq) (fun x y H Q=> ∃O d e,iT X.K H O d x/\iT X.K H O e y/\(d.dep<=50/\e.dep<=50)/\Q (.bl (D.eqb d e)) H):=by
 intro pins s σ H x y v u Q I rx ry h;obtain⟨O,d,e,h1,h2,h3,q⟩:=h;exact LK (A:=X.A) I h1 h2 rx ry h3.1 (by omega) (by omega) _ _ _ _ ⟨.bl _,H,I,rfl,q⟩
theorem MF(hu:X.A.units+60<cLine):OpR X (compareOp .NotEq) (fun x y H Q=> ∃O d e,iT X.K H O d x/\iT X.K H O e y/\(d.dep<=50/\e.dep<=50)/\Q (.bl (!D.eqb d e)) H):=by
 intro pins s σ H x y v u Q I rx ry h;obtain⟨O,d,e,h1,h2,h3,q⟩:=h;exact GX (A:=X.A) I h1 h2 rx ry h3.1 (by omega) (by omega) _ _ _ _ ⟨.bl _,H,I,rfl,q⟩
end
theorem gR{α:Type}{c:Prop}[Decidable c]{a b:α}(h:(if c then some a else none)=some b):c/\a=b:=by
 split at h
 ·rename_i hc;exact⟨hc,iw h⟩
 ·cases h
section
variable {X:Cx}{pins:gO}{σ:L2.St}{H:Hp}{s:gi}
end
def rD1(K:gA)(g:D->Option (D×Bool)):V->Hp->VK->Prop:=fun x H Q=> ∃(O:AP') (d:D) (z:D×Bool),(∀p,¬Ow (H p)-> ¬O p)/\iT K H O d x/\g d=some z/\Gen K H O z Q
def rD(K:gA)(g:D->D->Option (D×Bool)):R2:=fun x y H Q=> ∃(O:AP') (d e:D) (z:D×Bool),(∀p,¬Ow (H p)-> ¬O p)/\iT K H O d x/\iT K H O e y/\g d e=some z/\Gen K H O z Q
def rDn(K:gA)(g:List D->Option (D×Bool)):List V->Hp->VK->Prop:=fun vs H Q=> ∃(O:AP') (ds:List D) (z:D×Bool),(∀p,¬Ow (H p)-> ¬O p)/\ds.length=vs.length/\(∀(j:Nat) d v,ds[j]?=some d->vs[j]?=some v->iT K H O d v)/\g ds=some z/\Gen K H O z Q
section
variable {X:Cx}{e a b:gm}{fa fb:FO}{fs:List FO}{pos:Pos}
theorem px1(h:PE X e (tUn (rD1 X.K g) (tO X.K fa))):PX X e (jw g fa):=L4 h fun x z v H O Q np hx hg G=>⟨O,x,z,np,hx,hg,G⟩
theorem px2(h:PE X e (tOp (rD X.K g) (tO X.K fa) (tO X.K fb))):PX X e (gn g fa fb):=L0 h fun x y z v u H O Q np hx hy hg G=>⟨O,x,y,z,np,hx,hy,hg,G⟩
theorem pxn(h:PE X e (tCB (rDn X.K g) (tA X.K fs))):PX X e (gL g fs):=JE h fun ds z vs H O Q np hl hv hg G=>⟨O,ds,z,np,hl,hv,hg,G⟩
theorem gP{K H}{O:AP'}{i:Int}{v:V}(h:iT K H O (.int i) v):v= .int i:=h.elim (fun h=>h.int) fun⟨_,_,h⟩=>h.elim
theorem yN{K H}(h:iT K H O (.bl i) v):v= .bl i:=h.elim (fun h=>h.bl) fun⟨_,_,h⟩=>h.elim
theorem qA{K H}(h:iT K H O (.str i) v):v= .str i:=h.elim (fun h=>h.str) fun⟨_,_,h⟩=>h.elim
theorem zW{K H}(h:iT K H O .non v):v= .non:=h.elim (fun h=>h.non) fun⟨_,_,h⟩=>h.elim
theorem Gen.str{K H}(g:Gen K H O (.str i,false) Q):Q (.str i) H:=g _ H (fun _ _ e=>e) Rep.mkStr
noncomputable def gI(f:Int->Int->Option D):D->D->Option (D×Bool)
 | .int i,.int j=>(f i j).map fun z=>(z,false)
 |_,_=>none
theorem uk{f:Int->Int->Option D}{d e:D}{z:D×Bool}(h:gI f d e=some z): ∃i j y,d= .int i/\e= .int j/\f i j=some y/\z=(y,false):=by
 cases d with
 |int i=>
  cases e with
  |int j=>
   cases hf:f i j with
   |none=>rw[gI,hf] at h;cases h
   |some y=>rw[gI,hf] at h;cases h;exact⟨i,j,y,rfl,rfl,hf,rfl⟩
  |_=>cases h
 |_=>cases h
theorem uh{f:uo}{C:Int->Int->Prop}[∀i j,Decidable (C i j)]{g:Int->Int->Int}(ho:OpR X f (rI C fun i j=> .int (g i j))):OpR X f (rD X.K (gI fun i j=>if C i j then some (.int (g i j)) else none)):=by
 intro pins s σ H x y v u Q I rx ry h;obtain⟨O,d,e,z,np,h1,h2,hg,G⟩:=h;obtain⟨i,j,w,rfl,rfl,hf,rfl⟩:=uk hg;obtain⟨hc,rfl⟩:=gR hf;exact ho pins s σ H x y v u Q I rx ry ⟨i,j,gP h1,gP h2,hc,G.int⟩
theorem HF{f:uo}{g:Int->Int->Int}(ho:OpR X f (rI0 fun i j=> .int (g i j))):OpR X f (rD X.K (gI fun i j=>some (.int (g i j)))):=by
 intro pins s σ H x y v u Q I rx ry h;obtain⟨O,d,e,z,np,h1,h2,hg,G⟩:=h;obtain⟨i,j,w,rfl,rfl,hf,rfl⟩:=uk hg;cases hf;exact ho pins s σ H x y v u Q I rx ry ⟨i,j,gP h1,gP h2,G.int⟩
instance(i j:Int):Decidable (CMul i j):=by unfold CMul;exact inferInstance
instance(i j:Int):Decidable (Fg i j):=by unfold Fg;exact inferInstance
instance(i j:Int):Decidable (zK i j):=by unfold zK;exact inferInstance
noncomputable def gSub:=gI fun i j=>some (.int (i-j))
noncomputable def mq:=gI fun i j=>if CMul i j then some (.int (i*j)) else none
noncomputable def Ii:=gI fun i j=>if Fg i j then some (.int (i / j)) else none
noncomputable def wI:=gI fun i j=>if 0<j then some (.int (i%j)) else none
noncomputable def EY:=gI fun i j=>if zK i j then some (.int (i^j.toNat)) else none
theorem qJ:OpR X (binaryOp .Sub) (rD X.K gSub):=HF MD
theorem lB:OpR X (binaryOp .Mult) (rD X.K mq):=uh MI
theorem DJ:OpR X (binaryOp .FloorDiv) (rD X.K Ii):=uh J3
theorem pv:OpR X (binaryOp .Mod) (rD X.K wI):=uh MJ
theorem DI:OpR X (binaryOp .Pow) (rD X.K EY):=uh ME
noncomputable def jo:D->D->Option (D×Bool)
 | .int i,.int j=>some (.int (i+j),false)
 | .str i,.str j=>if i.length+j.length<=sizeLine then some (.str (i++j),false) else none
 | .tup l,.tup m=>if l.length+m.length<=sizeLine then some (.tup (l++m),false) else none
 | .lst l,.lst m=>if l.length+m.length<=sizeLine then some (.lst (l++m),true) else none
 |_,_=>none
theorem ik:OpR X (binaryOp .Add) (rD X.K jo):=by
 intro pins s σ H x y v u Q I rx ry h;obtain⟨O,d,e,z,np,h1,h2,hg,G⟩:=h
 cases d with
 |int i=>
  cases e with
  |int j=>cases hg;exact ML pins s σ H x y v u Q I rx ry ⟨i,j,gP h1,gP h2,G.int⟩
  |_=>cases hg
 |str i=>
  cases e with
  |str j=>
   obtain⟨hc,rfl⟩:=gR hg;exact Cn pins s σ H x y v u Q I rx ry ⟨i,j,qA h1,qA h2,hc,G.str⟩
  |_=>cases hg
 |tup l=>
  cases e with
  |tup m=>
   obtain⟨hc,rfl⟩:=gR hg;have k1:Rep X.K H O (.tup l) x:=h1.elim id fun⟨_,_,z⟩=>z.elim;have k2:Rep X.K H O (.tup m) y:=h2.elim id fun⟨_,_,z⟩=>z.elim;obtain⟨p1,xs,rfl,q1,r1⟩:=k1.tup;obtain⟨p2,ys,rfl,q2,r2⟩:=k2.tup;have l1:=r1.length;have l2:=r2.length;by_cases hx:xs=[]
   ·subst hx;have:l=[]:=by simpa using l1.symm
    subst this;cases rx;cases ry;obtain⟨its,v1,eE,_⟩:=I.tuple q1.sq;obtain⟨d6,v2,f6,_⟩:=I.tuple q2.sq;have e1:its=[]:=by have:=v1.length;simpa using this.symm
    subst e1;obtain⟨⟨cls,dd,data,sl⟩,ho,l8,n,hd⟩:=id eE;obtain⟨⟨cC,t4,data2,m9⟩,n8,j9,n2,hd2⟩:=id f6;simp only at l8 hd j9 hd2;subst l8 hd j9 hd2
    refine yB ⟨_,ho,rfl⟩ ⟨_,n8,rfl⟩ BO BN BM BL (BK _ _)
     (tuple_addW0 p1 p2 #[] d6.toArray n n2 dd t4 sl m9 (by simp)) ⟨ho,n8,⟨.ref p2,H,I,rfl,?_⟩⟩
    exact G _ H (fun _ _ e=>e) (by simpa using k2)
   ·refine J5 pins s σ H _ _ v u Q I rx ry ⟨p1,p2,xs,ys,rfl,rfl,q1.sq,q2.sq,hx,by omega,fun hy=>?_,fun hy p hp=>?_⟩
    ·subst hy;have:m=[]:=by simpa using l2.symm
     subst this;exact G _ H (fun _ _ e=>e) (by simpa using k1)
    ·exact G.tup hp (np p (nOw hp)) (r1.append r2)
  |_=>cases hg
 |lst l=>
  cases e with
  |lst m=>
   obtain⟨hc,rfl⟩:=gR hg;obtain⟨p1,xs,rfl,q1,r1⟩:=jm h1;obtain⟨p2,ys,rfl,q2,r2⟩:=jm h2;have l1:=r1.length;have l2:=r2.length;cases rx;cases ry;obtain⟨its,v1,eE,_⟩:=I.list q1;obtain⟨d6,v2,f6,_⟩:=I.list q2;have e1:=v1.length;have e2:=v2.length;obtain⟨⟨cls,dd,data,sl⟩,ho,l8,n,hd⟩:=id eE.isList;obtain⟨⟨cC,t4,data2,m9⟩,n8,j9,n2,hd2⟩:=id f6.isList;simp only at l8 hd j9 hd2;subst l8 hd j9 hd2
   refine yB ⟨_,ho,rfl⟩ ⟨_,n8,rfl⟩ noFill_list_add seq_list_add PySem.F.slot_list_add PySem.F.entry_list_add (PySem.F.args_list_add_2 _ _)
    (list_addW p1 p2 its.toArray d6.toArray n n2 dd t4 sl m9 (by simp only[iK];omega)) ⟨ho,n8,?_⟩
   rw[show its.toArray++d6.toArray=(its++d6).toArray by simp];exact⟨.ref _,_,I.lnew (t':=s.toks) (v1.append v2) (by rw[nX];omega),rfl,G.lst I.fresh (r1.append r2)⟩
  |_=>cases hg
 |_=>cases hg
noncomputable def gEq(d e:D):Option (D×Bool):=if d.dep<=50/\e.dep<=50 then some (.bl (D.eqb d e),false) else none
noncomputable def gNe(d e:D):Option (D×Bool):=if d.dep<=50/\e.dep<=50 then some (.bl (!D.eqb d e),false) else none
theorem oF(hu:X.A.units+60<cLine):OpR X (compareOp .Eq) (rD X.K gEq):=by
 intro pins s σ H x y v u Q I rx ry h;obtain⟨O,d,e,z,np,h1,h2,hg,G⟩:=h;obtain⟨hc,rfl⟩:=gR hg;exact MK hu pins s σ H x y v u Q I rx ry ⟨O,d,e,h1,h2,hc,G.bl⟩
theorem vA(hu:X.A.units+60<cLine):OpR X (compareOp .NotEq) (rD X.K gNe):=by
 intro pins s σ H x y v u Q I rx ry h;obtain⟨O,d,e,z,np,h1,h2,hg,G⟩:=h;obtain⟨hc,rfl⟩:=gR hg;exact MF hu pins s σ H x y v u Q I rx ry ⟨O,d,e,h1,h2,hc,G.bl⟩
theorem hW{α β:Type}{x:Option α}{f:α->β}{b:β}(h:x.map f=some b): ∃a,x=some a/\f a=b:=by
 cases x with
 |none=>cases h
 |some a=>exact⟨a,rfl,iw h⟩
noncomputable def oI:D->Option (D×Bool)
 | .int i=>some (.int (-i),false)
 |_=>none
theorem Ji:UnR X (unaryOp .USub) (rD1 X.K oI):=by
 intro pins s σ H x v Q I rx h;obtain⟨O,d,z,np,h1,hg,G⟩:=h
 cases d with
 |int i=>cases hg;exact Lp pins s σ H x v Q I rx ⟨i,gP h1,G.int⟩
 |_=>cases hg
noncomputable def gIx:D->D->Option (D×Bool)
 | .tup l,.int i=>(atI l i).map fun d=>(d,false)
 | .lst l,.int i=>(atI l i).map fun d=>(d,false)
 |_,_=>none
theorem Ed{K H}{O:AP'}{l:List D}{xs:List V}{i:Int}{d:D}(r:RepL K H O l xs)(h:atI l i=some d): ∃v,atI xs i=some v/\Rep K H O d v:=by
 unfold atI at h ⊢;rw[r.length];obtain⟨j,h1,h2⟩:=fY h;rw[h1];exact r.get h2
theorem Oh:IxR X (rD X.K gIx):=by
 intro value slice pins s σ H x y v u Q I rx ry h hs;obtain⟨O,d,e,z,np,h1,h2,hg,G⟩:=h
 cases d with
 |tup l=>
  cases e with
  |int i=>
   obtain⟨w,hw,rfl⟩:=hW hg;obtain⟨p,xs,rfl,q,r⟩:=kQ h1;obtain⟨vv,hv,hr⟩:=Ed r hw;exact MT value slice pins s σ H _ _ v u Q I rx ry ⟨p,xs,i,vv,rfl,gP h2,q,hv,G _ H (fun _ _ e=>e) hr⟩ hs
  |_=>cases hg
 |lst l=>
  cases e with
  |int i=>
   obtain⟨w,hw,rfl⟩:=hW hg;obtain⟨p,xs,rfl,q,r⟩:=jm h1;obtain⟨vv,hv,hr⟩:=Ed r hw;exact Ki value slice pins s σ H _ _ v u Q I rx ry ⟨p,xs,i,vv,rfl,gP h2,q,hv,G _ H (fun _ _ e=>e) hr⟩ hs
  |_=>cases hg
 |_=>cases hg
theorem Mb(ho:OpR X (binaryOp op) (rD X.K g))(ha:PO X a fa)(hb:PO X b fb):PX X (.BinOp a op b pos) (gn g fa fb):=px2 (N9 ho ha hb)
theorem Ma{op:CmpOp}{g:D->D->Option (D×Bool)}(ho:OpR X (compareOp op) (rD X.K g))(ha:PO X a fa)(hb:PO X b fb)(hm:behindInMarks op b=false):PX X (.Compare a [op] [b] pos) (gn g fa fb):=px2 (JY ho ha hb hm)
theorem L6(ha:PO X a fa):PX X (.UnaryOp .USub a pos) (jw oI fa):=px1 (N8 Ji ha)
theorem N4(ha:PO X a fa)(hb:PO X b fb)(hs:zH b):PX X (.Subscript a b pos) (gn gIx fa fb):=px2 (Oa Oh ha hb hs)
end
noncomputable def mh:List Opd->Option (List D)
 |[]=>some []
 | .val r::os=>(mh os).map (r.1:: ·)
 | .slot _::_=>none
noncomputable def jh(fs:List F):F:=fun δ=>(iN (fs.map gc) δ).bind fun p=>(mh p.1).bind fun ds=>if ds.length<=sizeLine then some ((.tup ds,false),p.2) else none
noncomputable def kF(fs:List F):F:=fun δ=>(iN (fs.map gc) δ).bind fun p=>(mh p.1).bind fun ds=>if ds.length<=sizeLine then some ((.lst ds,true),p.2) else none
section
variable {K:gA}{T T':AP'}{σ:L2.St}{δ δ':Dn}{H H':Hp}{os:List Opd}{vs:List V}
theorem Ops.rep(E:ER K H T σ δ)(B:Ops K T σ δ H os vs δ' H' T'){j:Nat}{r:D×Bool}{v:V}(h1:os[j]?=some (.val r))(h2:vs[j]?=some v):Rep K H' (fun a=>OwnA σ δ' a\/T a) r.1 v:=by
 obtain⟨d,b⟩:=r
 cases b with
 |false=>exact B.val j d v h1 h2
 |true=>
  obtain⟨p,rfl,tp,hp,ok⟩:=B.tmp j d v h1 h2;refine ok.rep (fun z=>?_) fun b _ z=>z;rcases z with z|z
  ·exact B.er.nT p z tp
  ·exact(E.dom p z).ne hp
theorem nJ{O:AP'}: ∀{os:List Opd} {vs:List V} {ds:List D},mh os=some ds->os.length=vs.length->(∀(j:Nat) (r:D×Bool) (v:V),os[j]?=some (.val r)->vs[j]?=some v->Rep K H' O r.1 v)->RepL K H' O ds vs
 |[],vs,ds,h,hl,_=>by
  cases h;have:vs=[]:=by simpa using hl.symm
  subst this;exact RepL.nil
 | .slot i::os,vs,ds,h,_,_=>by cases h
 | .val r::os,vs,ds,h,hl,k=>by
  obtain⟨l,h1,rfl⟩:=hW h
  cases vs with
  |nil=>simp at hl
  |cons v vs=>exact RepL.cons (k 0 r v rfl rfl) (nJ h1 (by simpa using hl) fun j r' v' a b=>k (j+1) r' v' (by simpa using a) (by simpa using b))
end
section
variable {X:Cx}{e a b:gm}{es:iL}{fa fb:FO}{fs:List F}{pos:Pos}
theorem LU{x1}(h:PA X es (tA X.K (fs.map gc))):PX X (.Tuple es x1 pos) (jh fs):=PX.imp (Hs h) fun σ H Q hw=>by
 obtain⟨δ,T,rr,δ',E,e,k⟩:=hw;obtain⟨⟨os,δ1⟩,h1,e⟩:=fY e;obtain⟨ds,h2,e⟩:=fY e;obtain⟨hn,e⟩:=gR e;obtain⟨rfl,rfl⟩:=uw e;refine⟨δ,T,os,δ1,E,h1,fun vs H1 T1 B=>?_⟩;have r:=nJ h2 B.len fun j r v a b=>B.rep E a b;exact⟨by rw[r.length];exact hn,fun p hp=>(B.done k).tup hp (B.np (nOw hp)) r⟩
theorem L7(h:PA X es (tA X.K (fs.map gc))):PX X (.List es pos) (kF fs):=PX.imp (Mx h) fun σ H Q hw=>by
 obtain⟨δ,T,rr,δ',E,e,k⟩:=hw;obtain⟨⟨os,δ1⟩,h1,e⟩:=fY e;obtain⟨ds,h2,e⟩:=fY e;obtain⟨hn,e⟩:=gR e;obtain⟨rfl,rfl⟩:=uw e;refine⟨δ,T,os,δ1,E,h1,fun vs H1 T1 B=>?_⟩;have r:=nJ h2 B.len fun j r v a b=>B.rep E a b;exact⟨by rw[r.length];exact hn,fun p hp=>(B.done k).lst hp r⟩
theorem DK{ds:List D}{vs:List V}{d:D}(hl:ds.length=vs.length)(hd:ds=[d]): ∃v,vs=[v]:=by
 subst hd
 cases vs with
 |nil=>simp at hl
 |cons v r=>
  cases r with
  |nil=>exact⟨v,rfl⟩
  |cons _ _=>simp at hl
noncomputable def g1(g:D->Option (D×Bool)):List D->Option (D×Bool)
 |[d]=>g d
 |_=>none
noncomputable def g2(g:D->D->Option (D×Bool)):List D->Option (D×Bool)
 |[d,e]=>g d e
 |_=>none
theorem mS{f:gp}{g:D->Option (D×Bool)}(h: ∀(pins:gO) (s:gi) (σ:L2.St) (H:Hp) (x:V) (u:gp) (Q:VK) (O:AP') (d:D) (z:D×Bool),Inv X pins σ H s->RelV x u->(∀p,¬Ow (H p)-> ¬O p)->iT X.K H O d x->g d=some z->Gen X.K H O z Q->
  wpAny (model X.prog X.w) X.A (call f [u]) (EP X pins σ Q) X.xe s):iY X f (rDn X.K (g1 g)):=by
 intro pins s σ H xs us Q I r hq;obtain⟨O,ds,z,np,hl,hv,hg,G⟩:=hq
 match ds,hg with
 |[d],hg=>
  obtain⟨v,rfl⟩:=DK hl rfl;obtain⟨u,rfl,ru⟩:=pP r;exact h pins s σ H v u Q O d z I ru np (hv 0 d v rfl rfl) hg G
theorem IK{f:gp}{g:D->D->Option (D×Bool)}(h: ∀(pins:gO) (s:gi) (σ:L2.St) (H:Hp) (x y:V) (us:hJ) (Q:VK) (O:AP') (d e:D) (z:D×Bool),Inv X pins σ H s->Vals [x,y] us->(∀p,¬Ow (H p)-> ¬O p)->iT X.K H O d x->iT X.K H O e y->g d e=some z->Gen X.K H O z Q->
  wpAny (model X.prog X.w) X.A (call f us) (EP X pins σ Q) X.xe s):iY X f (rDn X.K (g2 g)):=by
 intro pins s σ H xs us Q I r hq;obtain⟨O,ds,z,np,hl,hv,hg,G⟩:=hq
 match ds,hg,xs,hl with
 |[d,e],hg,[x,y],_=>exact h pins s σ H x y us Q O d e z I r np (hv 0 d x rfl rfl) (hv 1 e y rfl rfl) hg G
noncomputable def nR:D->Option (D×Bool)
 | .tup l=>some (.int l.length,false)
 | .lst l=>some (.int l.length,false)
 |_=>none
theorem jW:iY X (.builtin "len") (rDn X.K (g1 nR)):=mS fun pins s σ H x u Q O d z I ru np hd hg G=>by
 cases d with
 |tup l=>
  cases hg;obtain⟨p,xs,rfl,q,r⟩:=kQ hd;refine qY pins s σ H [_] [u] Q I (.cons ru .nil) ⟨p,xs,rfl,.inr q,?_⟩;rw[r.length];exact G.int
 |lst l=>
  cases hg;obtain⟨p,xs,rfl,q,r⟩:=jm hd;refine qY pins s σ H [_] [u] Q I (.cons ru .nil) ⟨p,xs,rfl,.inl q,?_⟩;rw[r.length];exact G.int
 |_=>cases hg
noncomputable def Ik:D->Option (D×Bool)
 | .int i=>some (.int (if i<0 then -i else i),false)
 |_=>none
theorem xM:iY X (.builtin "abs") (rDn X.K (g1 Ik)):=mS fun pins s σ H x u Q O d z I ru np hd hg G=>by
 cases d with
 |int i=>cases hg;exact IL pins s σ H [x] [u] Q I (.cons ru .nil) ⟨i,by rw[gP hd],G.int⟩
 |_=>cases hg
noncomputable def CG:D->Option (D×Bool)
 | .int i=>some (.int i,false)
 | .bl b=>some (.int (if b then 1 else 0),false)
 |_=>none
theorem sD:iY X (.type "int") (rDn X.K (g1 CG)):=mS fun pins s σ H x u Q O d z I ru np hd hg G=>by
 cases d with
 |int i=>cases hg;exact xK pins s σ H [x] [u] Q I (.cons ru .nil) (.inl ⟨i,by rw[gP hd],G.int⟩)
 |bl i=>
  cases hg;refine xK pins s σ H [x] [u] Q I (.cons ru .nil) (.inr ⟨i,by rw[yN hd],?_⟩);have:=G.int;cases i<;>exact this
 |_=>cases hg
noncomputable def kz:D->Option (D×Bool)
 | .tup l=>some (.tup l,false)
 | .lst l=>some (.tup l,false)
 |_=>none
theorem iO:iY X (.type "tuple") (rDn X.K (g1 kz)):=mS fun pins s σ H x u Q O d z I ru np hd hg G=>by
 cases d with
 |tup l=>
  cases hg;have k1:Rep X.K H O (.tup l) x:=hd.elim id fun⟨_,_,z⟩=>z.elim;obtain⟨p,xs,rfl,q,r⟩:=k1.tup;exact pY pins s σ H [_] [u] Q I (.cons ru .nil) ⟨p,xs,rfl,.inr ⟨q.sq,G _ H (fun _ _ e=>e) k1⟩⟩
 |lst l=>
  cases hg;obtain⟨p,xs,rfl,q,r⟩:=jm hd;exact pY pins s σ H [_] [u] Q I (.cons ru .nil) ⟨p,xs,rfl,.inl ⟨q,fun t ht=>G.tup ht (np t (nOw ht)) r⟩⟩
 |_=>cases hg
noncomputable def vQ:D->Option (D×Bool)
 | .tup l=>some (.lst l,true)
 | .lst l=>some (.lst l,true)
 |_=>none
theorem we:iY X (.type "list") (rDn X.K (g1 vQ)):=mS fun pins s σ H x u Q O d z I ru np hd hg G=>by
 cases d with
 |tup l=>
  cases hg;obtain⟨p,xs,rfl,q,r⟩:=kQ hd;exact qX pins s σ H [_] [u] Q I (.cons ru .nil) ⟨p,xs,rfl,.inr q,fun t ht=>G.lst ht r⟩
 |lst l=>
  cases hg;obtain⟨p,xs,rfl,q,r⟩:=jm hd;exact qX pins s σ H [_] [u] Q I (.cons ru .nil) ⟨p,xs,rfl,.inl q,fun t ht=>G.lst ht r⟩
 |_=>cases hg
end
abbrev FT:=Dn->Option (Bool×Dn)
def tT(K:gA)(f:FT):TT:=fun σ H Q=> ∃δ T b δ',ER K H T σ δ/\f δ=some (b,δ')/\ ∀H',Keep σ δ H δ' H'->ER K H' T σ δ'->Q b H'
def PTX(X:Cx)(e:gm)(f:FT):Prop:=PT X e (tT X.K f)
def PWX(X:Cx)(e:gm)(f:FT):Prop:=PW X e (tT X.K f)
noncomputable def asB:(D×Bool)×Dn->Option (Bool×Dn)
 |((.bl b,_),δ)=>some (b,δ)
 |_=>none
noncomputable def fT(f:F):FT:=fun δ=>(f δ).bind asB
theorem A9(h:asB p=some q): ∃o,p=((.bl q.1,o),q.2):=by
 obtain⟨⟨d,o⟩,δ⟩:=p
 cases d with
 |bl b=>cases h;exact⟨o,rfl⟩
 |_=>cases h
theorem KO{K:gA}{f:F}{σ:L2.St}{H:Hp}{Q:Bool->Hp->Prop}(h:tT K (fT f) σ H Q):tF K f σ H fun x H1=> ∃c,x= .bl c/\Q c H1:=by
 obtain⟨δ,T,b,δ',E,e,k⟩:=h;obtain⟨p,h1,h2⟩:=fY e;obtain⟨o,rfl⟩:=A9 h2;refine⟨δ,T,_,_,E,h1,fun v H' P=>?_⟩;obtain⟨E1,r⟩:=P.rep E;exact⟨b,r.bl,k H' P.1 E1⟩
section
variable {X:Cx}{e a b c:gm}{es:iL}{fa fb:FO}{f g:F}{ft fu:FT}{pos:Pos}
theorem PT.imp'(h:PT X e t)(k: ∀σ H Q,t' σ H Q->t σ H Q):PT X e t':=fun pins s σ H Q I hw=>h pins s σ H Q I (k σ H Q hw)
theorem PW.imp'(h:PW X e t)(k: ∀σ H Q,t' σ H Q->t σ H Q):PW X e t':=fun wh pins s σ H Q I hw=>h wh pins s σ H Q I (k σ H Q hw)
theorem JH(h:PX X e f)(he: ∀whole,isTrue e X.env whole=(do let v <-whole;standAt e.pos;holding [v] (truthy v))):PTX X e (fT f):=PT.imp' (Mh h he) fun σ H Q hw=>KO hw
theorem J6{r:R2}{g:D->D->Option (D×Bool)}(hr:Nr X.K r g){σ:L2.St}{H:Hp}{Q:VK}(hw:tF X.K (gn g fa fb) σ H Q):tOp r (tO X.K fa) (tO X.K fb) σ H Q:=by
 obtain⟨δ,T,rr,δ',E,e,k⟩:=hw;obtain⟨⟨o,δ1⟩,h1,e⟩:=fY e;obtain⟨⟨o2,δ2⟩,h2,e⟩:=fY e;obtain⟨x,h3,e⟩:=fY e;obtain⟨y,h4,e⟩:=fY e;obtain⟨z,h5,e⟩:=fY e;obtain⟨rfl,rfl⟩:=gH e;refine⟨δ,T,o,δ1,E,h1,fun v H1 P1=>⟨δ1,Bc T o v,o2,δ2,P1.er E,h2,fun u H2 P2=>?_⟩⟩;have B:=Ops.cons E P1 (Ops.cons (P1.er E) P2 (Ops.nil (P2.er (P1.er E))));exact hr x y z v u H2 _ Q (fun p hp=>B.np hp) (B.view (j:=0) rfl rfl h3) (B.view (j:=1) rfl rfl h4) h5 (B.done k)
theorem N2{K:gA}{g:D->D->Option (D×Bool)}:Nr K (rD K g) g:=fun x y z v u H O Q np hx hy hg G=>⟨O,x,y,z,np,hx,hy,hg,G⟩
theorem JJ{op:CmpOp}{g:D->D->Option (D×Bool)}(ho:OpR X (compareOp op) (rD X.K g))(ha:PO X a fa)(hb:PO X b fb)(hm:behindInMarks op b=false):PTX X (.Compare a [op] [b] pos) (fT (gn g fa fb)):=
 PT.imp' (JK ho ha hb hm) fun σ H Q hw=>J6 N2 (KO hw)
noncomputable def Ox(f g:FT):FT:=fun δ=>(f δ).bind fun p=>if p.1=true then g p.2 else some (false,p.2)
noncomputable def qh(f g:FT):FT:=fun δ=>(f δ).bind fun p=>if p.1=true then some (true,p.2) else g p.2
noncomputable def mw(f:FT):FT:=fun δ=>(f δ).bind fun p=>some (!p.1,p.2)
theorem JG(ha:PTX X a ft):PWX X (.BoolOp .Or [a] pos) ft:=Mf ha
theorem Me(ha:PTX X a ft)(hb:PWX X (.BoolOp .Or (b::es) pos) fu):PWX X (.BoolOp .Or (a::b::es) pos) (qh ft fu):=PW.imp' (N7 ha hb) fun σ H Q hw=>by
 obtain⟨δ,T,c,δ',E,e,k⟩:=hw;obtain⟨⟨c1,δ1⟩,h1,e⟩:=fY e;refine⟨δ,T,c1,δ1,E,h1,fun H1 K1 E1=>?_⟩
 cases c1 with
 |true=>
  rw[gq rfl] at e;rw[gq rfl];obtain⟨rfl,rfl⟩:=gH e;exact k H1 K1 E1
 |false=>
  rw[gv iU] at e;rw[gv iU];exact⟨δ1,T,c,δ',E1,e,fun H2 K2 E2=>k H2 (K1.trans K2) E2⟩
theorem JI(ha:PTX X a ft):PTX X (.UnaryOp .Not a pos) (mw ft):=PT.imp' (Mi ha) fun σ H Q hw=>by
 obtain⟨δ,T,c,δ',E,e,k⟩:=hw;obtain⟨⟨c1,δ1⟩,h1,e⟩:=fY e;obtain⟨rfl,rfl⟩:=gH e;exact⟨δ,T,c1,δ1,E,h1,k⟩
noncomputable def E7(f g:F):F:=fun δ=>(f δ).bind fun p=>(asB p).bind fun q=>if q.1=true then g q.2 else some ((.bl false,false),q.2)
noncomputable def fOr(f g:F):F:=fun δ=>(f δ).bind fun p=>(asB p).bind fun q=>if q.1=true then some ((.bl true,false),q.2) else g q.2
noncomputable def QE(f:F):F:=fun δ=>(f δ).bind fun p=>(asB p).bind fun q=>some ((.bl (!q.1),false),q.2)
theorem Post.pre{K:gA}{T:AP'}{σ:L2.St}{δ δ1 δ2:Dn}{H H1 H2:Hp}{r:D×Bool}{v:V}(k:Keep σ δ H δ1 H1)(P:Post K T σ δ1 H1 r δ2 v H2):Post K T σ δ H r δ2 v H2:=by
 refine⟨k.trans P.1,?_⟩;obtain⟨d,o⟩:=r
 cases o with
 |false=>exact P.2
 |true=>
  obtain⟨p,h1,h2,h3⟩:=P.2;refine⟨p,h1,?_,h3⟩
  cases hH:H p with
  |none=>rfl
  |some ob=>exact absurd h2 (k.dm p (by rw[hH];simp))
theorem Mc(ha:PX X a f)(hb:PX X (.BoolOp .And (b::es) pos) g):PX X (.BoolOp .And (a::b::es) pos) (E7 f g):=PX.imp (MA ha hb) fun σ H Q hw=>by
 obtain⟨δ,T,r,δ',E,e,k⟩:=hw;obtain⟨p,h1,e⟩:=fY e;obtain⟨⟨c,δ1⟩,h2,e2⟩:=fY e;obtain⟨o,rfl⟩:=A9 h2;refine⟨δ,T,_,_,E,h1,fun v H1 P=>?_⟩;obtain⟨E1,rv⟩:=P.rep E;refine⟨c,rv.bl,?_⟩
 cases c with
 |true=>
  rw[gq rfl] at e2;rw[gq rfl];exact⟨δ1,T,r,δ',E1,e2,fun w H2 P2=>k w H2 (P2.pre P.1)⟩
 |false=>
  rw[gv iU] at e2;rw[gv iU];obtain⟨rfl,rfl⟩:=gH e2;exact k _ H1 (Post.val P.1 E1 Rep.mkBl)
theorem JF{op}(ha:PX X a f):PX X (.BoolOp op [a] pos) f:=Mv ha
noncomputable def fIf(t:FT)(f g:F):F:=fun δ=>(t δ).bind fun p=>if p.1=true then f p.2 else g p.2
theorem N5(hc:PTX X c ft)(ha:PX X a f)(hb:PX X b g):PX X (.IfExp c a b pos) (fIf ft f g):=PX.imp (Hw hc ha hb) fun σ H Q hw=>by
 obtain⟨δ,T,r,δ',E,e,k⟩:=hw;obtain⟨⟨c,δ1⟩,h1,e⟩:=fY e;refine⟨δ,T,c,δ1,E,h1,fun H1 K1 E1=>?_⟩
 cases c with
 |true=>rw[gq rfl] at e;rw[gq rfl];exact⟨δ1,T,r,δ',E1,e,fun w H2 P2=>k w H2 (P2.pre K1)⟩
 |false=>rw[gv iU] at e;rw[gv iU];exact⟨δ1,T,r,δ',E1,e,fun w H2 P2=>k w H2 (P2.pre K1)⟩
end
inductive Out where
 |nx(δ:Dn)|rt(r:D×Bool)(δ:Dn)|bk(δ:Dn)|ct(δ:Dn)
abbrev FS:=Dn->Option Out
structure SK(A:ir)(σ:L2.St)(δ:Dn)(H:Hp)(σ':L2.St)(δ':Dn)(H':Hp):Prop where
 kp: ∀a o,H a=some o-> ¬OwnA σ δ a->H' a=some o
 owi: ∀i a,OwnI σ' δ' i a->OwnI σ δ i a\/H a=none
 dm: ∀a,H a≠none->H' a≠none
 as: ∀i,¬A i->σ'[i]?=σ[i]?
structure FI(L:ir)(H0:Hp)(σ:L2.St)(δ:Dn)(H:Hp):Prop where
 ow: ∀i a,OwnI σ δ i a->L i\/H0 a=none
 dm: ∀a,H0 a≠none->H a≠none
def RV(K:gA)(T:AP')(H0:Hp)(r:D×Bool)(σ':L2.St)(δ':Dn)(v:V)(H':Hp):Prop:=
 match r with
 |(d,false)=>ER K H' T σ' δ'/\Rep K H' (fun a=>OwnA σ' δ' a\/T a) d v
 |(d,true)=> ∃p,v= .ref p/\H0 p=none/\ER K H' (fun a=>T a\/a=p) σ' δ'/\OwnOk K H' (fun a=>OwnA σ' δ' a\/T a\/a=p) d p
section
variable {A:ir}{σ σ1 σ2:L2.St}{δ δ1 δ2:Dn}{H H0 H1 H2:Hp}{L:ir}{K:gA}{T:AP'}
theorem SK.refl:SK A σ δ H σ δ H:=⟨fun _ _ e _=>e,fun _ _ z=> .inl z,fun _ z=>z,fun _ _=>rfl⟩
theorem SK.ow(k:SK A σ δ H σ1 δ1 H1)(a:fZ)(h:OwnA σ1 δ1 a):OwnA σ δ a\/H a=none:=by
 obtain⟨i,d,h1,h2⟩:=h;rcases k.owi i a ⟨d,h1,h2⟩ with⟨e,h3,h4⟩|z
 ·exact .inl ⟨i,e,h3,h4⟩
 ·exact .inr z
theorem SK.trans(x:SK A σ δ H σ1 δ1 H1)(y:SK A σ1 δ1 H1 σ2 δ2 H2):SK A σ δ H σ2 δ2 H2 where
 kp:=fun a o e n=>y.kp a o (x.kp a o e n) fun z=>(x.ow a z).elim n fun z=>by rw[z] at e;cases e
 owi:=fun i a z=>(y.owi i a z).elim (x.owi i a) fun z=> .inr (by
  cases h:H a with
  |none=>rfl
  |some o=>exact absurd z (x.dm a (by rw[h];simp)))
 dm:=fun a z=>y.dm a (x.dm a z)
 as:=fun i h=>(y.as i h).trans (x.as i h)
theorem Keep.sk(k:Keep σ δ H δ1 H1):SK A σ δ H σ δ1 H1:=⟨k.kp,fun i a z=> .inl (k.owi i a z),k.dm,fun _ _=>rfl⟩
theorem FI.step(f:FI L H0 σ δ H)(k:SK A σ δ H σ1 δ1 H1):FI L H0 σ1 δ1 H1 where
 ow:=fun i a z=>(k.owi i a z).elim (f.ow i a) fun z=> .inr (by
  cases h:H0 a with
  |none=>rfl
  |some o=>exact absurd z (f.dm a (by rw[h];simp)))
 dm:=fun a z=>k.dm a (f.dm a z)
theorem FI.fresh(f:FI L H0 σ δ H)(hp:H p=none):H0 p=none:=by
 cases h:H0 p with
 |none=>rfl
 |some o=>exact absurd hp (f.dm p (by rw[h];simp))
end
def tS(K:gA)(A L:ir)(H0:Hp)(f:FS):TS:=fun D σ H=> ∃δ T out,ER K H T σ δ/\FI L H0 σ δ H/\f δ=some out/\
 match out with
 | .nx δ'=> ∀σ' H',SK A σ δ H σ' δ' H'->ER K H' T σ' δ'->D.nx σ' H'
 | .bk δ'=> ∀σ' H',SK A σ δ H σ' δ' H'->ER K H' T σ' δ'->D.bk σ' H'
 | .ct δ'=> ∀σ' H',SK A σ δ H σ' δ' H'->ER K H' T σ' δ'->D.ct σ' H'
 | .rt r δ'=> ∀v σ' H',SK A σ δ H σ' δ' H'->RV K T H0 r σ' δ' v H'->D.rt v H'
def PSX(X:Cx)(A L:ir)(H0:Hp)(st:Stmt)(f:FS):Prop:=PS X st (tS X.K A L H0 f)
def wO(X:Cx)(A L:ir)(H0:Hp)(st:List Stmt)(f:FS):Prop:=PSs X st (tS X.K A L H0 f)
noncomputable def gZ:FS:=fun δ=>some (.nx δ)
noncomputable def gw(f g:FS):FS:=fun δ=>(f δ).bind fun o=>match o with
 | .nx δ1=>g δ1
 |o=>some o
noncomputable def mn(f:F):FS:=fun δ=>(f δ).bind fun p=>some (.nx p.2)
noncomputable def kd(f:F):FS:=fun δ=>(f δ).bind fun p=>some (.rt p.1 p.2)
noncomputable def pk(i:Nat):FS:=fun δ=>match δ[i]? with
 |some (some (d,true))=>some (.rt (d,true) (δ.set i none))
 |some (some (d,false))=>some (.rt (d,false) δ)
 |_=>none
noncomputable def sIf(t:FT)(f g:FS):FS:=fun δ=>(t δ).bind fun p=>if p.1=true then f p.2 else g p.2
noncomputable def jc(i:Nat)(f:F):FS:=fun δ=>(f δ).bind fun p=>if i<p.2.length then some (.nx (p.2.set i (some p.1))) else none
section
variable {X:Cx}{A L:ir}{H0:Hp}{st:Stmt}{t6:List Stmt}{f g:FS}{fe:F}{ft:FT}{e c:gm}{pos:Pos}
theorem PS.imp'(h:PS X st t)(k: ∀D σ H,t' D σ H->t D σ H):PS X st t':=fun pins s σ H D I hw=>h pins s σ H D I (k D σ H hw)
theorem PSs.imp'(h:PSs X t6 t)(k: ∀D σ H,t' D σ H->t D σ H):PSs X t6 t':=fun pins s σ H D I hw=>h pins s σ H D I (k D σ H hw)
theorem Hb:wO X A L H0 [] gZ:=PSs.imp' DD fun D σ H hw=>by
 obtain⟨δ,T,out,E,fi,e,k⟩:=hw;cases e;exact k σ H .refl E
theorem EF(h1:PSX X A L H0 st f)(h2:wO X A L H0 t6 g):wO X A L H0 (st::t6) (gw f g):=PSs.imp' (nj h1 h2) fun D σ H hw=>by
 obtain⟨δ,T,out,E,fi,e,k⟩:=hw;obtain⟨o,h3,e⟩:=fY e;refine⟨δ,T,o,E,fi,h3,?_⟩
 cases o with
 |nx δ1=>
  intro σ1 H1 K1 E1;refine⟨δ1,T,out,E1,fi.step K1,e,?_⟩
  cases out with
  |nx δ2=>exact fun σ2 H2 K2 E2=>k σ2 H2 (K1.trans K2) E2
  |bk δ2=>exact fun σ2 H2 K2 E2=>k σ2 H2 (K1.trans K2) E2
  |ct δ2=>exact fun σ2 H2 K2 E2=>k σ2 H2 (K1.trans K2) E2
  |rt r δ2=>exact fun v σ2 H2 K2 R2=>k v σ2 H2 (K1.trans K2) R2
 |rt r δ1=>cases e;exact k
 |bk δ1=>cases e;exact k
 |ct δ1=>cases e;exact k
theorem G8(h:PX X e fe)(hs:swapsWith e none pos.line X.env=pure false):PSX X A L H0 (.Expr e pos) (mn fe):=PS.imp' (JP h hs) fun D σ H hw=>by
 obtain⟨δ,T,out,E,fi,e,k⟩:=hw;obtain⟨p,h3,e⟩:=fY e;cases e;exact⟨δ,T,p.1,p.2,E,h3,fun v H1 P=>k σ H1 P.1.sk (P.rep E).1⟩
theorem JM(h:PX X e fe):PSX X A L H0 (.Return (some e) pos) (kd fe):=PS.imp' (He h) fun D σ H hw=>by
 obtain⟨δ,T,out,E,fi,e,k⟩:=hw;obtain⟨p,h3,e⟩:=fY e;cases e;refine⟨δ,T,p.1,p.2,E,h3,fun v H1 P=>k v σ H1 P.1.sk ?_⟩;obtain⟨⟨d,o⟩,δ1⟩:=p
 cases o with
 |false=>exact P.2
 |true=>
  obtain⟨q,h1,h2,h3⟩:=P.2;exact⟨q,h1,fi.fresh h2,h3⟩
theorem Mj(hc:PTX X c ft)(ha:wO X A L H0 a f)(hb:wO X A L H0 b g):PSX X A L H0 (.If c a b pos) (sIf ft f g):=PS.imp' (KY hc ha hb) fun D σ H hw=>by
 obtain⟨δ,T,out,E,fi,e,k⟩:=hw;obtain⟨⟨c,δ1⟩,h1,e⟩:=fY e;refine⟨δ,T,c,δ1,E,h1,fun H1 K1 E1=>?_⟩;have dv:SK A σ δ H σ δ1 H1:=K1.sk
 have fin: ∀(h:FS),h δ1=some out->tS X.K A L H0 h D σ H1:=fun h he=>by
  refine⟨δ1,T,out,E1,fi.step dv,he,?_⟩
  cases out with
  |nx δ2=>exact fun σ2 H2 K2 E2=>k σ2 H2 (dv.trans K2) E2
  |bk δ2=>exact fun σ2 H2 K2 E2=>k σ2 H2 (dv.trans K2) E2
  |ct δ2=>exact fun σ2 H2 K2 E2=>k σ2 H2 (dv.trans K2) E2
  |rt r δ2=>exact fun v σ2 H2 K2 R2=>k v σ2 H2 (dv.trans K2) R2
 cases c with
 |true=>rw[gq rfl] at e;exact(show(if true=true then tS X.K A L H0 f D σ H1 else _) from by rw[gq rfl];exact fin f e)
 |false=>rw[gv iU] at e;exact(show(if false=true then _ else tS X.K A L H0 g D σ H1) from by rw[gv iU];exact fin g e)
end
theorem jZ{α:Type}{l:List α}{i j:Nat}{x y:α}(h:(l.set i x)[j]?=some y):(i=j/\i<l.length/\y=x)\/(i≠j/\l[j]?=some y):=by
 rw[uJ] at h;split at h
 ·rename_i k6;split at h
  ·rename_i hl;exact .inl ⟨k6,hl,(iw h).symm⟩
  ·cases h
 ·rename_i k6;exact .inr ⟨k6,h⟩
section
variable {K:gA}{T:AP'}{σ:L2.St}{δ δ1:Dn}{H H1:Hp}{x:D×Bool}{v:V}{i:Nat}
theorem OwnI.store{j:Nat}{a:fZ}(h:OwnI (σ.set i (some v)) (δ.set i (some x)) j a):(i≠j/\OwnI σ δ j a)\/(i=j/\x.2=true/\v= .ref a):=by
 obtain⟨d,h1,h2⟩:=h;rcases jZ h1 with⟨e,_,q⟩|⟨ne,q⟩
 ·rcases jZ h2 with⟨_,_,q2⟩|⟨ne2,_⟩
  ·right;cases q;exact⟨e,rfl,(iw q2).symm⟩
  ·exact absurd e ne2
 ·rcases jZ h2 with⟨e2,_,_⟩|⟨_,q2⟩
  ·exact absurd e2 ne
  ·exact .inl ⟨ne,d,q,q2⟩
theorem OwnA.store(h:OwnA (σ.set i (some v)) (δ.set i (some x)) a):OwnA σ δ a\/(x.2=true/\v= .ref a):=by
 obtain⟨j,d,h1,h2⟩:=h;rcases OwnI.store ⟨d,h1,h2⟩ with⟨_,e,h3,h4⟩|⟨_,h3⟩
 ·exact .inl ⟨j,e,h3,h4⟩
 ·exact .inr h3
theorem ER.store(E1:ER K H1 (Tmp T x v) σ δ1)(hi:i<δ1.length)(hx:match x with|(d,false)=>Rep K H1 (fun a=>OwnA σ δ1 a\/T a) d v|(d,true)=> ∃p,v= .ref p/\ ¬T p/\OwnOk K H1 (fun a=>OwnA σ δ1 a\/T a\/a=p) d p):
  ER K H1 T (σ.set i (some v)) (δ1.set i (some x)):=by
 have hσ:i<σ.length:=by rw[E1.len];exact hi
 have sub: ∀b,H1 b≠none->(OwnA (σ.set i (some v)) (δ1.set i (some x)) b\/T b)->(OwnA σ δ1 b\/Tmp T x v b):=fun b _ z=>by
  rcases z with z|z
  ·rcases z.store with z|z
   ·exact .inl z
   ·exact .inr (.inr z)
  ·exact .inr (.inl z)
 refine⟨by rw[oq,oq];exact E1.len,fun j d hj=>?_,fun j d hj=>?_,fun j k d e a hj hk h1 h2=>?_,fun a z=>?_,fun a z=>E1.dom a (.inl z)⟩
 ·rcases jZ hj with⟨rfl,_,q⟩|⟨ne,q⟩
  ·have q:=iw q;subst q
   exact⟨v,kY hσ,Rep.mono (fun _ _ e _=>e) (fun b hb z=>by
    rcases z with z|z
    ·rcases z.store with z|z
     ·exact .inl z
     ·exact absurd z.1 (by simp)
    ·exact .inr z) hx⟩
  ·obtain⟨w,h1,h2⟩:=E1.val j d q;exact⟨w,by rw[md ne];exact h1,Rep.mono (fun _ _ e _=>e) sub h2⟩
 ·rcases jZ hj with⟨rfl,_,q⟩|⟨ne,q⟩
  ·have q:=iw q;subst q;obtain⟨p,rfl,np,ok⟩:=hx;refine⟨p,kY hσ,ok.mono (fun _ _ e _=>e) (fun b hb z=>?_) fun _ e=>e⟩;rcases z with z|z
   ·rcases z.store with z|z
    ·exact .inl z
    ·have:=z.2;cases this;exact .inr (.inr rfl)
   ·exact .inr (.inl z)
  ·obtain⟨a,h1,h2⟩:=E1.own j d q;exact⟨a,by rw[md ne];exact h1,h2.mono (fun _ _ e _=>e) sub fun _ e=>e⟩
 ·rcases OwnI.store ⟨d,hj,h1⟩ with⟨n1,d',g1,g2⟩|⟨e1,g1,g2⟩
  ·rcases OwnI.store ⟨e,hk,h2⟩ with⟨n2,e',g3,g4⟩|⟨e2,g3,g4⟩
   ·exact E1.inj j k d' e' a g1 g3 g2 g4
   ·exact absurd (Or.inr ⟨g3,g4⟩) (E1.nT a ⟨j,d',g1,g2⟩)
  ·rcases OwnI.store ⟨e,hk,h2⟩ with⟨n2,e',g3,g4⟩|⟨e2,g3,g4⟩
   ·exact absurd (Or.inr ⟨g1,g2⟩) (E1.nT a ⟨k,e',g3,g4⟩)
   ·exact e1.symm.trans e2
 ·rcases z.store with z|z
  ·exact fun t=>E1.nT a z (.inl t)
  ·obtain⟨d,b⟩:=x
   cases b with
   |false=>exact absurd z.1 (by simp)
   |true=>
    obtain⟨p,rfl,np,_⟩:=hx;have:=z.2;cases this;exact np
theorem SK.store(k:Keep σ δ H δ1 H1)(ha:A i)(hp:x.2=true-> ∀p,v= .ref p->H p=none):SK A σ δ H (σ.set i (some v)) (δ1.set i (some x)) H1 where
 kp:=k.kp
 owi:=fun j a z=>by
  rcases z.store with⟨_,z⟩|⟨_,z1,z2⟩
  ·exact .inl (k.owi j a z)
  ·exact .inr (hp z1 a z2)
 dm:=k.dm
 as:=fun j hj=>md (fun(e:i=j)=>hj (by subst e;exact ha))
end
section
variable {X:Cx}{A L:ir}{H0:Hp}{fe:F}{e c:gm}{pos pos':Pos}
theorem oA{K:gA}{T:AP'}{σ:L2.St}{δ δ1:Dn}{H H1:Hp}{r:D×Bool}{v:V}{i:Nat}(E:ER K H T σ δ)(P:Post K T σ δ H r δ1 v H1)(hi:i<δ1.length)(ha:A i):
  SK A σ δ H (σ.set i (some v)) (δ1.set i (some r)) H1/\ER K H1 T (σ.set i (some v)) (δ1.set i (some r)):=by
 have hp:r.2=true-> ∀p,v= .ref p->H p=none:=fun h p hv=>by
  obtain⟨d,o⟩:=r
  cases o with
  |false=>cases h
  |true=>obtain⟨q,h1,h2,_⟩:=P.2;rw[hv] at h1;cases h1;exact h2
 refine⟨SK.store P.1 ha hp,ER.store (P.er E) hi ?_⟩;obtain⟨d,o⟩:=r
 cases o with
 |false=>exact P.2.2
 |true=>
  obtain⟨p,rfl,h2,h3,h4⟩:=P.2;exact⟨p,rfl,fun z=>(E.dom p z).ne h2,h4⟩
theorem JL{i:Nat}{x:Str}(hN:X.N.Nodup)(hi:X.N[i]?=some x)(hx:Loc X.env.scope x)(he:PX X e fe)(hs:swapsWith e (some (.Name x pos')) pos.line X.env=pure false)(hf:X.fn x=true\/X.env.scope.names.lookup x=some .local)(ha:A i):
  PSX X A L H0 (.Assign [.Name x pos'] e pos) (jc i fe):=PS.imp' (Hd hN hi hx he hs hf) fun D σ H hw=>by
 obtain⟨δ,T,out,E,fi,e,k⟩:=hw;obtain⟨⟨r,δ1⟩,h3,e⟩:=fY e;obtain⟨hi,rfl⟩:=gR e;refine⟨δ,T,r,δ1,E,h3,fun v H1 P=>?_⟩;obtain⟨h1,h2⟩:=oA (A:=A) E P hi ha;exact k _ H1 h1 h2
theorem Cg{i:Nat}{x:Str}(hN:X.N[i]?=some x)(hv:Vis X.env.scope x)(hd:(x==("__debug__":Str))=false)(l5:(x==("__classdict__":Str))=false)(hl: ¬L i):PSX X A L H0 (.Return (some (.Name x pos')) pos) (pk i):=PS.imp' (He (vz hN hv hd l5)) fun D σ H hw=>by
 obtain⟨δ,T,out,E,fi,e,k⟩:=hw;unfold pk at e
 cases hi:δ[i]? with
 |none=>rw[hi] at e;cases e
 |some q=>
  cases q with
  |none=>rw[hi] at e;cases e
  |some p=>
   obtain⟨d,b⟩:=p;have hil:i<δ.length:=(rk.mp hi).1
   cases b with
   |false=>
    rw[hi] at e;cases e;obtain⟨v,h1,h2⟩:=E.val i d hi;exact⟨v,h1,k v σ H .refl ⟨E,h2⟩⟩
   |true=>
    rw[hi] at e;cases e;obtain⟨a,h1,h2⟩:=E.own i d hi
    have gone: ∀j b,OwnI σ (δ.set i none) j b->i≠j/\OwnI σ δ j b:=fun j b ⟨d',g1,g2⟩=>by
     rcases jZ g1 with⟨_,_,q⟩|⟨ne,q⟩
     ·cases q
     ·exact⟨ne,d',q,g2⟩
    have goneA: ∀b,OwnA σ (δ.set i none) b->OwnA σ δ b/\b≠a:=fun b ⟨j,d',g1,g2⟩=>by
     obtain⟨ne,d2,g3,g4⟩:=gone j b ⟨d',g1,g2⟩;exact⟨⟨j,d2,g3,g4⟩,fun z=>ne (by subst z;exact E.inj i j d d2 _ hi g3 h1 g4)⟩
    have ha:OwnA σ δ a:=⟨i,d,hi,h1⟩
    have sub: ∀b,H b≠none->(OwnA σ (δ.set i none) b\/(T b\/b=a))->(OwnA σ δ b\/T b):=fun b _ z=>by
     rcases z with z|z|z
     ·exact .inl (goneA b z).1
     ·exact .inr z
     ·subst z;exact .inl ha
    refine⟨.ref a,h1,k (.ref a) σ H ⟨fun _ _ e _=>e,fun j b z=> .inl (gone j b z).2,fun _ z=>z,fun _ _=>rfl⟩ ⟨a,rfl,?_,?_,h2.mono (fun _ _ e _=>e) sub fun _ e=>e⟩⟩
    ·rcases fi.ow i a ⟨d,hi,h1⟩ with z|z
     ·exact absurd z hl
     ·exact z
    ·refine⟨by rw[oq];exact E.len,fun j d' hj=>?_,fun j d' hj=>?_,fun j k d' e' b hj hk g1 g2=>?_,fun b z t=>?_,fun b z=>?_⟩
     ·rcases jZ hj with⟨_,_,q⟩|⟨ne,q⟩
      ·cases q
      ·obtain⟨w,w1,w2⟩:=E.val j d' q;exact⟨w,w1,Rep.mono (fun _ _ e _=>e) sub w2⟩
     ·rcases jZ hj with⟨_,_,q⟩|⟨ne,q⟩
      ·cases q
      ·obtain⟨w,w1,w2⟩:=E.own j d' q;exact⟨w,w1,w2.mono (fun _ _ e _=>e) sub fun _ e=>e⟩
     ·obtain⟨_,d2,q1,q2⟩:=gone j b ⟨d',hj,g1⟩;obtain⟨_,d3,q3,q4⟩:=gone k b ⟨e',hk,g2⟩;exact E.inj j k d2 d3 b q1 q3 q2 q4
     ·obtain⟨z1,z2⟩:=goneA b z;rcases t with t|t
      ·exact E.nT b z1 t
      ·exact z2 t
     ·rcases z with z|z
      ·exact E.dom b z
      ·subst z;exact E.ownOw ha
end
abbrev Tg:=D->Dn->Option Dn
def tG(K:gA)(A:ir)(tg:Tg):TG:=fun v σ H Q=> ∃δ T d δ',ER K H T σ δ/\Rep K H (fun a=>OwnA σ δ a\/T a) d v/\tg d δ=some δ'/\ ∀σ',SK A σ δ H σ' δ' H->ER K H T σ' δ'->Q σ' H
def PGX(X:Cx)(A:ir)(e:gm)(tg:Tg):Prop:=PG X e (tG X.K A tg)
noncomputable def gx(i:Nat):Tg:=fun d δ=>if i<δ.length then some (δ.set i (some (d,false))) else none
noncomputable def Dk:List Tg->List D->Dn->Option Dn
 |[],[],δ=>some δ
 |t::ts,d::ds,δ=>(t d δ).bind (Dk ts ds)
 |_,_,_=>none
noncomputable def oy(ts:List Tg):Tg
 | .tup ds,δ=>Dk ts ds δ
 |_,_=>none
def tGs(K:gA)(A:ir)(ts:List Tg):TGs:=fun vs σ H Q=> ∃δ T ds δ',ER K H T σ δ/\RepL K H (fun a=>OwnA σ δ a\/T a) ds vs/\Dk ts ds δ=some δ'/\ ∀σ',SK A σ δ H σ' δ' H->ER K H T σ' δ'->Q σ' H
section
variable {X:Cx}{A:ir}{pos:Pos}{e:gm}{es:iL}{t:Tg}{ts:List Tg}
theorem PG.imp'{t t':TG}(h:PG X e t)(k: ∀v σ H Q,t' v σ H Q->t v σ H Q):PG X e t':=fun pins s σ H v u Q I r hw=>h pins s σ H v u Q I r (k v σ H Q hw)
theorem PGs.imp'{t t':TGs}(h:PGs X es t)(k: ∀v σ H Q,t' v σ H Q->t v σ H Q):PGs X es t':=fun pins s σ H v u Q I r hw=>h pins s σ H v u Q I r (k v σ H Q hw)
theorem Hn{i:Nat}{x:Str}(hN:X.N.Nodup)(hi:X.N[i]?=some x)(hx:Loc X.env.scope x)(hf:X.fn x=true\/X.env.scope.names.lookup x=some .local)(ha:A i):PGX X A (.Name x pos) (gx i):=PG.imp' (DE hN hi hx hf) fun v σ H Q hw=>by
 obtain⟨δ,T,d,δ',E,r,e,k⟩:=hw;obtain⟨hi,rfl⟩:=gR e;obtain⟨h1,h2⟩:=oA (A:=A) (r:=(d,false)) (v:=v) E (Post.val .refl E r) hi ha;exact k _ h1 h2
theorem Ho:PGs X [] (tGs X.K A []):=PGs.imp' JX fun v σ H Q hw=>by
 obtain⟨δ,T,ds,δ',E,r,e,k⟩:=hw
 cases ds with
 |nil=>
  cases e;rw[RepL] at r;exact⟨r,k σ .refl E⟩
 |cons _ _=>cases e
theorem xj(h1:PGX X A e t)(h2:PGs X es (tGs X.K A ts))(hs:(assignEach (e::es) X.env).map (·.2)=assign e X.env::(assignEach es X.env).map (·.2)):PGs X (e::es) (tGs X.K A (t::ts)):=PGs.imp' (Hq h1 h2 hs) fun v σ H Q hw=>by
 obtain⟨δ,T,ds,δ',E,r,e,k⟩:=hw
 cases ds with
 |nil=>cases e
 |cons d ds=>
  rw[RepL] at r;obtain⟨v1,vr,rfl,r1,r2⟩:=r;obtain⟨δ1,h3,e⟩:=fY e;refine⟨v1,vr,rfl,δ,T,d,δ1,E,r1,h3,fun σ1 K1 E1=>⟨δ1,T,ds,δ',E1,?_,e,fun σ2 K2 E2=>k σ2 (K1.trans K2) E2⟩⟩;exact RepL.mono (fun _ _ e _=>e) (fun b hb z=>z.elim (fun z=>(K1.ow b z).elim Or.inl fun z=>absurd z hb) Or.inr) r2
theorem JW{k:Nat}(hc:X.calm=true)(h:PGs X es (tGs X.K A ts)){n:Nat}(hn:(assignEach es X.env).length=n)(hl:ts.length=n)(r8:(assignEach es X.env).findIdx? (·.1)=none):PGX X A (.Tuple es k pos) (oy ts):=PG.imp' (Ms hc h hn r8) fun v σ H Q hw=>by
 obtain⟨δ,T,d,δ',E,r,e,k⟩:=hw
 cases d with
 |tup ds=>
  obtain⟨a,xs,rfl,q,rr⟩:=r.tup;refine⟨a,xs,rfl,q.sq,?_,δ,T,ds,δ',E,rr,e,k⟩
  have: ∀(ts:List Tg) (ds:List D) (δ:Dn),Dk ts ds δ=some δ'->ds.length=ts.length:=by
   intro ts
   induction ts with
   |nil=>intro ds δ h;cases ds with|nil=>rfl|cons _ _=>cases h
   |cons t ts ih=>
    intro ds δ h
    cases ds with
    |nil=>cases h
    |cons d ds=>obtain⟨δ1,_,h⟩:=fY h;simp[ih ds δ1 h]
  rw[rr.length,this ts ds δ e,hl]
 |_=>cases e
end
abbrev SB:=Nat->Prop
def OwB(B:SB)(T:AP')(σ:L2.St)(δ:Dn):AP':=fun a=>(∃i,¬B i/\OwnI σ δ i a)\/T a
theorem OwB.own(h:OwB B T σ δ a):OwnA σ δ a\/T a:=h.imp (fun⟨i,_,d,h1,h2⟩=>⟨i,d,h1,h2⟩) id
structure ItOk(K:gA)(J:It)(ds:List D)(P O:AP')(H1:Hp):Prop where
 go: ∀(i:Nat) d Hi,ds[i]?=some d->(∀a o,H1 a=some o-> ¬P a->Hi a=some o)->J.go i Hi/\ ∀x H',J.yld i Hi x H'->(∀a o,Hi a=some o->H' a=some o)/\
  ∀O':AP',(∀b,H1 b≠none->O' b->O b)->(∀b,Hi b=none-> ¬O' b)->Rep K H' O' d x
 stop: ∀(i:Nat) Hi,ds.length<=i->(∀a o,H1 a=some o-> ¬P a->Hi a=some o)->J.stop i Hi
abbrev FIt:=Dn->Option (List D×Dn)
def tI(K:gA)(B:SB)(fi:FIt):TI:=fun σ H R=> ∃δ T ds δ',ER K H T σ δ/\fi δ=some (ds,δ')/\ ∀J H',Keep σ δ H δ' H'->ER K H' T σ δ'->ItOk K J ds (OwB B T σ δ') (fun a=>OwnA σ δ' a\/T a) H'->R J H'
def PIX(X:Cx)(B:SB)(tg iter:gm)(fi:FIt):Prop:=PI X tg iter (tI X.K B fi)
noncomputable def xb:D->Option (List D)
 | .tup l=>some l
 | .lst l=>some l
 |_=>none
noncomputable def vN(f:FO):FIt:=fun δ=>(f δ).bind fun p=>(res p.2 p.1).bind fun d=>(xb d).bind fun l=>some (l,p.2)
noncomputable def ky(f:F):FIt:=fun δ=>(f δ).bind fun p=>match p.1.1 with
 | .lst l=>some (l,p.2)
 | .tup l=>some (l,p.2)
 |_=>none
noncomputable def ip(lo:Int)(n:Nat):List D:=(List.range n).map fun(k:Nat)=> .int (lo+k)
noncomputable def AJ(f:FO):FIt:=fun δ=>(iN [f] δ).bind fun p=>match qe p.2 p.1 with
 |some [.int j]=>if -(2^62)<=j/\j<2^62 then some (ip 0 j.toNat,p.2) else none
 |_=>none
def SlB(B:SB)(f:FO):Prop:= ∀δ i δ',f δ=some (.slot i,δ')->B i
theorem Jn:SlB B (gc f):=fun δ i δ' h=>by
 obtain⟨p,_,h⟩:=fY h;cases h
theorem yR(h:B i):SlB B (gf i):=fun δ j δ' e=>by
 unfold gf at e;split at e<;>cases e
 exact h
noncomputable def isL:D->Bool
 | .lst _=>true
 |_=>false
def SqA(b:Bool)(K:gA)(H:Hp)(P:AP')(a:fZ)(xs:List V):Prop:=if b=true then SqLO K H P a xs else SqTO K H P a xs
theorem SqA.mono{K H H'}{P P':AP'}(q:SqA b K H P a xs)(k: ∀b o,H b=some o-> ¬P b->H' b=some o)(hP: ∀b,P' b->P b):SqA b K H' P' a xs:=by
 cases b with
 |true=>exact SqLO.mono q k fun b _=>hP b
 |false=>exact SqTO.mono (K:=K) q k fun b _=>hP b
theorem SqA.l{K H}(q:SqA true K H P a xs):SqL K H a xs:=SqLO.sq q
theorem SqA.t{K H}(q:SqA false K H P a xs):SqT K H a xs:=SqTO.sq (K:=K) q
theorem Ex{K H}(h:xb d=some l)(r:Rep K H O d v): ∃a xs,v= .ref a/\SqA (isL d) K H O a xs/\RepL K H O l xs:=by
 cases d with
 |tup m=>cases h;obtain⟨a,xs,rfl,q,rr⟩:=r.tup;exact⟨a,xs,rfl,q,rr⟩
 |lst m=>cases h;obtain⟨a,xs,rfl,q,rr⟩:=r.lst;exact⟨a,xs,rfl,q,rr⟩
 |_=>cases h
theorem Ops.seq{K:gA}{T T':AP'}{σ:L2.St}{δ δ':Dn}{H H':Hp}{os:List Opd}{vs:List V}(E:ER K H T σ δ)(W:Ops K T σ δ H os vs δ' H' T'){j:Nat}(h1:os[j]?=some o)(h2:vs[j]?=some v)(hr:res δ' o=some d)(hs:xb d=some l)(hB: ∀i,o= .slot i->B i):
  ∃a xs,v= .ref a/\SqA (isL d) K H' (OwB B T σ δ') a xs/\RepL K H' (fun a=>OwnA σ δ' a\/T a) l xs:=by
 have fin:Rep K H' (fun a=>OwnA σ δ' a\/T a) d v-> ∃a xs,v= .ref a/\SqA (isL d) K H' (OwB B T σ δ') a xs/\RepL K H' (fun a=>OwnA σ δ' a\/T a) l xs:=fun r=>by
  obtain⟨a,xs,rfl,q,rr⟩:=Ex hs r;exact⟨a,xs,rfl,q.mono (fun _ _ e _=>e) fun a z=>z.own,rr⟩
 cases o with
 |val r=>cases hr;exact fin (W.rep E h1 h2)
 |slot i=>
  have hk:=W.slt j i _ h1 h2
  have hd: ∃f,δ'[i]?=some (some (d,f)):=by
   unfold res at hr;dsimp only at hr;split at hr<;>cases hr
   exact⟨_,by assumption⟩
  obtain⟨f,hd⟩:=hd
  cases f with
  |false=>
   obtain⟨w,e1,e2⟩:=W.er.val i _ hd;rw[hk] at e1;cases e1;exact fin (Rep.mono (fun _ _ e _=>e) (fun b _ z=>z.imp id (W.tt b)) e2)
  |true=>
   obtain⟨a,e1,ok⟩:=W.er.own i _ hd;rw[hk] at e1;cases e1
   cases d with
   |lst m=>
    cases hs;obtain⟨xs,e,rr⟩:=ok;exact⟨a,xs,rfl,.inl ⟨.inl e,fun z=>z.elim (fun⟨k,nb,d',g1,g2⟩=>nb (W.er.inj i k _ _ a hd g1 hk g2▸hB i rfl)) fun z=>W.er.nT a ⟨i,_,hd,hk⟩ (W.tt a z)⟩,RepL.mono (fun _ _ e _=>e) (fun b _ z=>z.imp id (W.tt b)) rr⟩
   |tup m=>exact ok.elim
   |_=>cases hs
section
variable {X:Cx}{B:SB}{tg e:gm}{f:F}{fo:FO}{pos p:Pos}
theorem PI.imp'(h:PI X tg e t)(k: ∀σ H R,t' σ H R->t σ H R):PI X tg e t':=fun pins s σ H R I hw=>h pins s σ H R I (k σ H R hw)
theorem PI.or(h:PI X tg e t)(h':PI X tg e t'):PI X tg e (fun σ H R=>t σ H R\/t' σ H R):=fun pins s σ H R I hw=>hw.elim (h pins s σ H R I) (h' pins s σ H R I)
noncomputable def ItS(b:Bool)(K:gA)(a:fZ):It:=if b=true then Itl K a else Itt K a
theorem Ia{K:gA}{P O:AP'}{H1:Hp}{a:fZ}{xs:List V}{l:List D}(q:SqA b K H1 P a xs)(r:RepL K H1 O l xs)(hP: ∀a,P a->O a):ItOk K (ItS b K a) l P O H1:=by
 cases b<;>(
  refine⟨fun i d Hi hd hp=>?_,fun i Hi hi hp=>?_⟩
  ·have q2:=SqA.mono q hp fun _ z=>z
   first|replace q2:=q2.l|replace q2:=q2.t
   obtain⟨x,hx,rx⟩:=r.get hd;refine⟨⟨xs,x,q2,hx⟩,fun y H' hy=>?_⟩;obtain⟨rfl,hy⟩:=hy;have:=hy xs q2;rw[hx] at this;cases this;exact⟨fun _ _ e=>e,fun O' h1 h2=>Rep.mono (fun b o e n=>hp b o e fun z=>n (hP b z)) h1 rx⟩
  ·exact⟨xs,by first|exact(SqA.mono q hp fun _ z=>z).l|exact(SqA.mono q hp fun _ z=>z).t,by rw[r.length];exact hi⟩)
theorem vO{K:gA}{P O:AP'}{H1:Hp}(lo:Int)(n:Nat):ItOk K (Itr lo n) (ip lo n) P O H1:=by
 refine⟨fun i d Hi hd hp=>?_,fun i Hi hi hp=>?_⟩
 ·unfold ip at hd;rw[jd] at hd;obtain⟨k,h1,h2⟩:=hW hd;have hi:i<n:=by have:=(rk.mp h1).1;simpa using this
  have hk:k=i:=by rw[BC hi] at h1;exact(iw h1).symm
  subst hk;refine⟨hi,fun y H' hy=>?_⟩;obtain⟨rfl,rfl⟩:=hy;refine⟨fun _ _ e=>e,fun O' _ _=>?_⟩;rw[<-h2];exact Rep.mkInt
 ·unfold ip at hi;have:n<=i:=by simpa using hi
  exact this
theorem Au(h:PO X e fo)(hB:SlB B fo):PIX X B tg e (vN fo):=PI.imp' (PI.or (JV (tg:=tg) h) (Mr h)) fun σ H R hw=>by
 obtain⟨δ,T,ds,δ',E,e,k⟩:=hw;obtain⟨⟨o,δ1⟩,h1,e⟩:=fY e;obtain⟨d,h2,e⟩:=fY e;obtain⟨l,h3,e⟩:=fY e;obtain⟨rfl,rfl⟩:=gH e
 have key: ∀v H1,PostO X.K T σ δ H o δ1 v H1-> ∃a xs,v= .ref a/\SqA (isL d) X.K H1 (OwB B T σ δ1) a xs/\R (ItS (isL d) X.K a) H1:=fun v H1 P=>by
  have W:=Ops.cons E P (Ops.nil (P.er E));obtain⟨a,xs,rfl,q,rr⟩:=W.seq E (j:=0) rfl rfl h2 h3 fun i hi=>hB _ _ _ (hi▸h1);exact⟨a,xs,rfl,q,k _ H1 W.keep (W.er.mono (fun _ _ e _=>e) (fun b _ z=>W.tt b z) (fun a z=>W.er.dom a (W.tt a z))) (Ia q rr fun a z=>z.own)⟩
 cases d with
 |lst m=>exact .inl ⟨δ,T,_,_,E,h1,fun v H1 P=>let⟨a,xs,e,q,r⟩:=key v H1 P;⟨a,e,⟨xs,q.l⟩,r⟩⟩
 |tup m=>exact .inr ⟨δ,T,_,_,E,h1,fun v H1 P=>let⟨a,xs,e,q,r⟩:=key v H1 P;⟨a,e,⟨xs,q.t⟩,r⟩⟩
 |_=>cases h3
theorem JS(h:PX X e f):PIX X B tg e (ky f):=PI.imp' (Au (B:=B) (PX.po h) Jn) fun σ H R hw=>by
 have:ky f=vN (gc f):=funext fun δ=>by
  unfold ky vN gc
  cases f δ with
  |none=>rfl
  |some p=>obtain⟨⟨d,o⟩,δ1⟩:=p;cases d<;>rfl
 rwa [this] at hw
end
noncomputable def tV(tg:Tg)(fb:FS):List D->FS
 |[],δ=>some (.nx δ)
 |d::ds,δ=>(tg d δ).bind fun δ1=>(fb δ1).bind fun o=>match o with
  | .nx δ2=>tV tg fb ds δ2
  | .ct δ2=>tV tg fb ds δ2
  | .bk δ2=>some (.nx δ2)
  | .rt r δ2=>some (.rt r δ2)
noncomputable def tN(fi:FIt)(tg:Tg)(fb:FS):FS:=fun δ=>(fi δ).bind fun p=>tV tg fb p.1 p.2
section
variable {X:Cx}{A L:ir}{H0:Hp}{tg iter:gm}{body:List Stmt}{fi:FIt}{t:Tg}{fb:FS}{pos:Pos}
theorem JO(hp:PassesOwn (model X.prog X.w) X.A X.env X.xe)(hc:X.calm=true)(hi:PIX X (fun _=>False) tg iter fi)(hg:PGX X A tg t)(hb:wO X A L H0 body fb)(hs: ∀x,foldedSetIterable iter X.env x=pure x):
  PSX X A L H0 (.For tg iter body [] pos) (tN fi t fb):=PS.imp' (Mn hp hc hi hg hb hs) fun D σ H hw=>by
 obtain⟨δ,T,out,E,fN,e,k⟩:=hw;obtain⟨⟨ds,δ1⟩,h1,e⟩:=fY e;refine⟨δ,T,ds,δ1,E,h1,fun J H1 K1 E1 ok=>?_⟩;have S1:SK A σ δ H σ δ1 H1:=K1.sk;refine⟨fun i m σ' H'=>m=ds.length-i/\i<=ds.length/\ ∃δ',SK A σ δ1 H1 σ' δ' H'/\ER X.K H' T σ' δ'/\tV t fb (ds.drop i) δ'=some out,⟨ds.length,by simp,mB _,δ1,.refl,E1,by simpa using e⟩,?_⟩;rintro i m σ2 H2 ⟨rfl,hle,δ2,S2,E2,e2⟩;have aw: ∀a o,H1 a=some o-> ¬OwB (fun _=>False) T σ δ1 a->H2 a=some o:=fun a o ea n=>S2.kp a o ea fun⟨i,d,z⟩=>n (.inl ⟨i,id,d,z⟩);by_cases u6:i<ds.length
 ·refine .inr ?_;have hd:ds[i]?=some ds[i]:=iu u6;obtain⟨go,yl⟩:=ok.go i _ H2 hd aw;rw[sO u6] at e2;obtain⟨δ3,h3,e3⟩:=fY e2;obtain⟨o,h4,e4⟩:=fY e3;refine⟨go,fun σ' H'=> ∃δ',SK A σ δ1 H1 σ' δ' H'/\ER X.K H' T σ' δ'/\tV t fb (ds.drop (i+1)) δ'=some out,fun σ' H' ⟨δ',q1,q2,q3⟩=>⟨ds.length-(i+1),by omega,rfl,u6,δ',q1,q2,q3⟩,fun x H' hy=>?_⟩;obtain⟨ext,rep⟩:=yl x H' hy;have eu:ER X.K H' T σ2 δ2:=E2.mono (fun b ob eb _=>ext b ob eb) (fun _ _ z=>z) (fun a z=>(E2.dom a z).up (ext a));have fV:SK A σ δ1 H1 σ2 δ2 H':=S2.trans (Keep.ext ext).sk;have rx:=rep (fun a=>OwnA σ2 δ2 a\/T a) (fun b hb z=>z.elim (fun z=>(S2.ow b z).elim Or.inl fun z=>absurd z hb) Or.inr) (fun b hb z=>z.elim (fun z=>E2.ownDom z hb) fun z=>(E2.dom b z).ne hb);refine⟨δ2,T,ds[i],δ3,eu,rx,h3,fun σ3 S3 E3=>?_⟩;have cE:=fV.trans S3;refine⟨δ3,T,o,E3,(fN.step S1).step cE,h4,?_⟩
  cases o with
  |nx δ4=>exact fun σ4 H4 S4 E4=>⟨δ4,cE.trans S4,E4,e4⟩
  |ct δ4=>exact fun σ4 H4 S4 E4=>⟨δ4,cE.trans S4,E4,e4⟩
  |bk δ4=>cases e4;exact fun σ4 H4 S4 E4=>k σ4 H4 (S1.trans (cE.trans S4)) E4
  |rt r δ4=>cases e4;exact fun v σ4 H4 S4 R4=>k v σ4 H4 (S1.trans (cE.trans S4)) R4
 ·refine .inl ⟨ok.stop i H2 (by omega) aw,?_⟩;rw[uI (by omega)] at e2;cases e2;exact k σ2 H2 (S1.trans S2) E2
end
noncomputable def lj(ft:FT)(fb:FS):Nat->FS
 |0,_=>none
 |n+1,δ=>(ft δ).bind fun p=>if p.1=true then(fb p.2).bind fun o=>(match o with
   | .nx δ2=>lj ft fb n δ2
   | .ct δ2=>lj ft fb n δ2
   | .bk δ2=>some (.nx δ2)
   | .rt r δ2=>some (.rt r δ2)) else some (.nx p.2)
noncomputable def zk(f g:FO):FIt:=fun δ=>(iN [f,g] δ).bind fun p=>match qe p.2 p.1 with
 |some [.int i,.int j]=>if -(2^62)<=i/\i<2^62/\ -(2^62)<=j/\j<2^62 then some (ip i (j-i).toNat,p.2) else none
 |_=>none
section
variable {X:Cx}{A L:ir}{H0:Hp}{B:SB}{tg e c a b:gm}{body:List Stmt}{ft:FT}{fb:FS}{fa fo:FO}{pos p:Pos}
theorem EC{n:Nat}(hp:PassesOwn (model X.prog X.w) X.A X.env X.xe)(hc:PTX X c ft)(hb:wO X A L H0 body fb):PSX X A L H0 (.While c body [] pos) (lj ft fb n):=PS.imp' (Hc hp hc hb) fun D σ H hw=>by
 obtain⟨δ,T,out,E,fN,e,k⟩:=hw;refine⟨fun m σ' H'=> ∃δ',SK A σ δ H σ' δ' H'/\ER X.K H' T σ' δ'/\lj ft fb m δ'=some out,⟨n,δ,.refl,E,e⟩,?_⟩;rintro m σ2 H2 ⟨δ2,S2,E2,e2⟩
 cases m with
 |zero=>cases e2
 |succ m=>
  obtain⟨⟨c1,δ3⟩,h3,e3⟩:=fY e2;refine⟨δ2,T,c1,δ3,E2,h3,fun H3 K3 E3=>?_⟩;have S3:SK A σ δ H σ2 δ3 H3:=S2.trans K3.sk
  cases c1 with
  |false=>
   rw[gv iU] at e3;cases e3;exact MV (k σ2 H3 S3 E3)
  |true=>
   rw[gq rfl] at e3;obtain⟨o,h4,e4⟩:=fY e3;refine MU ⟨fun σ' H'=> ∃δ',SK A σ δ H σ' δ' H'/\ER X.K H' T σ' δ'/\lj ft fb m δ'=some out,fun σ' H' q=>⟨m,rH _,q⟩,δ3,T,o,E3,fN.step S3,h4,?_⟩
   cases o with
   |nx δ4=>exact fun σ4 H4 S4 E4=>⟨δ4,S3.trans S4,E4,e4⟩
   |ct δ4=>exact fun σ4 H4 S4 E4=>⟨δ4,S3.trans S4,E4,e4⟩
   |bk δ4=>cases e4;exact fun σ4 H4 S4 E4=>k σ4 H4 (S3.trans S4) E4
   |rt r δ4=>cases e4;exact fun v σ4 H4 S4 R4=>k v σ4 H4 (S3.trans S4) R4
theorem pd{K:gA}{T T':AP'}{σ:L2.St}{δ δ':Dn}{H H':Hp}{os:List Opd}{vs:List V}{ds:List D}(B:Ops K T σ δ H os vs δ' H' T')(h:qe δ' os=some ds){j:Nat}{i:Int}(hd:ds[j]?=some (.int i)):vs[j]?=some (.int i):=by
 obtain⟨h1,h2⟩:=lG h;obtain⟨o,h3,h4⟩:=h2 j _ hd;have hj:j<vs.length:=by have:=(rk.mp h3).1;have:=B.len;omega
 have hv:vs[j]?=some vs[j]:=iu hj;have:=gP (B.view h3 hv h4);rw[hv,this]
theorem Ck(hg:Gl X "range")(hm:X.mg "range"=none)(ha:PA X [a] (tA X.K [fa]))(hs:starEach [a] X.env=[(false,eval a X.env)]):PIX X B tg (.Call (.Name "range" p) [a] [] pos) (AJ fa):=PI.imp' (EI hg hm ha hs) fun σ H R hw=>by
 obtain⟨δ,T,ds,δ',E,e,k⟩:=hw;obtain⟨⟨os,δ1⟩,h1,e⟩:=fY e;refine⟨δ,T,os,δ1,E,h1,fun vs H1 T1 B=>?_⟩;dsimp only at e;split at e
 ·rename_i j hj;obtain⟨⟨c1,c2⟩,e⟩:=gR e;obtain⟨rfl,rfl⟩:=uw e;have hv:=pd B hj (j:=0) rfl;obtain⟨hl,_⟩:=lG hj
  have:vs=[.int j]:=by
   have hlen:=B.len
   cases vs with
   |nil=>simp at hv
   |cons v r=>
    cases r with
    |nil=>simp at hv;rw[hv]
    |cons _ _=>simp at hl hlen;omega
  exact⟨j,this,c1,c2,k _ H1 B.keep (B.er.mono (fun _ _ e _=>e) (fun b _ z=>B.tt b z) (fun a z=>B.er.dom a (B.tt a z))) (vO 0 j.toNat)⟩
 ·cases e
theorem Cj(hg:Gl X "range")(hm:X.mg "range"=none)(ha:PA X [a,b] (tA X.K [fa,fo]))(hs:starEach [a,b] X.env=[(false,eval a X.env),(false,eval b X.env)])(m4:starEach [b] X.env=[(false,eval b X.env)]):PIX X B tg (.Call (.Name "range" p) [a,b] [] pos) (zk fa fo):=PI.imp' (EH hg hm ha hs m4) fun σ H R hw=>by
 obtain⟨δ,T,ds,δ',E,e,k⟩:=hw;obtain⟨⟨os,δ1⟩,h1,e⟩:=fY e;refine⟨δ,T,os,δ1,E,h1,fun vs H1 T1 B=>?_⟩;dsimp only at e;split at e
 ·rename_i i j hj;obtain⟨c1,e⟩:=gR e;obtain⟨rfl,rfl⟩:=uw e;have hv:=pd B hj (j:=0) rfl;have dM:=pd B hj (j:=1) rfl;obtain⟨hl,_⟩:=lG hj
  have:vs=[.int i,.int j]:=by
   have hlen:=B.len
   match vs,hv,dM with
   |[x,y],hv,dM=>simp at hv dM;rw[hv,dM]
   |x::y::z::r,_,_=>simp at hl hlen;omega
  exact⟨i,j,this,c1,k _ H1 B.keep (B.er.mono (fun _ _ e _=>e) (fun b _ z=>B.tt b z) (fun a z=>B.er.dom a (B.tt a z))) (vO i (j-i).toNat)⟩
 ·cases e
end
abbrev EvF:=List (D×Bool)->Option ((D×Bool)×Dn)
def spF(K:gA)(ev:EvF):Sp:=fun vs H Q _=> ∃T args r outs,ER K H T (vs.map some) (args.map some)/\ev args=some (r,outs)/\ ∀v H',Post K T (vs.map some) (args.map some) H r outs v H'->Q v H'
noncomputable def iE(args:List (D×Bool))(δ:Dn):Dn:=args.zipIdx.map fun p=>if p.1.2=true then(δ[p.2]?).join else some p.1
noncomputable def evF(n np:Nat)(asg:gW)(f:FS):EvF:=fun args=>
 if args.length=np/\np<=n/\(args.zipIdx.all fun p=>!(p.1.2&&asg.contains p.2))=true then
  match f (args.map some++List.replicate (n-np) none) with
  |some (.rt r δ)=>some (r,iE args δ)
  |some (.nx δ)=>some ((.non,false),iE args δ)
  |_=>none
 else none
theorem HC(args:List (D×Bool))(δ:Dn)(i:Nat):(iE args δ)[i]?=args[i]?.map fun x=>if x.2=true then(δ[i]?).join else some x:=by
 unfold iE;rw[jd,FR]
 cases args[i]? with
 |none=>rfl
 |some x=>simp
theorem nA(h:x.join=some p):x=some (some p):=by
 cases x with
 |none=>cases h
 |some y=>exact pO some h
section
variable {K:gA}{T:AP'}{A:ir}{vs:List V}{args:List (D×Bool)}{H H':Hp}{m:Nat}{σ':L2.St}{δ':Dn}{r:D×Bool}{v:V}
theorem zM{α:Type}{xs:List α}{m i:Nat}{y:α}:(xs.map some++List.replicate m none)[i]?=some (some y)↔xs[i]?=some y:=by
 by_cases h:i<xs.length
 ·rw[BP (by simpa using h),jd];cases xs[i]?<;>simp
 ·rw[BQ (by simpa using h)];constructor
  ·intro e;rw[qy] at e;split at e<;>cases e
  ·intro e;exact absurd (rk.mp e).1 h
theorem pD{α:Type}{xs:List α}{i:Nat}{y:α}:(xs.map some)[i]?=some (some y)↔xs[i]?=some y:=by
 rw[jd];cases xs[i]?<;>simp
theorem Fj{i:Nat}{a:fZ}:OwnI (vs.map some++List.replicate m none) (args.map some++List.replicate m none) i a↔OwnI (vs.map some) (args.map some) i a:=by
 unfold OwnI;simp only[zM,pD]
theorem Av:OwnA σ δ a↔ ∃i,OwnI σ δ i a:=Iff.rfl
theorem HB:OwnA (vs.map some++List.replicate m none) (args.map some++List.replicate m none) a↔OwnA (vs.map some) (args.map some) a:=by
 rw[Av,Av];exact exists_congr fun i=>Fj
theorem ER.pad(E:ER K H T (vs.map some) (args.map some)):ER K H T (vs.map some++List.replicate m none) (args.map some++List.replicate m none):=by
 have len:vs.length=args.length:=by simpa using E.len
 refine⟨by simp[len],fun i d h=>?_,fun i d h=>?_,fun i j d e a h1 h2 h3 h4=>?_,fun a z=>E.nT a (HB.mp z),E.dom⟩
 ·obtain⟨w,w1,w2⟩:=E.val i d (pD.mpr (zM.mp h));exact⟨w,zM.mpr (pD.mp w1),Rep.mono (fun _ _ e _=>e) (fun b _ z=>z.imp HB.mp id) w2⟩
 ·obtain⟨w,w1,w2⟩:=E.own i d (pD.mpr (zM.mp h));exact⟨w,zM.mpr (pD.mp w1),w2.mono (fun _ _ e _=>e) (fun b _ z=>z.imp HB.mp id) fun _ e=>e⟩
 ·exact E.inj i j d e a (pD.mpr (zM.mp h1)) (pD.mpr (zM.mp h2)) (pD.mpr (zM.mp h3)) (pD.mpr (zM.mp h4))
theorem DH{T':AP'}(E:ER K H T (vs.map some) (args.map some))(S:SK A (vs.map some++List.replicate m none) (args.map some++List.replicate m none) H σ' δ' H')(hA: ∀(i:Nat) d,args[i]?=some (d,true)-> ¬A i)
  (E':ER K H' T' σ' δ')(hT: ∀b,H b≠none->T' b->T b):ER K H' T' (vs.map some) (iE args δ')/\(∀b,OwnA (vs.map some) (iE args δ') b->OwnA σ' δ' b)/\Keep (vs.map some) (args.map some) H (iE args δ') H':=by
 have len:vs.length=args.length:=by simpa using E.len
 have here: ∀(i:Nat) d w,args[i]?=some (d,true)->vs[i]?=some w->σ'[i]?=some (some w):=fun i d w h1 h2=>by
  rw[S.as i (hA i d h1)];exact zM.mpr h2
 have outI: ∀(i:Nat) d b,(iE args δ')[i]?=some (some (d,b))->(∃e,args[i]?=some (e,true)/\δ'[i]?=some (some (d,b)))\/(b=false/\args[i]?=some (d,false)):=fun i d b h=>by
  rw[HC] at h;obtain⟨⟨e,c⟩,h1,h2⟩:=hW h
  cases c with
  |true=>
   left;exact⟨e,h1,nA (by simpa using h2)⟩
  |false=>
   right;have:some (e,false)=some (d,b):=by simpa using h2
   cases this;exact⟨rfl,h1⟩
 have ax: ∀i a,OwnI (vs.map some) (iE args δ') i a->OwnI σ' δ' i a/\OwnI (vs.map some) (args.map some) i a:=fun i a ⟨d,h1,h2⟩=>by
  rcases outI i d true h1 with⟨e,h3,h4⟩|⟨z,_⟩
  ·exact⟨⟨d,h4,here i e _ h3 (pD.mp h2)⟩,⟨e,pD.mpr h3,h2⟩⟩
  ·cases z
 have aa: ∀b,OwnA (vs.map some) (iE args δ') b->OwnA σ' δ' b:=fun b ⟨i,d,h1,h2⟩=>by
  obtain⟨⟨e,q1,q2⟩,_⟩:=ax i b ⟨d,h1,h2⟩;exact⟨i,e,q1,q2⟩
 have owA2: ∀b,OwnA (vs.map some) (iE args δ') b->OwnA (vs.map some) (args.map some) b:=fun b ⟨i,d,h1,h2⟩=>by
  obtain⟨_,⟨e,q1,q2⟩⟩:=ax i b ⟨d,h1,h2⟩;exact⟨i,e,q1,q2⟩
 have kp: ∀a o,H a=some o-> ¬OwnA (vs.map some) (args.map some) a->H' a=some o:=fun a o e n=>S.kp a o e fun z=>n (HB.mp z);refine⟨⟨?_,fun i d h=>?_,fun i d h=>?_,fun i j d e a h1 h2 h3 h4=>?_,fun a z=>E'.nT a (aa a z),E'.dom⟩,aa,⟨kp,fun i a z=>(ax i a z).2,S.dm⟩⟩
 ·simp[iE,len]
 ·have hi:i<vs.length:=by
   have:=(rk.mp h).1;simp[iE] at this;omega
  have hv:vs[i]?=some vs[i]:=iu hi;rcases outI i d false h with⟨e,h3,h4⟩|⟨_,h3⟩
  ·obtain⟨w,w1,w2⟩:=E'.val i d h4;rw[here i e _ h3 hv] at w1;cases w1;exact⟨_,pD.mpr hv,Rep.mono (fun _ _ e _=>e) (fun b _ z=>z.imp (aa b) id) w2⟩
  ·obtain⟨w,w1,w2⟩:=E.val i d (pD.mpr h3);exact⟨w,w1,Rep.mono (fun b o e n=>kp b o e fun z=>n (.inl z)) (fun b hb z=>z.imp (owA2 b) (hT b hb)) w2⟩
 ·have hi:i<vs.length:=by
   have:=(rk.mp h).1;simp[iE] at this;omega
  have hv:vs[i]?=some vs[i]:=iu hi;rcases outI i d true h with⟨e,h3,h4⟩|⟨z,_⟩
  ·obtain⟨w,w1,w2⟩:=E'.own i d h4;rw[here i e _ h3 hv] at w1;have w1':vs[i]=V.ref w:=by simpa using w1
   exact⟨w,by rw[<-w1'];exact pD.mpr hv,w2.mono (fun _ _ e _=>e) (fun b _ z=>z.imp (aa b) id) fun _ e=>e⟩
  ·cases z
 ·obtain⟨_,⟨d1,q1,q2⟩⟩:=ax i a ⟨d,h1,h3⟩;obtain⟨_,⟨d2,q3,q4⟩⟩:=ax j a ⟨e,h2,h4⟩;exact E.inj i j d1 d2 a q1 q3 q2 q4
theorem sG(E:ER K H T (vs.map some) (args.map some))(S:SK A (vs.map some++List.replicate m none) (args.map some++List.replicate m none) H σ' δ' H')(hA: ∀(i:Nat) d,args[i]?=some (d,true)-> ¬A i)
  (R:RV K T H r σ' δ' v H'):Post K T (vs.map some) (args.map some) H r (iE args δ') v H':=by
 obtain⟨d,b⟩:=r
 cases b with
 |false=>
  obtain⟨E',rv⟩:=R;obtain⟨E2,ow,kp⟩:=DH E S hA E' (fun _ _ z=>z);exact⟨kp,E2,Rep.mono (fun _ _ e _=>e) (fun b _ z=>z.imp (ow b) id) rv⟩
 |true=>
  obtain⟨p,rfl,hp,E',ok⟩:=R;obtain⟨E2,ow,kp⟩:=DH E S hA E' (fun b hb z=>z.elim id fun z=>by subst z;exact absurd hp hb);exact⟨kp,p,rfl,hp,E2,ok.mono (fun _ _ e _=>e) (fun b _ z=>z.imp (ow b) id) fun _ e=>e⟩
end
section
variable {P:gC}{w:gy}{K:gA}{mg:jy}{base:gz}{N:gG}{m:Nat}{asg:gW}{fs:FS}{vs:List V}{H:Hp}{Q:VK}{E:XK}
theorem Dq(h:spF K (evF N.length m asg fs) vs H Q E):vs.length=m:=by
 obtain⟨T,args,r,outs,E0,e,_⟩:=h;unfold evF at e;split at e
 ·rename_i hc;have:=E0.len;simp at this;rw[this];exact hc.1
 ·cases e
theorem GG(h:spF K (evF N.length m asg fs) vs H Q E): ∃L:Nat->Prop,(∀i,L i->i<m)/\tS K (fun i=>i∈asg) L H fs {nx:=fun _ H'=>Q .non H',rt:=Q} (L2.mT N vs) H:=by
 obtain⟨T,args,r,outs,E0,e,kq⟩:=h;unfold evF at e;split at e
 ·rename_i hc;obtain⟨h1,h2,h3⟩:=hc;have hlen:vs.length=args.length:=by simpa using E0.len
  refine⟨fun i=> ∃d,args[i]?=some (d,true),fun i ⟨d,hd⟩=>by have:=(rk.mp hd).1;omega,?_⟩;have r8:L2.mT N vs=vs.map some++List.replicate (N.length-m) none:=by unfold L2.mT;rw[hlen,h1]
  have hA: ∀(i:Nat) d,args[i]?=some (d,true)-> ¬(i∈asg):=fun i d hd hm=>by
   have hz:(args.zipIdx)[i]?=some ((d,true),i):=by rw[FR,hd];simp
   have:=nH.mp h3 _ (uy hz);simp at this;exact this hm
  rw[r8]
  have fi:FI (fun i=> ∃d,args[i]?=some (d,true)) H (vs.map some++List.replicate (N.length-m) none) (args.map some++List.replicate (N.length-m) none) H:=⟨fun i a z=>by
   obtain⟨d,q1,_⟩:=Fj.mp z;exact .inl ⟨d,pD.mp q1⟩,fun _ z=>z⟩
  cases hf:fs (args.map some++List.replicate (N.length-m) none) with
  |none=>rw[hf] at e;cases e
  |some out=>
   rw[hf] at e;refine⟨_,T,out,E0.pad,fi,hf,?_⟩
   cases out with
   |rt r1 δ1=>
    obtain⟨rfl,rfl⟩:=gH e;exact fun v σ' H' S1 R1=>kq v H' (sG E0 S1 hA R1)
   |nx δ1=>
    obtain⟨rfl,rfl⟩:=gH e;exact fun σ' H' S1 E1=>kq .non H' (sG (r:=(.non,false)) E0 S1 hA ⟨E1,Rep.mkNon⟩)
   |bk δ1=>cases e
   |ct δ1=>cases e
 ·cases e
theorem MZ{x qual:Str}{st:Stmt}{f:fZ}{fd:kE}{ps:gG}{k:Nat}(F:Fun K x qual st f fd)(S:FnScope N ps (gg st))
  (k8: ∀(c9:gp) (A:gB) (outer:List Env) (s:gi) (H:Hp) (E:XK) (L:ir),(∀i,L i->i<ps.length)->Room k (A.deeper (envOfC qual (gg st) s.heap.objs.size f c9))->
   wO (my CX0 P w K mg base N qual (gg st) f c9 A outer s H E).nox (fun i=>i∈asg) L H (jD st) fs):FnOk P w K mg base CX0 (k+1) f fd ps (spF K (evF N.length ps.length asg fs)):=
 F.ok S (fun vs H Q E h=>Dq h) fun c9 A outer s H vs Q E hr h=>let⟨L,h1,h2⟩:=GG h;⟨_,k8 c9 A outer s H E L h1 hr,h2⟩
end
noncomputable def wm(δ:Dn):Opd->Option (D×Bool)
 | .val r=>some (r.1,false)
 | .slot i=>(δ[i]?).join
noncomputable def iI(δ:Dn):List Opd->Option (List (D×Bool))
 |[]=>some []
 |o::os=>(wm δ o).bind fun a=>(iI δ os).bind fun l=>some (a::l)
noncomputable def gM:List Opd->List (D×Bool)->List Nat
 | .slot i::os,(_,true)::as=>i::gM os as
 |_::os,_::as=>gM os as
 |_,_=>[]
noncomputable def wb:List Opd->List (D×Bool)->Dn->Dn->Dn
 | .slot i::os,(_,true)::as,o::outs,δ=>wb os as outs (δ.set i o)
 |_::os,_::as,_::outs,δ=>wb os as outs δ
 |_,_,_,δ=>δ
noncomputable def gD(ev:EvF)(fs:List FO):F:=fun δ=>(iN fs δ).bind fun p=>(iI p.2 p.1).bind fun args=>if(gM p.1 args).Nodup then(ev args).bind fun q=>some (q.1,wb p.1 args q.2 p.2) else none
theorem lu{δ:Dn}: ∀{os:List Opd} {as:List (D×Bool)},iI δ os=some as->as.length=os.length/\ ∀(j:Nat) a,as[j]?=some a-> ∃o,os[j]?=some o/\wm δ o=some a
 |[],as,h=>by cases h;exact⟨rfl,fun j d h=>by simp at h⟩
 |o::os,as,h=>by
  unfold iI at h;obtain⟨d,h1,h⟩:=fY h;obtain⟨l,h2,h⟩:=fY h;cases h;obtain⟨h3,h4⟩:=lu h2;refine⟨by simp[h3],fun j e he=>?_⟩
  cases j with
  |zero=>simp at he;subst he;exact⟨o,rfl,h1⟩
  |succ j=>
   obtain⟨o',q1,q2⟩:=h4 j e (by simpa using he);exact⟨o',by simpa using q1,q2⟩
theorem pz: ∀{os:List Opd} {as:List (D×Bool)} {j i:Nat} {d:D},os[j]?=some (.slot i)->as[j]?=some (d,true)->i∈gM os as
 |[],_,_,_,_,h,_=>by simp at h
 |_::_,[],_,_,_,_,h=>by simp at h
 |o::os,(e,b)::as,0,i,d,h1,h2=>by
  simp at h1 h2;obtain⟨rfl,rfl⟩:=h2;subst h1;simp[gM]
 |o::os,(e,b)::as,j+1,i,d,h1,h2=>by
  have ih:=pz (os:=os) (as:=as) (j:=j) (i:=i) (d:=d) (by simpa using h1) (by simpa using h2)
  cases o with
  |val r=>simpa[gM] using ih
  |slot k=>
   cases b with
   |true=>simp[gM,ih]
   |false=>simpa[gM] using ih
theorem xm: ∀{os:List Opd} {as:List (D×Bool)} {i:Nat},i∈gM os as-> ∃(j:Nat) (d:D),os[j]?=some (.slot i)/\as[j]?=some (d,true)
 |[],_,_,h=>by simp[gM] at h
 |o::_,[],_,h=>by cases o<;>simp[gM] at h
 |o::os,(e,b)::as,i,h=>by
  have bR:i∈gM os as-> ∃(j:Nat) (d:D),(o::os)[j]?=some (.slot i)/\((e,b)::as)[j]?=some (d,true):=fun h=>by
   obtain⟨j,d,h1,h2⟩:=xm h;exact⟨j+1,d,by simpa using h1,by simpa using h2⟩
  cases o with
  |val r=>exact bR (by simpa[gM] using h)
  |slot k=>
   cases b with
   |true=>
    simp[gM] at h;rcases h with rfl|h
    ·exact⟨0,e,rfl,rfl⟩
    ·exact bR h
   |false=>exact bR (by simpa[gM] using h)
theorem xo: ∀{os:List Opd} {as:List (D×Bool)} {j k i:Nat} {d e:D},(gM os as).Nodup->os[j]?=some (.slot i)->as[j]?=some (d,true)->os[k]?=some (.slot i)->as[k]?=some (e,true)->j=k
 |[],_,_,_,_,_,_,_,h,_,_,_=>by simp at h
 |_::_,[],_,_,_,_,_,_,_,h,_,_=>by simp at h
 |o::os,(e0,b)::as,j,k,i,d,e,nd,h1,h2,h3,h4=>by
  cases j with
  |zero=>
   cases k with
   |zero=>rfl
   |succ k=>
    simp at h1 h2;obtain⟨rfl,rfl⟩:=h2;subst h1;have:=pz (os:=os) (as:=as) (j:=k) (by simpa using h3) (by simpa using h4);simp[gM] at nd;exact absurd this nd.1
  |succ j=>
   cases k with
   |zero=>
    simp at h3 h4;obtain⟨rfl,rfl⟩:=h4;subst h3;have:=pz (os:=os) (as:=as) (j:=j) (by simpa using h1) (by simpa using h2);simp[gM] at nd;exact absurd this nd.1
   |succ k=>
    have cV:(gM os as).Nodup:=by
     cases o with
     |val r=>simpa[gM] using nd
     |slot m=>
      cases b with
      |true=>simp[gM] at nd;exact nd.2
      |false=>simpa[gM] using nd
    have:=xo (os:=os) (as:=as) (j:=j) (k:=k) cV (by simpa using h1) (by simpa using h2) (by simpa using h3) (by simpa using h4);omega
theorem uV: ∀{os:List Opd} {as:List (D×Bool)} {outs δ:Dn} {i:Nat},i∉gM os as->(wb os as outs δ)[i]?=δ[i]?
 |[],_,_,_,_,_=>by simp[wb]
 |o::_,[],_,_,_,_=>by cases o<;>simp[wb]
 |o::os,(e,b)::as,[],_,_,_=>by cases o<;>cases b<;>simp[wb]
 |o::os,(e,b)::as,x::outs,δ,i,h=>by
  cases o with
  |val r=>simp only[wb];exact uV (by simpa[gM] using h)
  |slot k=>
   cases b with
   |true=>
    simp[gM] at h;rw[wb,uV h.2,md (lN h.1)]
   |false=>simp only[wb];exact uV (by simpa[gM] using h)
theorem uW: ∀{os:List Opd} {as:List (D×Bool)} {outs δ:Dn},(wb os as outs δ).length=δ.length
 |[],_,_,_=>by simp[wb]
 |o::_,[],_,_=>by cases o<;>simp[wb]
 |o::os,(e,b)::as,[],_=>by cases o<;>cases b<;>simp[wb]
 |o::os,(e,b)::as,x::outs,δ=>by
  cases o with
  |val r=>simp only[wb];exact uW
  |slot k=>
   cases b with
   |true=>simp only[wb];rw[uW,oq]
   |false=>simp only[wb];exact uW
theorem Dg: ∀{os:List Opd} {as:List (D×Bool)} {outs δ:Dn} {i j:Nat} {d:D} {x:Sl},(gM os as).Nodup->os[j]?=some (.slot i)->as[j]?=some (d,true)->outs[j]?=some x->i<δ.length->(wb os as outs δ)[i]?=some x
 |[],_,_,_,_,_,_,_,_,h,_,_,_=>by simp at h
 |o::_,[],_,_,_,_,_,_,_,_,h,_,_=>by simp at h
 |o::os,(e,b)::as,[],_,_,_,_,_,_,_,_,h,_=>by simp at h
 |o::os,(e,b)::as,y::outs,δ,i,0,d,x,nd,h1,h2,h3,hi=>by
  simp at h1 h2 h3;obtain⟨rfl,rfl⟩:=h2;subst h1;subst h3;simp[gM] at nd;rw[wb,uV nd.1,kY hi]
 |o::os,(e,b)::as,y::outs,δ,i,j+1,d,x,nd,h1,h2,h3,hi=>by
  have cV:(gM os as).Nodup:=by
   cases o with
   |val r=>simpa[gM] using nd
   |slot m=>
    cases b with
    |true=>simp[gM] at nd;exact nd.2
    |false=>simpa[gM] using nd
  cases o with
  |val r=>simp only[wb];exact Dg cV (by simpa using h1) (by simpa using h2) (by simpa using h3) hi
  |slot k=>
   cases b with
   |true=>simp only[wb];exact Dg cV (by simpa using h1) (by simpa using h2) (by simpa using h3) (by rw[oq];exact hi)
   |false=>simp only[wb];exact Dg cV (by simpa using h1) (by simpa using h2) (by simpa using h3) hi
section
variable {K:gA}{T T1:AP'}{σ:L2.St}{δ δ1:Dn}{H H1 H':Hp}{os:List Opd}{vs:List V}{args:List (D×Bool)}{outs:Dn}{r:D×Bool}{v:V}
noncomputable def Tc(T:AP')(σ:L2.St)(δ1:Dn)(vs:List V)(args:List (D×Bool)):AP':=fun a=>T a\/(OwnA σ δ1 a/\ ¬OwnA (vs.map some) (args.map some) a)
theorem qN(B:Ops K T σ δ H os vs δ1 H1 T1)(ha:iI δ1 os=some args){j:Nat}{d:D}(h:args[j]?=some (d,true)): ∃(i:Nat) (a:fZ),os[j]?=some (.slot i)/\δ1[i]?=some (some (d,true))/\vs[j]?=some (.ref a)/\σ[i]?=some (some (.ref a)):=by
 obtain⟨hl,hg⟩:=lu ha;obtain⟨o,h1,h2⟩:=hg j _ h
 cases o with
 |val r=>cases h2
 |slot i=>
  have h3:δ1[i]?=some (some (d,true)):=nA h2;have hj:j<vs.length:=by have:=(rk.mp h1).1;have:=B.len;omega
  have hv:vs[j]?=some vs[j]:=iu hj;have h4:=B.slt j i _ h1 hv;obtain⟨a,h5,_⟩:=B.er.own i d h3;rw[h4] at h5;have:vs[j]=V.ref a:=by simpa using h5
  exact⟨i,a,h1,h3,by rw[hv,this],by rw[h4,this]⟩
theorem AD(B:Ops K T σ δ H os vs δ1 H1 T1)(ha:iI δ1 os=some args){j:Nat}{a:fZ}(h:OwnI (vs.map some) (args.map some) j a): ∃(i:Nat) (d:D),os[j]?=some (.slot i)/\args[j]?=some (d,true)/\OwnI σ δ1 i a:=by
 obtain⟨d,h1,h2⟩:=h;have h1':=pD.mp h1;obtain⟨i,b,q1,q2,q3,q4⟩:=qN B ha h1';have:=pD.mp h2;rw[q3] at this;cases this;exact⟨i,d,q1,h1',d,q2,q4⟩
theorem DN(B:Ops K T σ δ H os vs δ1 H1 T1)(ha:iI δ1 os=some args)(h:OwnA (vs.map some) (args.map some) a):OwnA σ δ1 a:=by
 obtain⟨j,d,h1,h2⟩:=h;obtain⟨i,_,_,_,e,q1,q2⟩:=AD B ha ⟨d,h1,h2⟩;exact⟨i,e,q1,q2⟩
theorem qZ(E:ER K H T σ δ)(B:Ops K T σ δ H os vs δ1 H1 T1)(ha:iI δ1 os=some args)(nd:(gM os args).Nodup):ER K H1 (Tc T σ δ1 vs args) (vs.map some) (args.map some):=by
 obtain⟨hl,hg⟩:=lu ha
 have sub: ∀b,(OwnA (vs.map some) (args.map some) b\/Tc T σ δ1 vs args b)->OwnA σ δ1 b\/T b:=fun b z=>by
  rcases z with z|z|z
  ·exact .inl (DN B ha z)
  ·exact .inr z
  ·exact .inl z.1
 refine⟨by simp[hl,B.len],fun j d h=>?_,fun j d h=>?_,fun j k d e a h1 h2 h3 h4=>?_,fun a z t=>?_,fun a z=>?_⟩
 ·have h:=pD.mp h;obtain⟨o,h1,h2⟩:=hg j _ h;have hj:j<vs.length:=by have:=(rk.mp h1).1;have:=B.len;omega
  have hv:vs[j]?=some vs[j]:=iu hj;refine⟨_,pD.mpr hv,?_⟩
  cases o with
  |val q=>
   have:q.1=d:=by cases h2;rfl
   subst this;exact Rep.mono (fun _ _ e _=>e) (fun b _ z=>sub b z) (B.rep E h1 hv)
  |slot i=>
   have h3:δ1[i]?=some (some (d,false)):=nA h2;have h4:=B.slt j i _ h1 hv;obtain⟨w,w1,w2⟩:=B.er.val i d h3;rw[h4] at w1;have:vs[j]=w:=by simpa using w1
   rw[this];exact Rep.mono (fun _ _ e _=>e) (fun b _ z=>(sub b z).imp id (B.tt b)) w2
 ·obtain⟨i,a,q1,q2,q3,q4⟩:=qN B ha (pD.mp h);obtain⟨b,h5,h6⟩:=B.er.own i d q2;rw[q4] at h5;cases h5;exact⟨a,pD.mpr q3,h6.mono (fun _ _ e _=>e) (fun b _ z=>(sub b z).imp id (B.tt b)) fun _ e=>e⟩
 ·obtain⟨i,d1,q1,q2,e1,q3,q4⟩:=AD B ha ⟨d,h1,h3⟩;obtain⟨i2,d2,g1,g2,e2,g3,g4⟩:=AD B ha ⟨e,h2,h4⟩;have:=B.er.inj i i2 e1 e2 a q3 g3 q4 g4;subst this;exact xo nd q1 q2 g1 g2
 ·rcases t with t|t
  ·exact B.er.nT a (DN B ha z) (B.tt a t)
  ·exact t.2 z
 ·rcases z with z|z
  ·exact B.er.dom a (B.tt a z)
  ·exact B.er.ownOw z.1
theorem D8{T' Td:AP'}(E:ER K H T σ δ)(B:Ops K T σ δ H os vs δ1 H1 T1)(ha:iI δ1 os=some args)(nd:(gM os args).Nodup)(kC:Keep (vs.map some) (args.map some) H1 outs H')
  (E':ER K H' Td (vs.map some) outs)(t1: ∀b,Tc T σ δ1 vs args b->Td b)(t2: ∀b,T' b->Td b)(t3: ∀b,H1 b≠none->T' b->T b):
  ER K H' T' σ (wb os args outs δ1)/\(∀b,OwnA σ (wb os args outs δ1) b->OwnA (vs.map some) outs b\/Tc T σ δ1 vs args b)/\Keep σ δ1 H1 (wb os args outs δ1) H':=by
 obtain⟨hl,hg⟩:=lu ha;have ol:outs.length=args.length:=by have:=E'.len;have:=B.len;simp at*;omega
 have au: ∀(i:Nat) (x:Sl),(wb os args outs δ1)[i]?=some x->(i∉gM os args/\δ1[i]?=some x)\/ ∃(j:Nat) (d:D),os[j]?=some (.slot i)/\args[j]?=some (d,true)/\outs[j]?=some x:=fun i x h=>by
  by_cases hm:i∈gM os args
  ·right;obtain⟨j,d,h1,h2⟩:=xm hm;have hj:j<outs.length:=by have:=(rk.mp h2).1;omega
   have ho:outs[j]?=some outs[j]:=iu hj;have hi:i<δ1.length:=by have:=(rk.mp h).1;rwa [uW] at this
   have:=Dg (δ:=δ1) nd h1 h2 ho hi;rw[h] at this;cases this;exact⟨j,d,h1,h2,ho⟩
  ·left;rw[uV hm] at h;exact⟨hm,h⟩
 have notL: ∀{i:Nat} {a:fZ},i∉gM os args->OwnI σ δ1 i a-> ¬OwnA (vs.map some) (args.map some) a:=fun {i a} hm ⟨e,q1,q2⟩ ⟨j,d,h1,h2⟩=>by
  obtain⟨i2,d2,g1,g2,e2,g3,g4⟩:=AD B ha ⟨d,h1,h2⟩;have:=B.er.inj i i2 e e2 a q1 g3 q2 g4;subst this;exact hm (pz g1 g2)
 have ax: ∀i a,OwnI σ (wb os args outs δ1) i a->OwnI σ δ1 i a/\(OwnA (vs.map some) outs a\/Tc T σ δ1 vs args a):=fun i a ⟨d,h1,h2⟩=>by
  rcases au i _ h1 with⟨hm,h3⟩|⟨j,e,g1,g2,g3⟩
  ·exact⟨⟨d,h3,h2⟩,.inr (.inr ⟨⟨i,d,h3,h2⟩,notL hm ⟨d,h3,h2⟩⟩)⟩
  ·obtain⟨i2,b,q1,q2,q3,q4⟩:=qN B ha g2;rw[g1] at q1;cases q1;rw[h2] at q4;cases q4;exact⟨⟨e,q2,h2⟩,.inl ⟨j,d,g3,pD.mpr q3⟩⟩
 have aa: ∀b,OwnA σ (wb os args outs δ1) b->OwnA (vs.map some) outs b\/Tc T σ δ1 vs args b:=fun b ⟨i,d,h1,h2⟩=>(ax i b ⟨d,h1,h2⟩).2
 have dz: ∀b,OwnA σ (wb os args outs δ1) b->OwnA σ δ1 b:=fun b ⟨i,d,h1,h2⟩=>by
  obtain⟨⟨e,q1,q2⟩,_⟩:=ax i b ⟨d,h1,h2⟩;exact⟨i,e,q1,q2⟩
 have kp: ∀a o,H1 a=some o-> ¬OwnA σ δ1 a->H' a=some o:=fun a o e n=>kC.kp a o e fun z=>n (DN B ha z)
 have subO: ∀b,(OwnA σ (wb os args outs δ1) b\/T' b)->OwnA (vs.map some) outs b\/Td b:=fun b z=>by
  rcases z with z|z
  ·exact(aa b z).imp id (t1 b)
  ·exact .inr (t2 b z)
 refine⟨⟨by rw[uW];exact B.er.len,fun i d h=>?_,fun i d h=>?_,fun i k d e a h1 h2 h3 h4=>?_,fun a z t=>?_,fun a z=>E'.dom a (t2 a z)⟩,aa,⟨kp,fun i a z=>(ax i a z).1,kC.dm⟩⟩
 ·rcases au i _ h with⟨hm,h3⟩|⟨j,e,g1,g2,g3⟩
  ·obtain⟨w,w1,w2⟩:=B.er.val i d h3;exact⟨w,w1,Rep.mono (fun b o e n=>kp b o e fun z=>n (.inl z)) (fun b hb z=>z.imp (dz b) fun z=>B.tt b (t3 b hb z)) w2⟩
  ·obtain⟨i2,b,q1,q2,q3,q4⟩:=qN B ha g2;rw[g1] at q1;cases q1;obtain⟨w,w1,w2⟩:=E'.val j d g3;have:=pD.mp w1;rw[q3] at this;cases this;exact⟨_,q4,Rep.mono (fun _ _ e _=>e) (fun b _ z=>subO b z) w2⟩
 ·rcases au i _ h with⟨hm,h3⟩|⟨j,e,g1,g2,g3⟩
  ·obtain⟨a,w1,w2⟩:=B.er.own i d h3;exact⟨a,w1,w2.mono (fun b o e n=>kp b o e fun z=>n (.inl z)) (fun b hb z=>z.imp (dz b) fun z=>B.tt b (t3 b hb z)) fun o e=>kC.kp a o e (notL hm ⟨d,h3,w1⟩)⟩
  ·obtain⟨i2,b,q1,q2,q3,q4⟩:=qN B ha g2;rw[g1] at q1;cases q1;obtain⟨a,w1,w2⟩:=E'.own j d g3;have:=pD.mp w1;rw[q3] at this;cases this;exact⟨_,q4,w2.mono (fun _ _ e _=>e) (fun b _ z=>subO b z) fun _ e=>e⟩
 ·obtain⟨⟨e1,q1,q2⟩,_⟩:=ax i a ⟨d,h1,h3⟩;obtain⟨⟨e2,q3,q4⟩,_⟩:=ax k a ⟨e,h2,h4⟩;exact B.er.inj i k e1 e2 a q1 q3 q2 q4
 ·exact B.er.nT a (dz a z) (B.tt a (t3 a (B.er.ownDom (dz a z)) t))
theorem wd(E:ER K H T σ δ)(B:Ops K T σ δ H os vs δ1 H1 T1)(ha:iI δ1 os=some args)(nd:(gM os args).Nodup)(P:Post K (Tc T σ δ1 vs args) (vs.map some) (args.map some) H1 r outs v H'):
  Post K T σ δ H r (wb os args outs δ1) v H':=by
 obtain⟨d,b⟩:=r
 cases b with
 |false=>
  obtain⟨kC,E',rv⟩:=P;obtain⟨E2,ow,k2⟩:=D8 (T':=T) E B ha nd kC E' (fun _ z=>z) (fun _ z=> .inl z) (fun _ _ z=>z);refine⟨B.keep.trans k2,E2,Rep.mono (fun _ _ e _=>e) (fun b _ z=>?_) rv⟩;rcases z with z|z
  ·exact ow b z
  ·exact .inr (.inl z)
 |true=>
  obtain⟨kC,p,rfl,hp,E',ok⟩:=P;obtain⟨E2,ow,k2⟩:=D8 (T':=fun a=>T a\/a=p) E B ha nd kC E' (fun _ z=> .inl z) (fun b z=>z.elim (fun z=> .inl (.inl z)) .inr) (fun b hb z=>z.elim id fun z=>by subst z;exact absurd hp hb);refine⟨B.keep.trans k2,p,rfl,?_,E2,ok.mono (fun _ _ e _=>e) (fun b _ z=>?_) fun _ e=>e⟩
  ·cases hH:H p with
   |none=>rfl
   |some ob=>exact absurd hp (B.keep.dm p (by rw[hH];simp))
  ·rcases z with z|z|z
   ·exact(ow b z).imp id .inl
   ·exact .inr (.inl (.inl z))
   ·exact .inr (.inr z)
end
section
variable {X:Cx}{e:gm}{es:iL}{fs:List FO}{pos p:Pos}{k:Nat}{f:fZ}{fd:kE}{ps:gG}{ev:EvF}{x:Str}
theorem Jv(F:FnOk X.prog X.w X.K X.mg X.base CX0 k f fd ps (spF X.K ev))(hr:Room k X.A)(hg:Gl X x)(hm:X.mg x=some (.ref f))(hk:PySem.W.keepIn X.K (.ref f)=true)(hb:Binds X.K fd ps [])
  (ha:PA X (e::es) (tA X.K fs))(i7:(x==("__debug__":Str))=false)(he:starEach (e::es) X.env=(false,eval e X.env)::starEach es X.env)(g6:(backTo pos (starEach es X.env)).any (·.1)=false):
  PX X (.Call (.Name x p) (e::es) [] pos) (gD ev fs):=PX.imp (DG F hr hg hm hk hb (.nil) K0 ha i7 he g6) fun σ H Q hw=>by
 obtain⟨δ,T,rr,δ',E,e,k⟩:=hw;obtain⟨⟨os,δ1⟩,h1,e⟩:=fY e;obtain⟨args,h2,e⟩:=fY e;dsimp only at e;split at e
 ·rename_i nd;obtain⟨⟨r,outs⟩,h3,e⟩:=fY e;obtain⟨rfl,rfl⟩:=gH e;refine⟨δ,T,os,δ1,E,h1,fun vs H1 T1 B=>?_⟩;show spF X.K ev (vs++[]) H1 Q E0;rw[sV];exact⟨Tc T σ δ1 vs args,args,r,outs,qZ E B h2 nd,h3,fun v H' P=>k v H' (wd E B h2 nd P)⟩
 ·cases e
end
structure SKd(A:ir)(d:fZ)(σ:L2.St)(δ:Dn)(H:Hp)(σ':L2.St)(δ':Dn)(H':Hp):Prop where
 kp: ∀a o,H a=some o-> ¬OwnA σ δ a->a≠d->H' a=some o
 owi: ∀i a,OwnI σ' δ' i a->OwnI σ δ i a\/H a=none
 dm: ∀a,H a≠none->H' a≠none
 as: ∀i,¬A i->σ'[i]?=σ[i]?
section
variable {A:ir}{d:fZ}{σ σ1 σ2:L2.St}{δ δ1 δ2:Dn}{H H1 H2:Hp}
theorem SK.skd(k:SK A σ δ H σ1 δ1 H1):SKd A d σ δ H σ1 δ1 H1:=⟨fun a o e n _=>k.kp a o e n,k.owi,k.dm,k.as⟩
theorem SKd.ow(k:SKd A d σ δ H σ1 δ1 H1)(a:fZ)(h:OwnA σ1 δ1 a):OwnA σ δ a\/H a=none:=by
 obtain⟨i,e,h1,h2⟩:=h;rcases k.owi i a ⟨e,h1,h2⟩ with⟨e,h3,h4⟩|z
 ·exact .inl ⟨i,e,h3,h4⟩
 ·exact .inr z
theorem SKd.trans(x:SKd A d σ δ H σ1 δ1 H1)(y:SKd A d σ1 δ1 H1 σ2 δ2 H2):SKd A d σ δ H σ2 δ2 H2 where
 kp:=fun a o e n nd=>y.kp a o (x.kp a o e n nd) (fun z=>(x.ow a z).elim n fun z=>by rw[z] at e;cases e) nd
 owi:=fun i a z=>(y.owi i a z).elim (x.owi i a) fun z=> .inr (by
  cases h:H a with
  |none=>rfl
  |some o=>exact absurd z (x.dm a (by rw[h];simp)))
 dm:=fun a z=>y.dm a (x.dm a z)
 as:=fun i h=>(y.as i h).trans (x.as i h)
end
structure BS(K:gA)(d:fZ)(T:AP')(σ:L2.St)(δ:Dn)(acc:List D)(H:Hp):Prop where
 er:ER K H T σ δ
 td:T d
 at': ∃ys,H d=some (.lst ys)/\RepL K H (fun a=>OwnA σ δ a\/T a) acc ys
abbrev FB:=List D->Dn->Option (List D×Dn)
def tBx(K:gA)(A:ir)(d:fZ)(f:FB):TB:=fun σ H N=> ∃δ T acc l6 δ',BS K d T σ δ acc H/\f acc δ=some (l6,δ')/\ ∀σ' H',SKd A d σ δ H σ' δ' H'->BS K d T σ' δ' l6 H'->N σ' H'
noncomputable def iP(f:F):FB:=fun acc δ=>(f δ).bind fun p=>if acc.length<sizeLine then some (acc++[p.1.1],p.2) else none
noncomputable def lb(tg:Tg)(ti:FT)(fb:FB):List D->FB
 |[],acc,δ=>some (acc,δ)
 |x::xs,acc,δ=>(tg x δ).bind fun δ1=>(ti δ1).bind fun p=>(if p.1=true then fb acc p.2 else some (acc,p.2)).bind fun q=>lb tg ti fb xs q.1 q.2
section
variable {K:gA}{A:ir}{d:fZ}{T:AP'}{σ σ1:L2.St}{δ δ1:Dn}{acc:List D}{H H1:Hp}
theorem BS.step(b:BS K d T σ δ acc H)(k:SK A σ δ H σ1 δ1 H1)(E1:ER K H1 T σ1 δ1):BS K d T σ1 δ1 acc H1:=by
 obtain⟨ys,h1,h2⟩:=b.at';refine⟨E1,b.td,ys,k.kp d _ h1 fun z=>b.er.nT d z b.td,RepL.mono (fun b o e n=>k.kp b o e fun z=>n (.inl z)) (fun c hc z=>?_) h2⟩;rcases z with z|z
 ·exact(k.ow c z).elim Or.inl fun z=>absurd z hc
 ·exact .inr z
theorem Kb(hg: ∀v σ H Q,tG K A tg v σ H Q->g v σ H Q)(hi: ∀σ H Q,tT K ft σ H Q->ti σ H Q)(hb: ∀σ H N,tBx K A d fb σ H N->tb σ H N)
  (b:BS K d T σ δ acc H)(P O:AP')(ok:ItOk K J ds P O H1)(s1: ∀a o,H1 a=some o-> ¬P a->H a=some o)(s0: ∀a,H1 a≠none->OwnA σ δ a\/a=d->P a)(s2: ∀a,H1 a≠none->(OwnA σ δ a\/T a)->O a)(s3: ∀a,H1 a≠none->H a≠none)(e:lb tg ft fb ds acc δ=some (l6,δ'))
  (k: ∀σ' H',SKd A d σ δ H σ' δ' H'->BS K d T σ' δ' l6 H'->N σ' H'):Gz J g ti tb σ H N:=by
 refine⟨fun i m σ2 H2=>m=ds.length-i/\i<=ds.length/\ ∃δ2 aQ,SKd A d σ δ H σ2 δ2 H2/\BS K d T σ2 δ2 aQ H2/\lb tg ft fb (ds.drop i) aQ δ2=some (l6,δ'),⟨ds.length,by simp,mB _,δ,acc,SK.refl.skd,b,by simpa using e⟩,?_⟩;rintro i m σ2 H2 ⟨rfl,hle,δ2,aQ,S2,B2,e2⟩
 have hO: ∀a,H1 a≠none->(OwnA σ2 δ2 a\/T a)->O a:=fun a ha z=>by
  rcases z with z|z
  ·exact(S2.ow a z).elim (fun z=>s2 a ha (.inl z)) fun z=>absurd z (s3 a ha)
  ·exact s2 a ha (.inr z)
 have aw: ∀a o,H1 a=some o-> ¬P a->H2 a=some o:=fun a o ea n=>S2.kp a o (s1 a o ea n) (fun z=>n (s0 a (by rw[ea];simp) (.inl z))) fun z=>n (s0 a (by rw[ea];simp) (.inr z));by_cases u6:i<ds.length
 ·refine .inr ?_;have hd:ds[i]?=some ds[i]:=iu u6;obtain⟨go,yl⟩:=ok.go i _ H2 hd aw;rw[sO u6] at e2;obtain⟨δ3,h3,e3⟩:=fY e2;obtain⟨⟨c,δ4⟩,h4,e4⟩:=fY e3;obtain⟨⟨acc5,δ5⟩,h5,e5⟩:=fY e4;refine⟨go,fun x H' hy=>?_⟩;obtain⟨ext,rep⟩:=yl x H' hy;have eu:ER K H' T σ2 δ2:=B2.er.mono (fun b ob eb _=>ext b ob eb) (fun _ _ z=>z) (fun a z=>(B2.er.dom a z).up (ext a));have SX:SK A σ2 δ2 H2 σ2 δ2 H':=(Keep.ext ext).sk;have B2':=B2.step SX eu;have fV:SKd A d σ δ H σ2 δ2 H':=S2.trans SX.skd;have rx:=rep (fun a=>OwnA σ2 δ2 a\/T a) hO (fun b hb z=>z.elim (fun z=>B2.er.ownDom z hb) fun z=>(B2.er.dom b z).ne hb);refine hg _ _ _ _ ⟨δ2,T,ds[i],δ3,eu,rx,h3,fun σ3 S3 E3=>?_⟩;have B3:=B2'.step S3 E3;have cE:=fV.trans S3.skd;refine hi _ _ _ ⟨δ3,T,c,δ4,E3,h4,fun H4 K4 E4=>?_⟩;have S4:SK A σ3 δ3 H' σ3 δ4 H4:=K4.sk;have B4:=B3.step S4 E4;have S4':=cE.trans S4.skd
  cases c with
  |false=>
   rw[gv iU] at h5;obtain⟨rfl,rfl⟩:=gH h5;exact MV ⟨ds.length-(i+1),by omega,rfl,u6,δ4,aQ,S4',B4,e5⟩
  |true=>
   rw[gq rfl] at h5;exact MU (hb _ _ _ ⟨δ4,T,aQ,acc5,δ5,B4,h5,fun σ5 H5 S5 B5=>⟨ds.length-(i+1),by omega,rfl,u6,δ5,acc5,S4'.trans S5,B5,e5⟩⟩)
 ·refine .inl ⟨ok.stop i H2 (by omega) aw,?_⟩;rw[uI (by omega)] at e2;obtain⟨rfl,rfl⟩:=gH e2;exact k σ2 H2 S2 B2
end
section
variable {X:Cx}{A:ir}{d:fZ}{elt:gm}{f:F}
theorem PB.imp'{code:Sem Unit}{t t':TB}(h:PB X code t)(k: ∀σ H N,t' σ H N->t σ H N):PB X code t':=fun pins s σ H N I hw=>h pins s σ H N I (k σ H N hw)
theorem HA{gens:pL}{sc:iq}{p:Pos}{depth:Nat}(hn:gens[depth+1]?=none)(he:PX X elt f):PB X (jt (.ListComp elt gens sc p) depth (.ref d) X.env) (tBx X.K A d (iP f)):=PB.imp' (JZ hn he) fun σ H N hw=>by
 obtain⟨δ,T,acc,l6,δ',B,e,k⟩:=hw;obtain⟨⟨r,δ1⟩,h1,e⟩:=fY e;obtain⟨hz,e⟩:=gR e;obtain⟨rfl,rfl⟩:=uw e;refine⟨δ,T,r,δ1,B.er,h1,fun v H1 P=>?_⟩;obtain⟨E1,rv⟩:=P.rep B.er;have S1:SK A σ δ H σ δ1 H1:=P.1.sk;have B1:=B.step S1 E1;obtain⟨ys,hy,ry⟩:=B1.at';refine⟨ys,hy,by rw[ry.length];exact hz,k σ _ ?_ ?_⟩
 ·have:SKd A d σ δ1 H1 σ δ1 (upd H1 d (.lst (ys++[v]))):=⟨fun a o e n nd=>by rw[gK nd];exact e,fun i a z=> .inl z,fun a z=>by
   by_cases ha:a=d
   ·subst ha;rw[gQ];simp
   ·rw[gK ha];exact z,fun _ _=>rfl⟩
  exact S1.skd.trans this
 ·have hk: ∀b o,H1 b=some o-> ¬T b->upd H1 d (.lst (ys++[v])) b=some o:=fun b o e n=>by rw[gK (by intro z;subst z;exact n B.td)];exact e
  have hd: ∀a,T a->Ow (upd H1 d (.lst (ys++[v])) a):=fun a z=>by
   by_cases ha:a=d
   ·subst ha;rw[gQ];trivial
   ·rw[gK ha];exact E1.dom a z
  refine⟨E1.mono hk (fun _ _ z=>z) hd,B.td,ys++[v],gQ,?_⟩;exact RepL.mono (fun b o e n=>hk b o e fun z=>n (.inr z)) (fun _ _ z=>z) (ry.append (RepL.one rv))
end
noncomputable def iR(caps:gW)(k:Nat)(fi:FIt)(tg:Tg)(ti:FT)(fb:FB):F:=fun δ=>(fi δ).bind fun p=>(iI p.2 (caps.map .slot)).bind fun args=>
 if(gM (caps.map .slot) args).Nodup then(lb tg ti fb p.1 [] (args.map some++List.replicate k none)).bind fun q=>some ((.lst q.1,true),wb (caps.map .slot) args (iE args q.2) p.2) else none
noncomputable def Ar(caps:gW)(k:Nat)(σ:L2.St):L2.St:=(caps.map fun j=>(σ[j]?).join)++List.replicate k none
theorem A2{K:gA}{caps:gW}{k:Nat}{fi:FIt}{tg:Tg}{ti:FT}{fb:FB}{σ:L2.St}{H:Hp}{Q:VK}(h:tF K (iR caps k fi tg ti fb) σ H Q):
  GA (tI K (fun i=>i∉caps) fi) (tG K (fun i=>caps.length<=i) tg) (tT K ti) (fun d=>tBx K (fun i=>caps.length<=i) d fb) (Ar caps k) σ H Q:=by
 obtain⟨δ,T,rr,δr,E,e,kq⟩:=h;obtain⟨⟨ds,δ1⟩,h1,e⟩:=fY e;obtain⟨args,ha,e⟩:=fY e;dsimp only at e ha;split at e
 case isFalse=>cases e
 rename_i nd;obtain⟨⟨acc,δ'⟩,h2,e⟩:=fY e;obtain⟨rfl,rfl⟩:=gH e;refine⟨δ,T,ds,δ1,E,h1,fun J H1 K1 E1 ok d hd=>?_⟩;obtain⟨hl,hg⟩:=lu ha;have hl':args.length=caps.length:=by simpa using hl
 let vs:List V:=caps.map fun j=>((σ[j]?).join).getD .non
 have there: ∀(i j:Nat),caps[i]?=some j-> ∃v,σ[j]?=some (some v):=fun i j hj=>by
  have hi:i<args.length:=by have:=(rk.mp hj).1;omega
  obtain⟨o,q1,q2⟩:=hg i _ (iu hi);rw[jd,hj] at q1;cases q1;have q3:=nA q2;generalize args[i]=y at q3;obtain⟨x,b⟩:=y
  cases b with
  |false=>obtain⟨v,h,_⟩:=E1.val j x q3;exact⟨v,h⟩
  |true=>obtain⟨a,h,_⟩:=E1.own j x q3;exact⟨_,h⟩
 have eO: ∀(i j:Nat),caps[i]?=some j-> ∃v,vs[i]?=some v/\σ[j]?=some (some v):=fun i j hj=>by
  obtain⟨v,hv⟩:=there i j hj;refine⟨v,?_,hv⟩;show(caps.map fun j=>((σ[j]?).join).getD .non)[i]?=some v;rw[jd,hj];simp[hv]
 have ae:Ar caps k σ=vs.map some++List.replicate k none:=by
  unfold Ar
  congr 1
  apply rG;intro i;show _=((caps.map fun j=>((σ[j]?).join).getD .non).map some)[i]?;rw[jd,jd,jd]
  cases hj:caps[i]? with
  |none=>rfl
  |some j=>obtain⟨v,hv⟩:=there i j hj;simp[hv]
 have B0:Ops K T σ δ1 H1 (caps.map Opd.slot) vs δ1 H1 T:=by
  refine⟨by simp[vs],.refl,E1,fun _ z=>z,fun j x v hj=>?_,fun j x v hj=>?_,fun j i v hj hv=>?_⟩
  ·rw[jd] at hj;obtain⟨_,_,z⟩:=hW hj;cases z
  ·rw[jd] at hj;obtain⟨_,_,z⟩:=hW hj;cases z
  ·rw[jd] at hj;obtain⟨c,hc,z⟩:=hW hj;cases z;obtain⟨v',q1,q2⟩:=eO j i hc;rw[hv] at q1;cases q1;exact q2
 have Ec:=qZ E1 B0 ha nd
 have hA: ∀(i:Nat) x,args[i]?=some (x,true)-> ¬(caps.length<=i):=fun i x hx=>by
  have:=(rk.mp hx).1;omega
 rw[ae];have hx:=kJ (o:= .lst []) hd
 have nz: ∀a,H1 a≠none->upd H1 d (.lst []) a≠none:=fun a z=>by
  cases hh:H1 a with
  |none=>exact absurd hh z
  |some o=>rw[hx a o hh];simp
 have b0:BS K d (fun a=>Tc T σ δ1 vs args a\/a=d) (vs.map some++List.replicate k none) (args.map some++List.replicate k none) [] (upd H1 d (.lst [])):=by
  refine⟨(Ec.pad).mono (fun b o eb _=>hx b o eb) (fun b hb z=>z.elim id fun z=>by subst z;exact absurd hd hb) (fun a z=>?_),.inr rfl,[],gQ,RepL.nil⟩;rcases z with z|z
  ·exact(Ec.dom a z).up (hx a)
  ·subst z;rw[gQ];trivial
 refine Kb (fun _ _ _ _ h=>h) (fun _ _ _ h=>h) (fun _ _ _ h=>h) b0 _ _ ok (fun a o ea _=>hx a o ea) (fun a fH z=>?_) (fun a fH z=>?_) nz h2 fun σ' H2 S2 B2=>?_
 ·rcases z with z|z
  ·obtain⟨j,x,g1,g2⟩:=HB.mp z;obtain⟨i,_,q1,_,q3⟩:=AD B0 ha ⟨x,g1,g2⟩;refine .inl ⟨i,fun n=>n ?_,q3⟩;rw[jd] at q1;obtain⟨c,hc,e⟩:=hW q1;cases e;exact uy hc
  ·subst z;exact absurd hd fH
 ·rcases z with z|z|z
  ·exact .inl (DN B0 ha (HB.mp z))
  ·rcases z with z|z
   ·exact .inr z
   ·exact .inl z.1
  ·subst z;exact absurd hd fH
 ·have SS:SK (fun i=>caps.length<=i) (vs.map some++List.replicate k none) (args.map some++List.replicate k none) H1 σ' δ' H2:=
   ⟨fun a o ea n=>S2.kp a o (hx a o ea) n (by intro z;subst z;rw[ea] at hd;cases hd),fun i a z=>(S2.owi i a z).imp id fun z=>by
    cases hh:H1 a with
    |none=>rfl
    |some o=>exact absurd z (nz a (by rw[hh];simp)),fun a z=>S2.dm a (nz a z),S2.as⟩
  obtain⟨ys,hy,ry⟩:=B2.at';have P:=sG (r:=(.lst acc,true)) (v:= .ref d) Ec SS hA ⟨d,rfl,hd,B2.er,ys,hy,RepL.mono (fun _ _ e _=>e) (fun b _ z=>z) ry⟩;exact kq (.ref d) H2 ((wd E1 B0 ha nd P).pre K1)
section
variable {X:Cx}{elt:gm}{c:pK}{hU:pL}{scope:iq}{pos d9 py:Pos}{N':gG}{caps:gW}{k:Nat}{fi:FIt}{tg:Tg}{ti:FT}{fb:FB}{A L:ir}{H0:Hp}
structure CompOk(X:Cx)(N':gG)(scope:iq)(caps:gW)(k:Nat):Prop where
 cell: ∀y∈scope.names,y.2= .cell->scope.names.lookup y.1=some .cell
 kind:scope.kind= .function
 names: ∀y∈scope.names,y.2= .local->scope.names.lookup y.1=some .local
 free: ∀y∈scope.names,y.2= .free->X.env.scope.names.lookup y.1=some .cell\/X.env.scope.names.lookup y.1=some .free
 len:caps.length+k=N'.length
 caps: ∀(i j:Nat) (x:Str),caps[i]?=some j->N'[i]?=some x->X.N[j]?=some x/\scope.names.lookup x=some .free
theorem CompOk.sco(C:CompOk X N' scope caps k):CompScope X N' scope (Ar caps k):=by
 refine⟨C.cell,C.kind,C.names,C.free,fun σ=>by simp[Ar,C.len],fun σ i v x h1 h2=>?_⟩;unfold Ar at h1;by_cases hi:i<caps.length
 ·rw[BP (by simpa using hi),jd,iu hi] at h1;obtain⟨q1,q2⟩:=C.caps i caps[i] x (iu hi) h2;refine⟨q2,caps[i],q1,?_⟩;have h3:(σ[caps[i]]?).join=some v:=by simpa using h1
  cases hs:σ[caps[i]]? with
  |none=>rw[hs] at h3;cases h3
  |some y=>rw[hs] at h3;exact pO some h3
 ·rw[BQ (by simpa using hi),qy] at h1;split at h1<;>cases h1
theorem JD(C:CompOk X N' scope caps k)(hc:X.calm=true)(ha:c.is_async=0)(s9: ∀g',hU[0]?=some g'->g'.is_async=0)
  (hs: ∀x,foldedSetIterable c.iter X.env x=pure x)(pi:PIX X (fun i=>i∉caps) c.target c.iter fi)
  (ah: ∀(cl:jl) (C:fZ) (s3:gi) (H3:Hp) (fp:iW) (pins:gO),let X':=X.comp N' scope cl C s3 H3 fp pins
   PGX X' (fun i=>caps.length<=i) c.target tg/\PIf X' c.ifs (tT X.K ti)/\ ∀d,PB X' (jt (.ListComp elt (c::hU) scope pos) 0 (.ref d) X'.env) (tBx X.K (fun i=>caps.length<=i) d fb)):
  PX X (.ListComp elt (c::hU) scope pos) (iR caps k fi tg ti fb):=PX.imp (Hv (g:=tG X.K (fun i=>caps.length<=i) tg) (ti:=tT X.K ti) (tb:=fun d=>tBx X.K (fun i=>caps.length<=i) d fb) C.sco hc ha s9 hs pi ah) fun σ H Q h=>A2 h
theorem Ha{y:Str}{i:Nat}(bg:swapsWith (.ListComp elt (c::hU) scope pos) (some (.Name y py)) d9.line X.env=pure true)
  (C:CompOk X N' scope caps k)(hc:X.calm=true)(ha:c.is_async=0)(s9: ∀g',hU[0]?=some g'->g'.is_async=0)
  (hs: ∀x,foldedSetIterable c.iter X.env x=pure x)(pi:PIX X (fun i=>i∉caps) c.target c.iter fi)(eD:PG X (.Name y py) (AN i))(hA:A i)
  (ah: ∀(cl:jl) (C:fZ) (s3:gi) (H3:Hp) (fp:iW) (pins:gO),let X':=X.comp N' scope cl C s3 H3 fp pins
   PGX X' (fun i=>caps.length<=i) c.target tg/\PIf X' c.ifs (tT X.K ti)/\ ∀d,PB X' (jt (.ListComp elt (c::hU) scope pos) 0 (.ref d) X'.env) (tBx X.K (fun i=>caps.length<=i) d fb)):
  PSX X A L H0 (.Assign [.Name y py] (.ListComp elt (c::hU) scope pos) d9) (jc i (iR caps k fi tg ti fb)):=PS.imp' (Hg (g:=tG X.K (fun i=>caps.length<=i) tg) (ti:=tT X.K ti) (tb:=fun d=>tBx X.K (fun i=>caps.length<=i) d fb) bg C.sco hc ha s9 hs pi eD ah) fun D σ H hw=>by
 obtain⟨δ,T,out,E,fi,e,k⟩:=hw;obtain⟨⟨r,δ1⟩,h3,e⟩:=fY e;obtain⟨hi,rfl⟩:=gR e;refine A2 ⟨δ,T,r,δ1,E,h3,fun v H1 P=>?_⟩;obtain⟨h1,h2⟩:=oA (A:=A) E P hi hA;exact k _ H1 h1 h2
end
section
variable {K:gA}{T:AP'}{σ:L2.St}{δ:Dn}{H:Hp}{i:Nat}{l l':List D}{a:fZ}{bG:List V}
theorem OwnI.write{j:Nat}{b:fZ}(hd:δ[i]?=some (some (.lst l,true)))(h:OwnI σ (δ.set i (some (.lst l',true))) j b):OwnI σ δ j b:=by
 obtain⟨e,h1,h2⟩:=h;rcases jZ h1 with⟨rfl,_,_⟩|⟨_,q⟩
 ·exact⟨_,hd,h2⟩
 ·exact⟨e,q,h2⟩
theorem ER.write(E:ER K H T σ δ)(hd:δ[i]?=some (some (.lst l,true)))(hs:σ[i]?=some (some (.ref a)))(r:RepL K H (fun b=>OwnA σ δ b\/T b) l' bG):
  ER K (upd H a (.lst bG)) T σ (δ.set i (some (.lst l',true)))/\Keep σ δ H (δ.set i (some (.lst l',true))) (upd H a (.lst bG)):=by
 have hi:i<δ.length:=(rk.mp hd).1;have oa:OwnA σ δ a:=⟨i,_,hd,hs⟩
 have aa: ∀b,OwnA σ (δ.set i (some (.lst l',true))) b->OwnA σ δ b:=fun b ⟨j,e,h1,h2⟩=>by
  obtain⟨e',q1,q2⟩:=OwnI.write hd ⟨e,h1,h2⟩;exact⟨j,e',q1,q2⟩
 have kp: ∀b o,H b=some o-> ¬(OwnA σ δ b\/T b)->upd H a (.lst bG) b=some o:=fun b o e n=>by rw[gK (by intro z;subst z;exact n (.inl oa))];exact e
 have dm: ∀b,H b≠none->upd H a (.lst bG) b≠none:=fun b z=>by
  by_cases hb:b=a
  ·subst hb;rw[gQ];simp
  ·rw[gK hb];exact z
 have sub: ∀b,H b≠none->(OwnA σ (δ.set i (some (.lst l',true))) b\/T b)->OwnA σ δ b\/T b:=fun b _ z=>z.imp (aa b) id;refine⟨⟨by rw[oq];exact E.len,fun j e hj=>?_,fun j e hj=>?_,fun j k e f b hj hk h1 h2=>?_,fun b z=>E.nT b (aa b z),fun b z=>by have ne:b≠a:=fun e=>E.nT a oa (e▸z);rw[gK ne];exact E.dom b z⟩,⟨fun b o e n=>by rw[gK (by intro z;subst z;exact n oa)];exact e,fun j b z=>OwnI.write hd z,dm⟩⟩
 ·rcases jZ hj with⟨_,_,q⟩|⟨_,q⟩
  ·cases q
  ·obtain⟨w,w1,w2⟩:=E.val j e q;exact⟨w,w1,Rep.mono kp sub w2⟩
 ·rcases jZ hj with⟨rfl,_,q⟩|⟨ne,q⟩
  ·cases q;exact⟨a,hs,bG,gQ,RepL.mono kp sub r⟩
  ·obtain⟨b,w1,w2⟩:=E.own j e q;refine⟨b,w1,w2.mono kp sub fun o eo=>?_⟩;rw[gK]
   ·exact eo
   ·intro z;subst z;exact ne (E.inj i j _ _ _ hd q hs w1)
 ·obtain⟨e1,q1,q2⟩:=OwnI.write hd ⟨e,hj,h1⟩;obtain⟨e2,q3,q4⟩:=OwnI.write hd ⟨f,hk,h2⟩;exact E.inj j k e1 e2 b q1 q3 q2 q4
end
noncomputable def kn(i:Nat)(f:F):F:=fun δ=>match δ[i]? with
 |some (some (.lst _,true))=>(f δ).bind fun p=>match p.2[i]? with
  |some (some (.lst l,true))=>if l.length<sizeLine then some ((.non,false),p.2.set i (some (.lst (l++[p.1.1]),true))) else none
  |_=>none
 |_=>none
noncomputable def mv(i:Nat)(f:FO):F:=fun δ=>match δ[i]? with
 |some (some (.lst _,true))=>(f δ).bind fun p=>match res p.2 p.1,p.2[i]? with
  |some (.int k),some (some (.lst l,true))=>if -(2^63)<=k/\k<2^63 then(ixN l.length k).bind fun j=>(l[j]?).bind fun d=>some ((d,false),p.2.set i (some (.lst (l.eraseIdx j),true))) else none
  |_,_=>none
 |_=>none
noncomputable def sd(i:Nat)(f:F)(g:FO):FS:=fun δ=>(f δ).bind fun p=>match p.2[i]? with
 |some (some _)=>(g p.2).bind fun q=>match res q.2 q.1,q.2[i]? with
  |some (.int k),some (some (.lst l,true))=>(ixN l.length k).bind fun j=>some (.nx (q.2.set i (some (.lst (l.set j p.1.1),true))))
  |_,_=>none
 |_=>none
section
variable {X:Cx}{e ix:gm}{f:F}{fo:FO}{pos b8 apos f9:Pos}{i:Nat}{x:Str}{A L:ir}{H0:Hp}
theorem RepL.erase{K H}{O:AP'}: ∀{l:List D} {vs:List V} (j:Nat),RepL K H O l vs->RepL K H O (l.eraseIdx j) (vs.eraseIdx j)
 |[],vs,j,h=>by rw[RepL] at h;subst h;simp[RepL]
 |d::l,vs,0,h=>by
  rw[RepL] at h;obtain⟨v,r,rfl,h1,h2⟩:=h;exact h2
 |d::l,vs,j+1,h=>by
  rw[RepL] at h;obtain⟨v,r,rfl,h1,h2⟩:=h;exact RepL.cons h1 (RepL.erase j h2)
theorem EB(hv:PO X (.Name x b8) (gf i))(he:PX X e f)(g8:attributeBase (.Name x b8) "append" X.env (eval (.Name x b8) X.env)=eval (.Name x b8) X.env)
  (l4:((backTo f9 (starEach [e] X.env)).all (fun x=>!x.1)&&(backToKw f9 (keywordEach [] X.env)).all (fun x=>x.1.isSome)&&decide ([e].length+([]:List Keyword).length+(if([]:List Keyword).isEmpty then 0 else 1)<30))=true)
  (g7:(apos.endLine==f9.line)=true)(hs:starEach [e] X.env=(false,eval e X.env)::starEach [] X.env)(g0:(backTo f9 (starEach [] X.env)).any (·.1)=false):
  PX X (.Call (.Attribute (.Name x b8) "append" apos) [e] [] f9) (kn i f):=
 PX.imp (Hz yy PySem.F.slot_list_append PySem.F.type_list_append EM hv (jY he mQ hs) g8 l4 g7 hs g0) fun σ H Q hw=>by
 obtain⟨δ,T,rr,δ',E,e,k⟩:=hw;unfold kn at e;split at e
 ·rename_i l0 h0;obtain⟨⟨r,δ1⟩,h1,e⟩:=fY e;dsimp only at e;split at e
  ·rename_i l h2;obtain⟨hz,e⟩:=gR e;obtain⟨rfl,rfl⟩:=uw e;refine⟨δ,T,.slot i,δ,E,by unfold gf;rw[h0],fun v H1 P=>?_⟩;obtain⟨K1,E1,hσ⟩:=P;obtain⟨a,g1,cQ,g2,g3⟩:=E1.own i _ h0;rw[hσ] at g1;cases g1;refine⟨.inl ⟨rfl,cQ,SqL.of g2⟩,δ,T,r,δ1,E1,h1,fun y H2 P2=>?_⟩;obtain⟨E2,ry⟩:=P2.rep E1;obtain⟨a',q1,xs,q2,q3⟩:=E2.own i _ h2;rw[hσ] at q1;cases q1;refine⟨_,xs,y,rfl,rfl,q2,by rw[q3.length];exact hz,?_⟩;obtain⟨E3,K3⟩:=E2.write h2 hσ (q3.append (RepL.one ry));exact k _ _ (Post.val ((K1.trans P2.1).trans K3) E3 Rep.mkNon)
  ·cases e
 ·cases e
theorem G6(hv:PO X (.Name x b8) (gf i))(he:PO X e fo)(g8:attributeBase (.Name x b8) "pop" X.env (eval (.Name x b8) X.env)=eval (.Name x b8) X.env)
  (l4:((backTo f9 (starEach [e] X.env)).all (fun x=>!x.1)&&(backToKw f9 (keywordEach [] X.env)).all (fun x=>x.1.isSome)&&decide ([e].length+([]:List Keyword).length+(if([]:List Keyword).isEmpty then 0 else 1)<30))=true)
  (g7:(apos.endLine==f9.line)=true)(hs:starEach [e] X.env=(false,eval e X.env)::starEach [] X.env)(g0:(backTo f9 (starEach [] X.env)).any (·.1)=false):
  PX X (.Call (.Attribute (.Name x b8) "pop" apos) [e] [] f9) (mv i fo):=
 PX.imp (Hz yy FQ FP HK hv (jY he mQ hs) g8 l4 g7 hs g0) fun σ H Q hw=>by
 obtain⟨δ,T,rr,δ',E,e,k⟩:=hw;unfold mv at e;split at e
 ·rename_i l0 h0;obtain⟨⟨o,δ1⟩,h1,e⟩:=fY e;dsimp only at e;split at e
  ·rename_i kk l hk h2;split at e
   case isFalse=>cases e
   rename_i hb;obtain⟨j,hj,e⟩:=fY e;obtain⟨d,hd,e⟩:=fY e;obtain⟨rfl,rfl⟩:=gH e;refine⟨δ,T,.slot i,δ,E,by unfold gf;rw[h0],fun v H1 P=>?_⟩;obtain⟨K1,E1,hσ⟩:=P;obtain⟨a,g1,cQ,g2,g3⟩:=E1.own i _ h0;rw[hσ] at g1;cases g1;refine⟨.inl ⟨rfl,cQ,SqL.of g2⟩,δ,T,o,δ1,E1,h1,fun y H2 P2=>?_⟩;have B:=Ops.cons E1 P2 (Ops.nil (P2.er E1));have vy:=gP (B.view (j:=0) rfl rfl hk);have E2:ER X.K H2 T σ δ1:=B.er.mono (fun _ _ e _=>e) (fun b _ z=>B.tt b z) (fun a z=>B.er.dom a (B.tt a z));obtain⟨a',q1,xs,q2,q3⟩:=E2.own i _ h2;rw[hσ] at q1;cases q1;obtain⟨w,w1,w2⟩:=q3.get hd;have hl:=q3.length;have hj':ixN xs.length kk=some j:=by rw[hl];exact hj
   obtain⟨s1,s2,s3,s4⟩:=zj hj';obtain⟨E3,K3⟩:=E2.write h2 hσ (RepL.erase j q3);refine⟨_,xs,kk,j,w,rfl,by rw[vy],q2,hb.1,hb.2,s1,w1,?_⟩;exact k _ _ (Post.val ((K1.trans B.keep).trans K3) E3 (Rep.mono (fun b o e n=>K3.kp b o e fun z=>n (.inl z)) (fun b _ z=>z.imp (K3.ow b) id) w2))
  ·cases e
 ·cases e
theorem EE{d9:Pos}(hv:PO X (.Name x b8) (gf i))(he:PX X e f)(hi:PO X ix fo)
  (ha: ∀v,assign (.Subscript (.Name x b8) ix d9) X.env v=(do
   let ov <-holding [v] (eval (.Name x b8) X.env)
   let iv <-holding [v,ov] (eval ix X.env)
   standAt d9
   holding [v,ov,iv] (setItem ov iv v)
   release [v,ov,iv] []))
  (hs:swapsWithSole [.Subscript (.Name x b8) ix d9] e pos.line X.env=pure false)(hw:swappedStores [.Subscript (.Name x b8) ix d9] e X.env=pure none)
  (h1:(assignEach [.Subscript (.Name x b8) ix d9] X.env).map (·.2)=[assign (.Subscript (.Name x b8) ix d9) X.env]):
  PSX X A L H0 (.Assign [.Subscript (.Name x b8) ix d9] e pos) (sd i f fo):=PS.imp' (Hh he (Hr hv hi GL ha) hs hw h1) fun D σ H hw=>by
 obtain⟨δ,T,out,E,fi,e,k⟩:=hw;obtain⟨⟨r,δ1⟩,h1,e⟩:=fY e;dsimp only at e;split at e
 case h_2=>cases e
 rename_i y0 h0;obtain⟨⟨o,δ2⟩,h2,e⟩:=fY e;dsimp only at e;split at e
 ·rename_i kk l hk h3;obtain⟨j,hj,e⟩:=fY e;cases e;refine⟨δ,T,r,δ1,E,h1,fun v H1 P1=>⟨δ1,Tmp T r v,.slot i,δ1,P1.er E,by unfold gf;rw[h0],fun v2 H2 P2=>⟨δ1,Tmp T r v,o,δ2,P2.er (P1.er E),h2,fun v3 H3 P3=>?_⟩⟩⟩;have fW:PostO X.K T σ δ H (.val r) δ1 v H1:=P1;have B:=Ops.cons E fW (Ops.cons (P1.er E) P2 (Ops.cons (P2.er (P1.er E)) P3 (Ops.nil (P3.er (P2.er (P1.er E))))));have E3:ER X.K H3 T σ δ2:=B.er.mono (fun _ _ e _=>e) (fun b _ z=>B.tt b z) (fun a z=>B.er.dom a (B.tt a z));have hσ:σ[i]?=some (some v2):=P2.2.2;obtain⟨a,q1,xs,q2,q3⟩:=E3.own i _ h3;rw[hσ] at q1;cases q1;have vk:=gP (B.view (j:=2) rfl rfl hk);have rv:=B.rep E (j:=0) (r:=r) rfl rfl;refine⟨a,xs,kk,j,rfl,vk,q2,by rw[q3.length];exact hj,?_⟩;obtain⟨E4,K4⟩:=E3.write h3 hσ (RepL.set rv j q3);exact k _ _ (B.keep.trans K4).sk E4
 ·cases e
end
noncomputable def Al(i j:Nat)(fs:List F):FS:=fun δ=>(iN (fs.map gc) δ).bind fun p=>match mh p.1 with
 |some [a,b]=>if i<p.2.length/\j<p.2.length then some (.nx ((p.2.set i (some (a,false))).set j (some (b,false)))) else none
 |_=>none
noncomputable def Pr(tg:Tg)(f:F):FS:=fun δ=>(f δ).bind fun p=>(tg p.1.1 p.2).bind fun δ1=>some (.nx δ1)
section
variable {X:Cx}{A L:ir}{H0:Hp}{a b tg e:gm}{fs:List F}{f:F}{t:Tg}{pos px py pt av:Pos}{x y:Str}{i j:Nat}{kt k2}
theorem JN(hc:X.calm=true)(hN:X.N.Nodup)(hi:X.N[i]?=some x)(hj:X.N[j]?=some y)(k6:i≠j)(hx:X.env.scope.names.lookup x=some .local)(hy:X.env.scope.names.lookup y=some .local)
  (h:PA X [a,b] (tA X.K (fs.map gc)))(hw:swappedStores [.Tuple [.Name x px,.Name y py] kt pt] (.Tuple [a,b] k2 av) X.env=pure (some [x,y]))
  (hs:swapsWithSole [.Tuple [.Name x px,.Name y py] kt pt] (.Tuple [a,b] k2 av) pos.line X.env=pure false)(hA:A i)(hB:A j):
  PSX X A L H0 (.Assign [.Tuple [.Name x px,.Name y py] kt pt] (.Tuple [a,b] k2 av) pos) (Al i j fs):=PS.imp' (Mm hc hN hi hj k6 hx hy h hw hs) fun D σ H hw=>by
 obtain⟨δ,T,out,E,fi,e,k⟩:=hw;obtain⟨⟨os,δ1⟩,h1,e⟩:=fY e;dsimp only at e;split at e
 ·rename_i d1 d2 hv;obtain⟨hl,rfl⟩:=gR e;refine⟨δ,T,os,δ1,E,h1,fun vs H1 T1 B=>?_⟩;have r:=nJ hv B.len fun j r v a b=>B.rep E a b;have E1:ER X.K H1 T σ δ1:=B.er.mono (fun _ _ e _=>e) (fun b _ z=>B.tt b z) (fun a z=>B.er.dom a (B.tt a z));rw[RepL] at r;obtain⟨v1,r1,rfl,g1,r⟩:=r;rw[RepL] at r;obtain⟨v2,r2,rfl,g2,r⟩:=r;rw[RepL] at r;subst r;refine⟨v1,v2,rfl,?_⟩;obtain⟨q1,q2⟩:=oA (A:=A) (r:=(d1,false)) (v:=v1) E (Post.val B.keep E1 g1) hl.1 hA
  have g2':Rep X.K H1 (fun c=>OwnA (σ.set i (some v1)) (δ1.set i (some (d1,false))) c\/T c) d2 v2:=Rep.mono (fun _ _ e _=>e) (fun c hc z=>z.imp (fun z=>by
   rcases z.store with z|z
   ·exact z
   ·exact absurd z.1 (by simp)) id) g2
  obtain⟨q3,q4⟩:=oA (A:=A) (i:=j) (r:=(d2,false)) (v:=v2) q2 (Post.val .refl q2 g2') (by rw[oq];exact hl.2) hB;exact k _ H1 (q1.trans q3) q4
 ·cases e
theorem DA{id:String}{p:Pos}{es:iL}{fo:List FO}{g:List D->Option (D×Bool)}{z:Str}(hc:iY X (.builtin id) (rDn X.K g))(hg:Gl X z)(hm:X.mg z=none)(hv:bootBuiltins z=some (.builtin id))(ha:PA X (e::es) (tA X.K fo))(hn:z≠"__name__")(i7:(z==("__debug__":Str))=false)
  (he:starEach (e::es) X.env=(false,eval e X.env)::starEach es X.env)(g6:(backTo pos (starEach es X.env)).any (·.1)=false):PX X (.Call (.Name z p) (e::es) [] pos) (gL g fo):=pxn (qH hc hg hm hv ha hn i7 he g6)
theorem Jw{id:String}{p:Pos}{es:iL}{fo:List FO}{g:List D->Option (D×Bool)}{z:Str}(hc:iY X (.type id) (rDn X.K g))(hg:Gl X z)(hm:X.mg z=none)(hv:bootBuiltins z=some (.type id))(ha:PA X (e::es) (tA X.K fo))(hn:z≠"__name__")(i7:(z==("__debug__":Str))=false)
  (he:starEach (e::es) X.env=(false,eval e X.env)::starEach es X.env)(g6:(backTo pos (starEach es X.env)).any (·.1)=false):PX X (.Call (.Name z p) (e::es) [] pos) (gL g fo):=pxn (nk hc hg hm hv ha hn i7 he g6)
end
theorem Nj:bootBuiltins "abs"=some (.builtin "abs"):=by decide+kernel
noncomputable def zw(N:gG)(sc scope:iq)(N':gG)(caps:gW)(k:Nat):Bool:=
 (scope.names.all fun y=>y.2 != .cell||scope.names.lookup y.1==some .cell)&&decide (scope.kind= .function)&&(scope.names.all fun y=>y.2 != .local||scope.names.lookup y.1==some .local)&&
 (scope.names.all fun y=>y.2 != .free||(sc.names.lookup y.1==some .cell||sc.names.lookup y.1==some .free))&&decide (caps.length+k=N'.length)&&
 ((caps.zip N').all fun p=>N[p.1]?==some p.2&&scope.names.lookup p.2==some .free)
theorem Nh(hN:X.N=N)(hs:X.env.scope=sc)(h:zw N sc scope N' caps k=true):CompOk X N' scope caps k:=by
 subst hN;subst hs;unfold zw at h;simp only[lE,nH,decide_eq_true_eq] at h;obtain⟨⟨⟨⟨⟨h1,h2⟩,h3⟩,h4⟩,h5⟩,h6⟩:=h;refine⟨fun y hy e=>?_,h2,fun y hy e=>?_,fun y hy e=>?_,h5,fun i j x hi hx=>?_⟩
 ·have:=h1 y hy;rw[e] at this;simpa using this
 ·have:=h3 y hy;rw[e] at this;simpa using this
 ·have:=h4 y hy;rw[e] at this;simpa using this
 ·have hm:(j,x)∈caps.zip N':=by
   have:(caps.zip N')[i]?=some (j,x):=by rw[IY];exact⟨hi,hx⟩
   exact uy this
  have:=h6 _ hm;simpa using this
noncomputable def jK:FT:=fun δ=>some (true,δ)
theorem Hl{X:Cx}:PIf X [] (tT X.K jK):=fun pins s σ H Q I h=>by
 obtain⟨δ,T,b,δ',E,e,k⟩:=h;cases e;exact JU pins s σ H Q I (k H .refl E)
inductive Ty where
 |int|bool|str|tuple|list|dict
noncomputable def Ty.n:Ty->String
 | .int=>"int"| .bool=>"bool"| .str=>"str"| .tuple=>"tuple"| .list=>"list"| .dict=>"dict"
noncomputable def isT:D->Ty->Bool
 | .bl _,.bool=>true
 | .bl _,.int=>true
 | .int _,.int=>true
 | .str _,.str=>true
 | .tup _,.tuple=>true
 | .lst _,.list=>true
 | .oth .dct _ _,.dict=>true
 |_,_=>false
noncomputable def tyD:D->String
 | .non=>"NoneType"| .bl _=>"bool"| .int _=>"int"| .str _=>"str"| .tup _=>"tuple"| .lst _=>"list"| .oth .dct _ _=>"dict"| .oth .set _ _=>"set"| .oth _ _ _=>"NoneType"
section
variable {X:Cx}{pins:gO}{σ:L2.St}{H:Hp}{s:gi}
theorem zh(K:gA)(d:D)(t:Ty):PySem.W.kitOne K (.type (tyD d)) (.type t.n)=some (isT d t):=by
 cases d with
 |oth k _ _=>cases k<;>cases t<;>with_unfolding_all rfl
 |_=>cases t<;>with_unfolding_all rfl
theorem zb(I:Inv X pins σ H s)(h:OthB X.K (H a) k ks vs us)(hk:k= .dct\/k= .set:=by first|exact .inl rfl|exact .inr rfl):s.TypeIs (.ref a) (tyD (.oth k ks vs)):=by
 cases k with
 |dct=>
  rcases h with⟨kvs,e,_⟩|⟨kvs,e,_⟩
  ·obtain⟨_,_,vs,_,o,es,ep,h1,h2,_⟩:=(show ObjOk X.prog X.w H s.heap a (.dK kvs) from I.hok a _ e)
   exact⟨o,h1,h2.1⟩
  ·obtain⟨_,_,xs,_,o,es,ep,h1,h2,_⟩:=(show ObjOk X.prog X.w H s.heap a (.dT kvs) from I.hok a _ e)
   exact⟨o,h1,h2.1⟩
 |set=>
  obtain⟨_,zs,e,_⟩:=h;obtain⟨es,n,t,h1,_⟩:=(show ObjOk X.prog X.w H s.heap a (.stt zs) from I.hok a _ e)
  exact⟨_,h1,rfl⟩
 |exc C=>rcases hk with z|z<;>cases z
 |_=>exact h.elim
theorem mZ{K H}(h:iT K H O (.oth k ks vs) v): ∃a us,v= .ref a/\OthB K (H a) k ks vs us/\RepL K H O vs us:=by
 rcases h with h|⟨a,rfl,h⟩
 ·obtain⟨a,us,e,q,r⟩:=h.oth;exact⟨a,us,e,q.2,r⟩
 ·obtain⟨us,e,r⟩:=h;exact⟨a,us,rfl,e,r⟩
end
theorem kj(K:gA)(d:D): ∀ts:List Ty,PySem.W.kitAny K (.type (tyD d)) (ts.map fun t=>Value.type t.n)=some (ts.any (isT d))
 |[]=>rfl
 |t::ts=>by
  rw[ic,PySem.W.kitAny,zh,rJ]
  cases isT d t with
  |true=>rfl
  |false=>simpa using kj K d ts
theorem Lc{K:gA}{C:Nat}(h: ∀n∈["int","bool","str","tuple","list","dict"],PySem.W.kitOne K (.ref C) (.type n)=some false)(t:Ty){ks vs:List D}:PySem.W.kitOne K (.ref C) (.type t.n)=some (isT (.oth (.exc C) ks vs) t):=by
 cases t<;>exact h _ (by simp[Ty.n])
theorem DZ{K:gA}{C:Nat}(h: ∀n∈["int","bool","str","tuple","list","dict"],PySem.W.kitOne K (.ref C) (.type n)=some false){ks vs:List D}: ∀ts:List Ty,PySem.W.kitAny K (.ref C) (ts.map fun t=>Value.type t.n)=some (ts.any (isT (.oth (.exc C) ks vs)))
 |[]=>rfl
 |t::ts=>by
  rw[ic,PySem.W.kitAny,Lc h t (ks:=ks) (vs:=vs),rJ]
  cases isT (.oth (.exc C) ks vs) t with
  |true=>rfl
  |false=>simpa using DZ h ts
section
variable {X:Cx}{pins:gO}{σ:L2.St}{H:Hp}{s:gi}
theorem Qu(I:Inv X pins σ H s)(hd:iT X.K H O d x)(rx:RelV x u)(h: ∀tk,Q (.bool (isT d t)) {s with toks:=tk}):
  wpAny (model X.prog X.w) A (call (.builtin "isinstance") [u,.type t.n]) Q E s:=by
 cases d with
 |non=>have:=zW hd;subst this;cases rx;exact qu PySem.W.kitx_none I.kIn True.intro (zh X.K .non t) (fun z=>nomatch z) h
 |bl b=>have:=yN hd;subst this;cases rx;exact qu PySem.W.kitx_bool I.kIn True.intro (zh X.K (.bl b) t) (fun z=>nomatch z) h
 |int b=>have:=gP hd;subst this;obtain⟨tk,rfl⟩:=rx;exact qu PySem.W.kitx_int I.kIn True.intro (zh X.K (.int b) t) (fun z=>nomatch z) h
 |str b=>have:=qA hd;subst this;obtain⟨tk,rfl⟩:=rx;exact qu PySem.W.kitx_str I.kIn True.intro (zh X.K (.str b) t) (fun z=>nomatch z) h
 |tup l=>
  obtain⟨a,xs,rfl,q,_⟩:=kQ hd;cases rx;obtain⟨its,_,⟨o,h1,h2,_⟩,_⟩:=I.tuple q;exact qu PySem.W.kitx_tuple I.kIn ⟨o,h1,h2⟩ (zh X.K (.tup l) t) (fun z=>nomatch z) h
 |lst l=>
  obtain⟨a,xs,rfl,q,_⟩:=jm hd;cases rx;obtain⟨its,_,⟨o,n,h1,h2,_⟩,_⟩:=I.list q;exact qu PySem.W.kitx_list I.kIn ⟨o,h1,h2⟩ (zh X.K (.lst l) t) (fun z=>nomatch z) h
 |oth k ks vs=>
  obtain⟨a,us,rfl,q,_⟩:=mZ hd;cases rx
  cases k with
  |dct=>exact qu PySem.W.kitx_dict I.kIn (zb I q) (zh X.K (.oth .dct ks vs) t) (fun z=>nomatch z) h
  |set=>exact qu PySem.W.kitx_set I.kIn (zb I q) (zh X.K (.oth .set ks vs) t) (fun z=>nomatch z) h
  |exc C=>
   obtain⟨_,o,e,h1,h2,h3⟩:=q;exact qu (h2 a) I.kIn (show ObjOk X.prog X.w H s.heap a (.frz o (.own 0)) from I.hok a _ e).1 (Lc h3 t) (fun z=>nomatch z) h
  |_=>exact q.elim
theorem Qt{A:gB}{E:gU}{Q:gU}(I:Inv X pins σ H s){O:AP'}{d:D}{x:V}{u:gp}{ts:List Ty}{p:fZ}{dd:Option Addr}{n:Nat}{sl:oj}(hd:iT X.K H O d x)(rx:RelV x u)
  (aE:s.heap.get? p=some ⟨.type "tuple",dd,.seq (ts.map fun t=>Value.type t.n).toArray n,sl⟩)(h: ∀tk,Q (.bool (ts.any (isT d))) {s with toks:=tk}):wpAny (model X.prog X.w) A (call (.builtin "isinstance") [u,.ref p]) Q E s:=by
 cases d with
 |non=>have:=zW hd;subst this;cases rx;exact qt PySem.W.kitx_none I.kIn True.intro aE (kj X.K .non ts) (fun z=>nomatch z) h
 |bl b=>have:=yN hd;subst this;cases rx;exact qt PySem.W.kitx_bool I.kIn True.intro aE (kj X.K (.bl b) ts) (fun z=>nomatch z) h
 |int b=>have:=gP hd;subst this;obtain⟨tk,rfl⟩:=rx;exact qt PySem.W.kitx_int I.kIn True.intro aE (kj X.K (.int b) ts) (fun z=>nomatch z) h
 |str b=>have:=qA hd;subst this;obtain⟨tk,rfl⟩:=rx;exact qt PySem.W.kitx_str I.kIn True.intro aE (kj X.K (.str b) ts) (fun z=>nomatch z) h
 |tup l=>
  obtain⟨a,xs,rfl,q,_⟩:=kQ hd;cases rx;obtain⟨its,_,⟨o,h1,h2,_⟩,_⟩:=I.tuple q;exact qt PySem.W.kitx_tuple I.kIn ⟨o,h1,h2⟩ aE (kj X.K (.tup l) ts) (fun z=>nomatch z) h
 |lst l=>
  obtain⟨a,xs,rfl,q,_⟩:=jm hd;cases rx;obtain⟨its,_,⟨o,n,h1,h2,_⟩,_⟩:=I.list q;exact qt PySem.W.kitx_list I.kIn ⟨o,h1,h2⟩ aE (kj X.K (.lst l) ts) (fun z=>nomatch z) h
 |oth k ks vs=>
  obtain⟨a,us,rfl,q,_⟩:=mZ hd;cases rx
  cases k with
  |dct=>exact qt PySem.W.kitx_dict I.kIn (zb I q) aE (kj X.K (.oth .dct ks vs) ts) (fun z=>nomatch z) h
  |set=>exact qt PySem.W.kitx_set I.kIn (zb I q) aE (kj X.K (.oth .set ks vs) ts) (fun z=>nomatch z) h
  |exc C=>
   obtain⟨_,o,e,h1,h2,h3⟩:=q;exact qt (h2 a) I.kIn (show ObjOk X.prog X.w H s.heap a (.frz o (.own 0)) from I.hok a _ e).1 aE (DZ h3 ts) (fun z=>nomatch z) h
  |_=>exact q.elim
end
noncomputable def tR(ts:List Ty)(d:D):Option (D×Bool):=some (.bl (ts.any (isT d)),false)
section
variable {X:Cx}{e:gm}{fa:FO}{pos p p2:Pos}{z:Str}
theorem L8{t:Ty}(ha:PO X e fa)(hg:Gl X "isinstance")(hm:X.mg "isinstance"=none)(aI:Gl X z)(da:X.mg z=none)(hz:bootBuiltins z=some (.type t.n))(hn:z≠"__name__")(i7:(z==("__debug__":Str))=false)(hv:bootBuiltins "isinstance"=some (.builtin "isinstance"))
  (s1:starEach [e,.Name z p2] X.env=(false,eval e X.env)::starEach [.Name z p2] X.env)(s2:starEach [.Name z p2] X.env=(false,eval (.Name z p2) X.env)::starEach [] X.env)(g6:(backTo pos (starEach [.Name z p2] X.env)).any (·.1)=false):
  PX X (.Call (.Name "isinstance" p) [e,.Name z p2] [] pos) (jw (tR [t]) fa):=by
 have hc:iY X (.builtin "isinstance") (fun xs H Q=> ∃(O:AP') (d:D) (x:V),xs=[x,.ty t.n]/\iT X.K H O d x/\Q (.bl (isT d t)) H):=by
  intro pins s σ H xs us Q I r h;obtain⟨O,d,x,rfl,hd,q⟩:=h;obtain⟨u,w',rfl,ru,y9⟩:=sY r;cases y9;exact Qu I hd ru fun tk=>⟨.bl _,H,I.tok _,rfl,q⟩
 refine PX.imp (qH hc hg hm hv (jY ha (jY (ug (v:= .ty t.n) aI da hz rfl hn i7) mQ s2) s1) (by decide) (by decide) s1 g6) fun σ H Q hw=>?_;obtain⟨δ,T,rr,δ',E,e,k⟩:=hw;obtain⟨⟨o,δ1⟩,h1,e⟩:=fY e;obtain⟨x,h2,e⟩:=fY e;obtain⟨zz,h3,e⟩:=fY e;cases h3;obtain⟨rfl,rfl⟩:=gH e;refine⟨δ,T,o,δ1,E,h1,fun v H1 P1=>?_⟩;have B:=Ops.cons E P1 (Ops.nil (P1.er E));refine⟨_,x,v,rfl,B.view (j:=0) rfl rfl h2,?_⟩;have:=(B.done k).bl;simpa using this
theorem JA{t t':Ty}{z z':Str}{p3 p4:Pos}{kk}(ha:PO X e fa)(hg:Gl X "isinstance")(hm:X.mg "isinstance"=none)(aI:Gl X z)(da:X.mg z=none)(hz:bootBuiltins z=some (.type t.n))(hn:z≠"__name__")(i7:(z==("__debug__":Str))=false)
  (cu:Gl X z')(hmz':X.mg z'=none)(dJ:bootBuiltins z'=some (.type t'.n))(cf:z'≠"__name__")(cA:(z'==("__debug__":Str))=false)(hv:bootBuiltins "isinstance"=some (.builtin "isinstance"))
  (s1:starEach [e,.Tuple [.Name z p2,.Name z' p3] kk p4] X.env=(false,eval e X.env)::starEach [.Tuple [.Name z p2,.Name z' p3] kk p4] X.env)(s2:starEach [.Tuple [.Name z p2,.Name z' p3] kk p4] X.env=(false,eval (.Tuple [.Name z p2,.Name z' p3] kk p4) X.env)::starEach [] X.env)
  (s3:starEach [.Name z p2,.Name z' p3] X.env=(false,eval (.Name z p2) X.env)::starEach [.Name z' p3] X.env)(s4:starEach [.Name z' p3] X.env=(false,eval (.Name z' p3) X.env)::starEach [] X.env)
  (g6:(backTo pos (starEach [.Tuple [.Name z p2,.Name z' p3] kk p4] X.env)).any (·.1)=false):
  PX X (.Call (.Name "isinstance" p) [e,.Tuple [.Name z p2,.Name z' p3] kk p4] [] pos) (jw (tR [t,t']) fa):=by
 have hc:iY X (.builtin "isinstance") (fun xs H Q=> ∃(O:AP') (d:D) (x:V) (q:fZ),xs=[x,.ref q]/\H q=some (.tup [.ty t.n,.ty t'.n])/\iT X.K H O d x/\Q (.bl ([t,t'].any (isT d))) H):=by
  intro pins s σ H xs us Q I r h;obtain⟨O,d,x,q,rfl,hq,hd,k⟩:=h;obtain⟨u,w',rfl,ru,y9⟩:=sY r;cases y9;obtain⟨_,its,v1,o,h1,h2,n,h3⟩:=I.hok q _ hq;obtain⟨u1,u2,rfl,r1,r2⟩:=sY v1;cases r1;cases r2;obtain⟨cls,dd,dt,sl⟩:=o;simp only at h2 h3;subst h2;subst h3;exact Qt (ts:=[t,t']) I hd ru h1 fun tk=>⟨.bl _,H,I.tok _,rfl,k⟩
 refine PX.imp (qH hc hg hm hv (jY ha (jY (Hs (jY (ug (v:= .ty t.n) aI da hz rfl hn i7) (jY (ug (v:= .ty t'.n) cu hmz' dJ rfl cf cA) mQ s4) s3)) mQ s2) s1) (by decide) (by decide) s1 g6) fun σ H Q hw=>?_;obtain⟨δ,T,rr,δ',E,e,k⟩:=hw;obtain⟨⟨o,δ1⟩,h1,e⟩:=fY e;obtain⟨x,h2,e⟩:=fY e;obtain⟨zz,h3,e⟩:=fY e;cases h3;obtain⟨rfl,rfl⟩:=gH e;refine⟨δ,T,o,δ1,E,h1,fun v H1 P1=>⟨by show 2<=sizeLine;decide,fun q hq=>?_⟩⟩;have B:=Ops.cons E P1 (Ops.nil (P1.er E));have hx:=kJ (o:= .tup [.ty t.n,.ty t'.n]) hq;have vw:=B.view (j:=0) rfl rfl h2;refine⟨fun a=>OwnA σ δ1 a\/T a,x,v,q,rfl,gQ,?_,?_⟩
 ·rcases vw with vw|⟨a,rfl,vw⟩
  ·exact .inl (Rep.mono (fun b o e _=>hx b o e) (fun _ _ z=>z) vw)
  ·exact .inr ⟨a,rfl,vw.mono (fun b o e _=>hx b o e) (fun _ _ z=>z) fun o e=>hx a o e⟩
 ·exact(B.done k) _ _ hx Rep.mkBl
end
noncomputable def mP:List D->Option (List Bool)
 |[]=>some []
 | .bl b::l=>(mP l).map (b:: ·)
 |_::_=>none
noncomputable def Ij:D->Option (D×Bool)
 | .lst l=>(mP l).map fun bs=>(.bl (bs.all id),false)
 |_=>none
theorem tJ{K H}{O:AP'}: ∀{l:List D} {bs:List Bool} {xs:List V} {its:hJ},mP l=some bs->RepL K H O l xs->Vals xs its->LSm.BoolsAre its bs
 |[],bs,xs,its,h,r,v=>by
  cases h;rw[RepL] at r;subst r;cases v;exact .nil
 | .bl b::l,bs,xs,its,h,r,v=>by
  obtain⟨bs',h1,rfl⟩:=hW h;rw[RepL] at r;obtain⟨x,xr,rfl,r1,r2⟩:=r;have:=r1.bl;subst this
  cases v with
  |cons a c=>cases a;exact .cons b (tJ h1 r2 c)
 | .non::l,_,_,_,h,_,_=>by cases h
 | .int _::l,_,_,_,h,_,_=>by cases h
 | .str _::l,_,_,_,h,_,_=>by cases h
 | .tup _::l,_,_,_,h,_,_=>by cases h
 | .lst _::l,_,_,_,h,_,_=>by cases h
 | .oth _ _ _::l,_,_,_,h,_,_=>by cases h
section
variable {X:Cx}
theorem zi{h h':gz}{o:Obj}(hk: ∀b x,b∉[h.objs.size]->(h.push o).get? b=some x->h'.get? b=some x)(b:fZ)(x:Obj)(e:h.get? b=some x):h'.get? b=some x:=
 hk b x (fun z=>by have:=nZ.mp z;subst this;exact absurd (iC e) (ot _)) (iM _ e)
theorem Fc(hc:X.calm=true):iY X (.builtin "all") (rDn X.K (g1 Ij)):=mS fun pins s σ H x u Q O d z I ru np hd hg G=>by
 cases d with
 |lst l=>
  obtain⟨bs,hb,rfl⟩:=hW hg;obtain⟨p,xs,rfl,q,r⟩:=jm hd;cases ru;obtain⟨its,v,pl,_⟩:=I.list q;have are:=tJ hb r v;have hh:X.A.in1.handled=none:=I.ok.hd hc;have plt:p<s.heap.objs.size:=by obtain⟨_,e,_⟩:=pl.isList;exact iC e
  refine call_all_walk (BV pl.isList ⟨s.heap.objs.size,[s.heap.objs.size,p],[s.heap.objs.size],its.toArray.size,_,_,fun i=>(bs[i]?).getD true,rfl,Walks.list hh _ p (iF plt) its.toArray,
   ⟨⟨_,jx _ rfl,rfl,rfl⟩,pl.isList.push _⟩,fun i w s' Q' E' hP hQ=>?_,fun h' tk hk=>?_⟩)
  ·obtain⟨b,e,rfl⟩:=are.get i w (by simpa using hP);dsimp only at hQ;rw[e] at hQ;exact yH hQ
  ·rw[iK,are.length,LSm.range_all];exact⟨.bl _,H,I.kept (zi hk),rfl,G.bl⟩
 |_=>cases hg
noncomputable def Ih:=gI fun i j=>some (.int (if j>i then j else i))
noncomputable def Ig:=gI fun i j=>some (.int (if j<i then j else i))
theorem CZ(hc:X.calm=true):iY X (.builtin "max") (rDn X.K (g2 Ih)):=IK fun pins s σ H x y us Q O d e z I r np h1 h2 hg G=>by
 obtain⟨i,j,w,rfl,rfl,hf,rfl⟩:=uk hg;cases hf;exact Fb hc pins s σ H [x,y] us Q I r ⟨i,j,by rw[gP h1,gP h2],G.int⟩
theorem CY(hc:X.calm=true):iY X (.builtin "min") (rDn X.K (g2 Ig)):=IK fun pins s σ H x y us Q O d e z I r np h1 h2 hg G=>by
 obtain⟨i,j,w,rfl,rfl,hf,rfl⟩:=uk hg;cases hf;exact E9 hc pins s σ H [x,y] us Q I r ⟨i,j,by rw[gP h1,gP h2],G.int⟩
theorem vo{lo:Int}{n:Nat}{acc:jI}(h:ItemsOf (fun i v=> ∃t,v= .int (lo+(i:Int)*1) t) acc n):Vals ((List.range n).map fun(k:Nat)=>V.int (lo+k)) acc.toList:=by
 have key: ∀(l:hJ) (m:Nat),(∀(j:Nat) v,l[j]?=some v-> ∃t,v= .int (lo+((m+j:Nat):Int)) t)->Vals ((List.range' m l.length).map fun(k:Nat)=>V.int (lo+k)) l:=by
  intro l
  induction l with
  |nil=>intro m _;exact .nil
  |cons v l ih=>
   intro m hv;obtain⟨t,e⟩:=hv 0 v rfl;refine .cons ⟨t,by simpa using e⟩ (ih (m+1) fun j w hw=>?_);obtain⟨t',e'⟩:=hv (j+1) w (by simpa using hw);exact⟨t',by rw[e'];congr 2;first|done|omega⟩
 have:=key acc.toList 0 fun j v hv=>by
  obtain⟨t,e⟩:=h.2 j v (by simpa using hv);exact⟨t,by rw[e];congr 1⟩
 rw[ma,h.1,<-List.range_eq_range'] at this;exact this
theorem Ce{K H}(lo:Int)(n:Nat):RepL K H O (ip lo n) ((List.range n).map fun(k:Nat)=>V.int (lo+k)):=by
 unfold ip
 induction(List.range n) with
 |nil=>exact RepL.nil
 |cons k l ih=>exact RepL.cons Rep.mkInt ih
end
def RgOk(lo hi:Int):Prop:= -(2^62)<=lo/\lo<2^62/\ -(2^62)<=hi/\hi<2^62/\(hi-lo).toNat<=2^24
instance(lo hi:Int):Decidable (RgOk lo hi):=by unfold RgOk;infer_instance
noncomputable def rgV(lo hi:Int):List V:=(List.range (hi-lo).toNat).map fun(k:Nat)=>V.int (lo+k)
theorem RgOk.small{lo hi:Int}(h:RgOk lo hi):Builtin.Range.small lo hi 1=true:=small_one h.1 h.2.1 h.2.2.1 h.2.2.2.1
theorem Du(lo hi:Int):Builtin.Range.rangeSize lo hi 1=((hi-lo).toNat:Nat):=by rw[rangeSize_one];split<;>omega
section
variable {prog:gC}{w:gy}{A:gB}{E:gU}{s:gi}
theorem CV{Q:List Value->Shared->Prop}{r:fZ}{lo hi:Int}{t u v:Tok}(hh:A.handled=none)(hr:IsRange s.heap r lo hi 1 t u v)(ok:RgOk lo hi)
  (hQ: ∀(h':gz) tk (acc:jI),(∀b o,s.heap.get? b=some o->h'.get? b=some o)->ItemsOf (fun i v=> ∃t,v= .int (lo+(i:Int)*1) t) acc (hi-lo).toNat->Q acc.toList {s with heap:=h',toks:=tk}):
  wpAny (model prog w) A (collect (.ref r)) Q E s:=by
 unfold collect;refine gk (wpAny_runValue (rF F.entry_proto_collect ?_));rw[uH F.plain_proto_collect _];refine gk (m:=newList []) (mD ?_);refine gF ⟨yw F.plain_list_iadd _,rF F.entry_list_iadd ?_⟩;rw[uH F.plain_list_iadd _];have e0:=jx s.heap (o:=({cls:= .type "list",data:= .seq ([]:List Value).toArray}:Obj)) rfl
 let R:Result->Shared->Prop:=fun r s'=> ∃(h':gz) (tk:Nat) (acc:jI) (c':Nat),r= .ok (.ret (.ref s.heap.objs.size))/\s'={s with heap:=h',toks:=tk}/\(∀b o,s.heap.get? b=some o->h'.get? b=some o)/\
  h'.get? s.heap.objs.size=some {cls:= .type "list",dict:=none,data:= .seq acc c',slots:= #[]}/\ItemsOf (fun i v=> ∃t,v= .int (lo+(i:Int)*1) t) acc (hi-lo).toNat
 have fin: ∀{r s'},R r s'-> ∃v,r= .ok (.ret v)/\wpAny (model prog w) A (match v with
   |Value.ref a=>do
    match(<-load a).data with
     |Data.seq xs _=>pure xs.toList
     |_=>unsupported "internal:collect"
   |_=>unsupported "internal:collect") Q E s':=fun {r s'} hR=>by
  obtain⟨h',tk,acc,c',rfl,rfl,hk,dq,o7⟩:=hR;exact⟨_,rfl,gk (m:=load s.heap.objs.size) (wpAny_load dq (gF (hQ h' tk acc hk o7)))⟩
 refine lM (wpAny_extend_range (A:=A) (R:=R) (s:={s with heap:=s.heap.push {cls:= .type "list",data:= .seq ([]:List Value).toArray}}) hh (iM _ hr) ok.small (Du lo hi) ok.2.2.2.2 _ _ 0 e0 fun h' tk l6 c' hk dq o7=>
  ⟨h',tk,l6,c',rfl,rfl,fun b o e=>hk b o (iF (iC e)) (iM _ e),dq,o7⟩) (fun f s' h=>?_) (fun e s' h=>?_)
 ·cases f with
  |done f=>
   obtain⟨v,hv,h2⟩:=fin h;cases hv;exact h2
  |again c'=>exact⟨h.1,uz h.2 fun r v5 hr=>by obtain⟨v,rfl,h2⟩:=fin hr;exact h2⟩
 ·obtain⟨v,hv,_⟩:=fin h;cases hv
theorem yP{Q₁:gU}{r:fZ}{lo hi:Int}{t u v:Tok}(hh:A.handled=none)(hr:IsRange s.heap r lo hi 1 t u v)(ok:RgOk lo hi)
  (h: ∀(h':gz) tk (acc:jI),(∀b o,s.heap.get? b=some o->h'.get? b=some o)->ItemsOf (fun i v=> ∃t,v= .int (lo+(i:Int)*1) t) acc (hi-lo).toNat->Q₁ (.ref h'.objs.size) {s with heap:=h'.push {cls:= .type "tuple",data:= .seq acc},toks:=tk}):
  codeAny (model prog w) A (.call (.builtin "tuple.__new__") ⟨[.type "tuple",.ref r],[]⟩) (wants Q₁ E) s:=by
 refine BG ?_;refine gk (m:=checkBuiltinCall "tuple.__new__" _) (Bz (F.newCall_tuple_1 _) (gF ⟨yw F.plain_tuple_new _,rF F.entry_tuple_new ?_⟩));rw[uH F.plain_tuple_new _];have hsub:=sub_tuple_self;have hinit:=init_tuple_lookup;have hmh:=madeHere_tuple;have o8:s.TypeIs (.ref r) "range":=⟨_,hr,rfl⟩
 have hh1:A.in1.handled=none:=hh
 wp_walk using rO o8,CV hh1 hr ok
 intro h' tk acc hk o7;have hz:acc.size<=sizeLine:=by rw[o7.1,je];have:=ok.2.2.2.2;omega
 refine gk (m:=Builtin.Tuple.tupleExact acc.toList.toArray) ?_;unfold Builtin.Tuple.tupleExact;refine mD ?_ (by show acc.toList.toArray.size<=sizeLine;simpa using hz);refine gF ?_;have e:acc.toList.toArray=acc:=by simp
 rw[e];exact h h' tk acc hk o7
theorem wJ{Q:gU}{r:fZ}{lo hi:Int}{t u v:Tok}(hh:A.handled=none)(hr:IsRange s.heap r lo hi 1 t u v)(ok:RgOk lo hi)
  (h: ∀(h':gz) tk (acc:jI),(∀b o,s.heap.get? b=some o->h'.get? b=some o)->ItemsOf (fun i v=> ∃t,v= .int (lo+(i:Int)*1) t) acc (hi-lo).toNat->Q (.ref h'.objs.size) {s with heap:=h'.push {cls:= .type "tuple",data:= .seq acc},toks:=tk}):
  wpAny (model prog w) A (call (.type "tuple") [.ref r]) Q E s:=by
 refine callType_codes (Q₁:=fun obj s₁=>s₁.TypeIs obj "tuple"/\Q obj s₁) IZ (F.typeCall_tuple_1 _) F.entry_object_init
  (yP hh hr ok fun h' tk acc hm o7=>⟨⟨_,jx _ rfl,rfl⟩,h h' tk acc hm o7⟩) fun obj s₁ h₁=>?_
 exact⟨h₁.1,F.args_object_init_2 obj _,object_init_meets IZ.init.lookup IZ.made (by decide) prog w A.in1 _ s₁ ⟨h₁.1,rfl,h₁.2⟩⟩
end
section
variable {X:Cx}
theorem xJ:iY X (.type "range") (fun xs H Q=> ∃i j,xs=[.int i,.int j]/\ ∀r,H r=none->Q (.ref r) (upd H r (.rng i j))):=by
 intro pins s σ H xs us Q I r h;obtain⟨i,j,rfl,h⟩:=h;obtain⟨u,u',rfl,⟨t,rfl⟩,⟨t',rfl⟩⟩:=sY r;exact call_range_2 ⟨.ref _,_,I.laid (o:= .rng i j) (fun b o e=>iM _ e) (ig _) ⟨_,_,_,jx _ rfl⟩,rfl,h _ I.fresh⟩
theorem wK(hc:X.calm=true):iY X (.type "list") (fun xs H Q=> ∃r lo hi,xs=[.ref r]/\H r=some (.rng lo hi)/\RgOk lo hi/\ ∀l,H l=none->Q (.ref l) (upd H l (.lst (rgV lo hi)))):=by
 intro pins s σ H xs us Q I cR h;obtain⟨r,lo,hi,rfl,hr,ok,h⟩:=h;obtain⟨u,rfl,ru⟩:=pP cR;cases ru;obtain⟨t,u,v,er⟩:=I.hok r _ hr;refine call_list_range (A:=X.A) (I.ok.hd hc) er ok.small (Du lo hi) ok.2.2.2.2 fun h' tk acc c kp e items=>?_;have rv:=vo items;refine⟨.ref _,_,I.laid kp (ig _) (show ObjOk X.prog X.w _ _ _ (.lst (rgV lo hi)) from⟨?_,acc.toList,c,rv,by simpa using e⟩),rfl,h _ I.fresh⟩;have:=ok.2.2.2.2;simp only[rgV,jF,List.length_range,je];omega
theorem wc(hc:X.calm=true):iY X (.type "tuple") (fun xs H Q=> ∃r lo hi,xs=[.ref r]/\H r=some (.rng lo hi)/\RgOk lo hi/\ ∀l,H l=none->Q (.ref l) (upd H l (.tup (rgV lo hi)))):=by
 intro pins s σ H xs us Q I cR h;obtain⟨r,lo,hi,rfl,hr,ok,h⟩:=h;obtain⟨u,rfl,ru⟩:=pP cR;cases ru;obtain⟨t,u,v,er⟩:=I.hok r _ hr;refine wJ (A:=X.A) (I.ok.hd hc) er ok fun h' tk acc kp items=>?_;have rv:=vo items;have I1:Inv X pins σ H {s with heap:=h',toks:=tk}:=I.kept kp;refine⟨.ref _,_,I1.laid (fun b o e=>iM _ e) (ig _) (show ObjOk X.prog X.w _ _ _ (.tup (rgV lo hi)) from⟨?_,acc.toList,rv,by have:=uQ h' acc;simpa using this⟩),rfl,h _ I1.fresh⟩;have:=ok.2.2.2.2;simp only[rgV,jF,List.length_range,je];omega
noncomputable def gRg(mk:List D->D)(o:Bool):List D->Option (D×Bool)
 |[.int j]=>if RgOk 0 j then some (mk (ip 0 j.toNat),o) else none
 |[.int i,.int j]=>if RgOk i j then some (mk (ip i (j-i).toNat),o) else none
 |_=>none
theorem Dv{K H}(lo hi:Int):RepL K H O (ip lo (hi-lo).toNat) (rgV lo hi):=Ce lo _
variable {a b:gm}{fa fb:FO}{p p2 pos bf:Pos}
theorem Ab(h:upd H r o l=none):H l=none:=by
 by_cases e:l=r
 ·subst e;rw[gQ] at h;cases h
 ·rwa [gK e] at h
theorem xZ{K:gA}{T T':AP'}{σ:L2.St}{δ δ':Dn}{H H':Hp}{os:List Opd}{vs:List V}{ds:List D}(B:Ops K T σ δ H os vs δ' H' T')(h:qe δ' os=some ds){is:gS}(hd:ds=is.map .int):vs=is.map .int:=by
 obtain⟨h1,h2⟩:=lG h;apply rG;intro j;by_cases hj:j<is.length
 ·rw[pd B h (j:=j) (i:=is[j]) (by rw[hd];simp[hj])];simp[hj]
 ·have l1:=B.len;subst hd;simp at h1;rw[yv (by omega),yv (by simp;omega)]
theorem LX{T:String}{z:Str}{mk:List D->D}{o:Bool}(hT:(T="list"/\mk= .lst/\o=true)\/(T="tuple"/\mk= .tup/\o=false))(hc:X.calm=true)(hg:Gl X z)(hm:X.mg z=none)(hv:bootBuiltins z=some (.type T))(hn:z≠"__name__")(i7:(z==("__debug__":Str))=false)
  (dU:Gl X "range")(cg:X.mg "range"=none)(ha:PA X [a,b] (tA X.K [fa,fb]))
  (s1:starEach [.Call (.Name "range" p2) [a,b] [] bf] X.env=(false,eval (.Call (.Name "range" p2) [a,b] [] bf) X.env)::starEach [] X.env)(s2:starEach [a,b] X.env=(false,eval a X.env)::starEach [b] X.env)
  (g6:(backTo pos (starEach [] X.env)).any (·.1)=false)(br:(backTo bf (starEach [b] X.env)).any (·.1)=false):
  PX X (.Call (.Name z p) [.Call (.Name "range" p2) [a,b] [] bf] [] pos) (gL (gRg mk o) [fa,fb]):=by
 have len2: ∀{δ δ1:Dn} {os:List Opd},iN [fa,fb] δ=some (os,δ1)->os.length=2:=fun {δ δ1 os} h1=>by
  unfold iN at h1;obtain⟨p,q1,h1⟩:=fY h1;obtain⟨q,q2,h1⟩:=fY h1;unfold iN at q2;obtain⟨p3,q3,q2⟩:=fY q2;obtain⟨q4,q5,q2⟩:=fY q2;unfold iN at q5;cases q5;obtain⟨rfl,rfl⟩:=gH h1;cases q2;rfl
 rcases hT with⟨rfl,rfl,rfl⟩|⟨rfl,rfl,rfl⟩
 ·refine PX.imp (nk (wK hc) hg hm hv (jY (nk xJ dU cg yG ha (by decide) (by decide) s2 br) mQ s1) hn i7 s1 g6) fun σ H Q hw=>?_;obtain⟨δ,T,rr,δ',E,e,k⟩:=hw;obtain⟨⟨os,δ1⟩,h1,e⟩:=fY e;obtain⟨ds,h2,e⟩:=fY e;obtain⟨zz,h3,e⟩:=fY e;obtain⟨rfl,rfl⟩:=gH e;refine⟨δ,T,os,δ1,E,h1,fun vs H1 T1 B=>?_⟩;unfold gRg at h3;split at h3
  ·obtain⟨hl,_⟩:=lG h2;have:=len2 h1;simp at hl;omega
  ·rename_i i j;obtain⟨ok,rfl⟩:=gR h3;refine⟨i,j,xZ B h2 (is:=[i,j]) rfl,fun r hr=>⟨r,i,j,rfl,gQ,ok,fun l hl=>?_⟩⟩;have hx: ∀a u,H1 a=some u->upd (upd H1 r (.rng i j)) l (.lst (rgV i j)) a=some u:=fun a u e=>kJ hl a u (kJ hr a u e);exact(B.done k) l _ (Ab hl) hx ⟨rgV i j,gQ,Dv i j⟩
  ·cases h3
 ·refine PX.imp (nk (wc hc) hg hm hv (jY (nk xJ dU cg yG ha (by decide) (by decide) s2 br) mQ s1) hn i7 s1 g6) fun σ H Q hw=>?_;obtain⟨δ,T,rr,δ',E,e,k⟩:=hw;obtain⟨⟨os,δ1⟩,h1,e⟩:=fY e;obtain⟨ds,h2,e⟩:=fY e;obtain⟨zz,h3,e⟩:=fY e;obtain⟨rfl,rfl⟩:=gH e;refine⟨δ,T,os,δ1,E,h1,fun vs H1 T1 B=>?_⟩;unfold gRg at h3;split at h3
  ·obtain⟨hl,_⟩:=lG h2;have:=len2 h1;simp at hl;omega
  ·rename_i i j;obtain⟨ok,rfl⟩:=gR h3;refine⟨i,j,xZ B h2 (is:=[i,j]) rfl,fun r hr=>⟨r,i,j,rfl,gQ,ok,fun l hl=>?_⟩⟩;have hx: ∀a u,H1 a=some u->upd (upd H1 r (.rng i j)) l (.tup (rgV i j)) a=some u:=fun a u e=>kJ hl a u (kJ hr a u e);exact(B.done k) _ _ hx (Rep.mkTup ⟨gQ,B.np (nOw (Ab hl))⟩ (Dv i j))
  ·cases h3
end
def Src(h:gz)(it l:fZ)(i:Nat)(xs:jI):Prop:=(h.IsListIter it l i/\h.IsList l xs)\/(h.IsTupleIter it l i/\h.IsTuple l xs)
section
variable {prog:gC}{w:gy}{A:gB}{E:gU}{s:gi}{it l:fZ}{i:Nat}{xs:jI}
theorem Src.ne(x:Src h it l i xs):l≠it:=by
 intro e;subst e;rcases x with⟨⟨o,h1,h2,h3⟩,o',g1,g2,n,g3⟩|⟨⟨o,h1,h2,h3⟩,o',g1,g2,n,g3⟩<;>(rw[h1] at g1;cases g1;rw[h3] at g3;cases g3)
theorem Src.lt(x:Src h it l i xs):it<h.objs.size/\l<h.objs.size:=by
 rcases x with⟨⟨o,h1,_⟩,o',g1,_⟩|⟨⟨o,h1,_⟩,o',g1,_⟩<;>exact⟨iC h1,iC g1⟩
theorem Src.keep(x:Src h it l i xs)(k1: ∀o,h.get? it=some o->h'.get? it=some o)(k2: ∀o,h.get? l=some o->h'.get? l=some o):Src h' it l i xs:=by
 rcases x with⟨⟨o,h1,r⟩,o',g1,r'⟩|⟨⟨o,h1,r⟩,o',g1,r'⟩
 ·exact .inl ⟨⟨o,k1 _ h1,r⟩,o',k2 _ g1,r'⟩
 ·exact .inr ⟨⟨o,k1 _ h1,r⟩,o',k2 _ g1,r'⟩
theorem uZ{x:gp}{Q:gU}(hit:s.heap.IsTupleIter it l i)(hl:s.heap.IsTuple l xs)(hx:xs[i]?=some x)
  (hQ: ∀h',h'.IsTupleIter it l (i+1)->Heap.SameBut it s.heap h'->Q x {s with heap:=h'}):wpAny (model prog w) A (Builtin.SmallTypes.nextOf (.ref it)) Q E s:=by
 obtain⟨o,ho,hc,hd⟩:=id hit;obtain⟨ol,eS,_,nl,aJ⟩:=hl;unfold Builtin.SmallTypes.nextOf;refine gk (sT (name:=Str.ofString "__next__") hit.typeIs yu (pM yu hit.typeIs FN ?_ (FL _)));refine gk (m:=field (.ref it) 0) (lY ho hd (x:= .ref l) rfl ?_);show wpAny _ _ (if(Value.ref l==Value.none)=true then _ else _) _ _ s;rw[gv (by show ¬(Value.ref l==Value.none)=true;exact iU)];refine gk (m:=field (.ref it) 1) (lY ho hd (x:= .int i 0) rfl ?_);refine gk (m:=seqItems? (.ref l)) (sN eS aJ ?_);simp only[uO,hx];refine gk (yt ho hd (by simp) (gF ⟨x,rfl,gF (hQ _ ⟨_,uN _ ho (FK (yq hd _)),(Obj.cls_mapFields ..).trans hc,?_⟩ (uv ..))⟩));rw[yq hd];simp[rawInt]
theorem wx{Q:gU}(hh:A.handled=none)(hit:s.heap.IsTupleIter it l i)(hl:s.heap.IsTuple l xs)(hx:xs[i]?=none)
  (hE: ∀h' e,Heap.ExtBut it s.heap h'->(∃o,h'.get? e=some o/\o.cls= .type "StopIteration")->E (.ref e) {s with heap:=h'}):wpAny (model prog w) A (Builtin.SmallTypes.nextOf (.ref it)) Q E s:=by
 obtain⟨o,ho,hc,hd⟩:=id hit;obtain⟨ol,eS,_,nl,aJ⟩:=hl;unfold Builtin.SmallTypes.nextOf;refine gk (sT (name:=Str.ofString "__next__") hit.typeIs yu (pM yu hit.typeIs FN ?_ (FL _)));refine gk (m:=field (.ref it) 0) (lY ho hd (x:= .ref l) rfl ?_);show wpAny _ _ (if(Value.ref l==Value.none)=true then _ else _) _ _ s;rw[gv (by show ¬(Value.ref l==Value.none)=true;exact iU)];refine gk (m:=field (.ref it) 1) (lY ho hd (x:= .int i 0) rfl ?_);refine gk (m:=seqItems? (.ref l)) (sN eS aJ ?_);simp only[uO,hx];refine gk (qz (gk (yt ho hd (by simp) ?_)));refine gk (m:=newExc (.type "StopIteration") []) ?_;simp only[newExc,newTuple];refine gk (mD (gk (m:=firstArgMember _ _) (Bz (a:=Value.none) (by first|rfl|(simp only[firstArgMember];rfl)) ?_)) (by size_fits));refine mD ?_ (by size_fits);simp only[raiseNew];refine gk (wpAny_handled ?_)
 first|rw[show A.in1.handled=none from hh]|rw[hh]
 exact gk (gF (wpAny_throw (hE _ _ (((uv ..).extBut.push _).push _) ⟨_,jx _ rfl,rfl⟩)))
theorem Src.item{x:gp}{Q:gU}(st:Src s.heap it l i xs)(hx:xs[i]?=some x)(hQ: ∀h',Src h' it l (i+1) xs->Heap.SameBut it s.heap h'->Q x {s with heap:=h'}):
  wpAny (model prog w) A (Builtin.SmallTypes.nextOf (.ref it)) Q E s:=by
 have ne:=st.ne;rcases st with⟨a,b⟩|⟨a,b⟩
 ·exact wpAny_nextOf_list_item a b hx fun h' a' sb=>hQ h' (.inl ⟨a',b.extBut sb.extBut ne⟩) sb
 ·exact uZ a b hx fun h' a' sb=>hQ h' (.inr ⟨a',b.extBut sb.extBut ne⟩) sb
theorem Src.stop{Q:gU}(hh:A.handled=none)(st:Src s.heap it l i xs)(hx:xs[i]?=none)
  (hE: ∀h' e,Heap.ExtBut it s.heap h'->(∃o,h'.get? e=some o/\o.cls= .type "StopIteration")->E (.ref e) {s with heap:=h'}):wpAny (model prog w) A (Builtin.SmallTypes.nextOf (.ref it)) Q E s:=by
 rcases st with⟨a,b⟩|⟨a,b⟩
 ·exact wpAny_nextOf_list_end hh a b hx hE
 ·exact wx hh a b hx hE
theorem Src.new(hl:s.heap.IsList l xs\/s.heap.IsTuple l xs)(hQ: ∀h',Src h' s.heap.objs.size l 0 xs->h'.objs.size=s.heap.objs.size+1->(∀b o,s.heap.get? b=some o->h'.get? b=some o)->Q (.ref s.heap.objs.size) {s with heap:=h'}):
  wpAny (model prog w) A (pyIter (.ref l)) Q E s:=by
 rcases hl with hl|hl
 ·exact BV hl (hQ _ (.inl ⟨⟨_,jx _ rfl,rfl,rfl⟩,hl.push _⟩) (qv ..) fun b o e=>iM _ e)
 ·exact wpAny_pyIter_tuple hl (hQ _ (.inr ⟨⟨_,jx _ rfl,rfl,rfl⟩,hl.push _⟩) (qv ..) fun b o e=>iM _ e)
end
section
variable {prog:gC}{w:gy}{A:gB}{E:gU}{s:gi}{e it l:fZ}{i:Nat}{c:Int}{xs:jI}
end
section
variable {X:Cx}{pins:gO}{σ:L2.St}{H:Hp}{s:gi}{h':gz}
theorem En{t':Nat}{ch:iW}{a:fZ}{o:HO}(I:Inv X pins σ H s)(hf: ∀b∈ch,oR X pins H b)(k: ∀b u,b∉ch->s.heap.get? b=some u->h'.get? b=some u)(ha:s.heap.objs.size<=a)(new:ObjOk X.prog X.w (upd H a o) h' a o):
  Inv X pins σ (upd H a o) {s with heap:=h',toks:=t'}:=by
 have hn:=I.hok.fresh ha;have aA: ∀b u,H b=some u->b∉ch:=fun b u e z=>by have:=(hf b z).1;rw[this] at e;cases e
 have up: ∀b u,H b=some u->upd H a o b=some u:=fun b u e=>by rw[gK (jv e hn)];exact e
 have fr: ∀b u,s.heap.get? b=some u->H b=none->upd H a o b=none:=fun b u e n=>by
  rw[gK (fun z=>by subst z;exact absurd (iC e) (I9.mpr ha))];exact n
 refine I.step (g':=s.gens) (d':=s.drawn) (ch:=ch) (fun b hb=>?_) (fun b u _ _ hc e _=>k b u hc e) (fun b u _ _ hc e _=>⟨u.slots,k b u hc e⟩) (fun b u _ e n=>fr b u e n)
  (fun b u hc e=>⟨u,k b u hc e⟩) (fun b xs e=>up b _ e) (fun b _ _ e=>up b _ e) (fun b ps e=>⟨#[],by rw[up b _ e];simp⟩) (fun m hm=>?_) (fun b u e=>?_) I.bare
 ·obtain⟨_,f1,f2,f3,f4,f5⟩:=hf b hb;exact⟨f3,f1,f4,f5⟩
 ·obtain⟨u,es,ep,ho,r⟩:=hm;exact⟨u,es,ep,k _ u (fun z=>(hf _ z).2.1 rfl) ho,r⟩
 ·by_cases hb:b=a
  ·subst hb;rw[gQ] at e;cases e;exact new
  ·rw[gK hb] at e;refine(I.hok b u e).stay (fun c v hc q=>k c v ?_ q) (fun c q=>up c _ q) (fun c xs q=>up c _ q) fun c _ _ q=>up c _ q;rcases hc with z|z
   ·rw[z];exact aA b u e
   ·exact aA c _ z
theorem Eo{t':Nat}{ch:iW}(I:Inv X pins σ H s)(hf: ∀b∈ch,oR X pins H b)(k: ∀b u,b∉ch->s.heap.get? b=some u->h'.get? b=some u):Inv X pins σ H {s with heap:=h',toks:=t'}:=by
 have aA: ∀b u,H b=some u->b∉ch:=fun b u e z=>by have:=(hf b z).1;rw[this] at e;cases e
 refine I.step (g':=s.gens) (d':=s.drawn) (ch:=ch) (fun b hb=>?_) (fun b u _ _ hc e _=>k b u hc e) (fun b u _ _ hc e _=>⟨u.slots,k b u hc e⟩) (fun b u _ e n=>n)
  (fun b u hc e=>⟨u,k b u hc e⟩) (fun b xs e=>e) (fun b _ _ e=>e) (fun b ps e=>⟨#[],by rw[e];simp⟩) (fun m hm=>?_) (fun b u e=>?_) I.bare
 ·obtain⟨_,f1,f2,f3,f4,f5⟩:=hf b hb;exact⟨f3,f1,f4,f5⟩
 ·obtain⟨u,es,ep,ho,r⟩:=hm;exact⟨u,es,ep,k _ u (fun z=>(hf _ z).2.1 rfl) ho,r⟩
 ·refine(I.hok b u e).stay (fun c v hc q=>k c v ?_ q) (fun c q=>q) fun c xs q=>q;rcases hc with z|z
  ·rw[z];exact aA b u e
  ·exact aA c _ z
end
def SqX(b:Bool)(K:gA)(H:Hp)(l:fZ)(xs:List V):Prop:=if b=true then SqL K H l xs else SqT K H l xs
def ItX(b:Bool)(h:gz)(it l:fZ)(i:Nat):Prop:=if b=true then h.IsListIter it l i else h.IsTupleIter it l i
theorem ItX.keep(x:ItX b h it l i)(k: ∀o,h.get? it=some o->h'.get? it=some o):ItX b h' it l i:=by
 cases b
 ·exact PySem.Heap.IsTupleIter.at (show h.IsTupleIter it l i from x) k
 ·exact PySem.Heap.IsListIter.at (show h.IsListIter it l i from x) k
theorem ItX.obj(x:ItX b h it l i): ∃o,h.get? it=some o/\ ∀v,o.data≠ .cell v:=by
 cases b<;>(obtain⟨o,e,c,d⟩:=x;exact⟨o,e,fun v z=>by rw[d] at z;cases z⟩)
section
variable {X:Cx}{pins:gO}{σ:L2.St}{H:Hp}{s:gi}
theorem uc(I:Inv X pins σ H s)(q:SqX b X.K H l xs)(t:ItX b s.heap it l i): ∃its,Vals xs its/\Src s.heap it l i its.toArray:=by
 cases b with
 |true=>obtain⟨its,v,p,_⟩:=I.list q;exact⟨its,v,.inl ⟨t,p.isList⟩⟩
 |false=>obtain⟨its,v,p,_⟩:=I.tuple q;exact⟨its,v,.inr ⟨t,p⟩⟩
theorem Dp(I:Inv X pins σ H s)(q:SqX b X.K H l xs)(q':SqX b X.K H l ys):xs=ys:=by
 cases b with
 |true=>exact I.list_inj q q'
 |false=>exact I.tuple_inj q q'
theorem HZ(t:ItX b h it l i)(hs:Src h it l i xs)(bj:Src h' it l i' xs)(kl: ∀o,h.get? l=some o->h'.get? l=some o):ItX b h' it l i':=by
 cases b with
 |true=>
  rcases bj with⟨a,_⟩|⟨a,c⟩
  ·exact a
  ·rcases hs with⟨_,o,h1,h2,_⟩|⟨⟨o,h1,h2,_⟩,_⟩
   ·obtain⟨o',g1,g2,_⟩:=c;rw[kl _ h1] at g1;cases g1;rw[h2] at g2;injection g2 with g2;exact absurd g2 (by decide)
   ·obtain⟨o',g1,g2,_⟩:=t;rw[h1] at g1;cases g1;rw[h2] at g2;injection g2 with g2;exact absurd g2 (by decide)
 |false=>
  rcases bj with⟨a,c⟩|⟨a,_⟩
  ·rcases hs with⟨⟨o,h1,h2,_⟩,_⟩|⟨_,o,h1,h2,_⟩
   ·obtain⟨o',g1,g2,_⟩:=t;rw[h1] at g1;cases g1;rw[h2] at g2;injection g2 with g2;exact absurd g2 (by decide)
   ·obtain⟨o',g1,g2,_⟩:=c;rw[kl _ h1] at g1;cases g1;rw[h2] at g2;injection g2 with g2;exact absurd g2 (by decide)
  ·exact a
end
theorem B9{K H}(q:SqA b K H P a xs):SqX b K H a xs:=by
 cases b with
 |true=>exact q.l
 |false=>exact q.t
open AutoSeq1 (wpAny_loadPart')
section
variable {prog:gC}{w:gy}{A:gB}{E:gU}{s:gi}
end
section
variable {X:Cx}{pins:gO}{σ:L2.St}{H:Hp}{s:gi}{elts:iL}{k1:Nat}{y8:Pos}
theorem GF(I:Inv X pins σ H s)(q:SqX b X.K H l xs): ∃its,Vals xs its/\(s.heap.IsList l its.toArray\/s.heap.IsTuple l its.toArray):=by
 cases b with
 |true=>obtain⟨its,v,p,_⟩:=I.list q;exact⟨its,v,.inl p.isList⟩
 |false=>obtain⟨its,v,p,_⟩:=I.tuple q;exact⟨its,v,.inr p⟩
end
section
variable {prog:gC}{w:gy}{A:gB}{E:gU}{s:gi}{z TI TO i1 i2 l1 l2:fZ}{k:Nat}{xs ys:jI}{x y a b:gp}
theorem Gf{Q:gU}(D:ZipApart z TI TO i1 i2 l1 l2)(hz:IsZip s.heap z TI TO .none)(o8:IsPair s.heap TI (.ref i1) (.ref i2))(t9:IsPair s.heap TO a b)(h1:Src s.heap i1 l1 k xs)(h2:Src s.heap i2 l2 k ys)(hx:xs[k]?=some x)(hy:ys[k]?=some y)
  (hQ: ∀h',IsZip h' z TI TO (rawInt s.heap.objs.size)->IsPair h' TO x y->Src h' i1 l1 (k+1) xs->Src h' i2 l2 (k+1) ys->IsPair h' s.heap.objs.size x y->(∀c o,c≠z->c≠TO->c≠i1->c≠i2->s.heap.get? c=some o->h'.get? c=some o)->Q (.ref s.heap.objs.size) {s with heap:=h'}):
  wpAny (model prog w) A (Builtin.«zip.__next__» ⟨[.ref z],[]⟩) (fun fin s'=> ∃v,fin= .done (.ret v)/\Q v s') E s:=by
 refine gk (m:=field (.ref z) 2) (lY hz rfl (x:= .bool false) rfl (gk (m:=field (.ref z) 3) (lY hz rfl (x:= .ref TI) rfl (gk (sN o8 rfl (gk (m:=Builtin.SmallTypes.ownedTupleIsFree (.ref z)) ?_))))));unfold Builtin.SmallTypes.ownedTupleIsFree;refine gk (lY hz rfl (x:= .none) rfl (gF ?_));simp only[hV];refine gk (qz (gk (lY hz rfl (x:= .ref TO) rfl (gk (rE hz (by simp) fun h₁ bJ w6=>?_)))));replace bJ:IsZip h₁ z TI TO .ellipsis:=bJ;refine gk ?_;simp only[List.zipIdx_cons,List.zipIdx_nil,uM,List.forIn_nil];have c1:Src h₁ i1 l1 k xs:=h1.keep (fun o e=>w6.extBut _ o D.i1z e) (fun o e=>w6.extBut _ o D.l1z e);refine gk (gk (rC (gk (m:=Builtin.SmallTypes.nextOf (.ref i1)) (c1.item (s:={s with heap:=h₁}) hx fun h₂ c1₂ w5=>gF ?_))));have aM:IsPair h₂ TO a b:=w5.extBut _ _ D.TOi1 (w6.extBut _ _ D.TOz t9);refine gk (sN (s:={s with heap:=h₂}) aM rfl (gk (By (s:={s with heap:=h₂}) aM fun h₃ bF v9=>gk (yp (gF ?_)))));replace bF:IsPair h₃ TO x b:=bF;have c2:Src h₃ i2 l2 k ys:=h2.keep (fun o e=>v9.extBut _ o D.TOi2.symm (w5.extBut _ o D.i12.symm (w6.extBut _ o D.i2z e))) (fun o e=>v9.extBut _ o D.l2TO (w5.extBut _ o D.l2i1 (w6.extBut _ o D.l2z e)));refine gk (gk (rC (gk (m:=Builtin.SmallTypes.nextOf (.ref i2)) (c2.item (s:={s with heap:=h₃}) hy fun h₄ c2₄ ba=>gF ?_))));have hTO₄:IsPair h₄ TO x b:=ba.extBut _ _ D.TOi2 bF;refine gk (sN (s:={s with heap:=h₄}) hTO₄ rfl (gk (By (s:={s with heap:=h₄}) hTO₄ fun h₅ bD aS=>gk (yp (gF (gF ?_))))));replace bD:IsPair h₅ TO x y:=bD;refine gk (sN (s:={s with heap:=h₅}) bD rfl (gk (Bx (s:={s with heap:=h₅}) ?_)));have hsz:h₅.objs.size=s.heap.objs.size:=by rw[aS.1,ba.1,v9.1,w5.1,w6.1]
 have hz₅:IsZip h₅ z TI TO .ellipsis:=aS.extBut _ _ D.TOz.symm (ba.extBut _ _ D.i2z.symm (v9.extBut _ _ D.TOz.symm (w5.extBut _ _ D.i1z.symm bJ)));have hk₅: ∀c o,c≠z->c≠TO->c≠i1->c≠i2->s.heap.get? c=some o->h₅.get? c=some o:=fun c o d1 d2 d3 d4 e=>aS.extBut _ _ d2 (ba.extBut _ _ d4 (v9.extBut _ _ d2 (w5.extBut _ _ d3 (w6.extBut _ _ d1 e))));have c1₅:Src h₅ i1 l1 (k+1) xs:=c1₂.keep (fun o e=>aS.extBut _ o D.TOi1.symm (ba.extBut _ o D.i12 (v9.extBut _ o D.TOi1.symm e))) (fun o e=>aS.extBut _ o D.l1TO (ba.extBut _ o D.l1i2 (v9.extBut _ o D.l1TO e)));have c2₅:Src h₅ i2 l2 (k+1) ys:=c2₄.keep (fun o e=>aS.extBut _ o D.TOi2.symm e) (fun o e=>aS.extBut _ o D.l2TO e);have hzlt:z<h₅.objs.size:=iC hz₅;refine gk (m:=Builtin.SmallTypes.ownedTupleHandOut (.ref z) (.ref h₅.objs.size)) ?_;unfold Builtin.SmallTypes.ownedTupleHandOut;have hz₆:IsZip (h₅.push {cls:= .type "tuple",data:= .seq #[x,y]}) z TI TO .ellipsis:=iM _ hz₅;refine gk (rE (s:={s with heap:=h₅.push {cls:= .type "tuple",data:= .seq #[x,y]}}) hz₆ (by simp) fun h₇ eJ sb₇=>?_);replace eJ:IsZip h₇ z TI TO (rawInt h₅.objs.size):=eJ;refine rE (s:={s with heap:=h₇}) eJ (by simp) fun h₈ dH sb₈=>?_;replace dH:IsZip h₈ z TI TO (rawInt h₅.objs.size):=dH;have up: ∀c o,c≠z->h₅.get? c=some o->h₈.get? c=some o:=fun c o d1 e=>sb₈.extBut _ _ d1 (sb₇.extBut _ _ d1 (iM _ e));have hT₈:IsPair h₈ h₅.objs.size x y:=sb₈.extBut _ _ (mC hzlt) (sb₇.extBut _ _ (mC hzlt) (jx _ rfl));rw[hsz] at dH hT₈;refine gF ⟨_,rfl,?_⟩;show Q (.ref h₅.objs.size) _;rw[hsz];exact hQ h₈ dH (up _ _ D.TOz bD) (c1₅.keep (fun o e=>up _ o D.i1z e) fun o e=>up _ o D.l1z e) (c2₅.keep (fun o e=>up _ o D.i2z e) fun o e=>up _ o D.l2z e) hT₈ fun c o d1 d2 d3 d4 e=>up c o d1 (hk₅ c o d1 d2 d3 d4 e)
theorem Ge{Q:Fin->Shared->Prop}(hh:A.handled=none)(D:ZipApart z TI TO i1 i2 l1 l2)(hz:IsZip s.heap z TI TO .none)(o8:IsPair s.heap TI (.ref i1) (.ref i2))(t9:IsPair s.heap TO a b)(h1:Src s.heap i1 l1 k xs)(h2:Src s.heap i2 l2 k ys)(n9:xs[k]?=none\/ys[k]?=none)
  (hE: ∀h' e,(∀c o,c≠z->c≠TO->c≠i1->c≠i2->s.heap.get? c=some o->h'.get? c=some o)->(∃o,h'.get? e=some o/\o.cls= .type "StopIteration")->E (.ref e) {s with heap:=h'}):wpAny (model prog w) A (Builtin.«zip.__next__» ⟨[.ref z],[]⟩) Q E s:=by
 have notzip: ∀{h:gz} {e:fZ} {oe:Obj} {f0:gp},IsZip h z TI TO f0->h.get? e=some oe->oe.cls= .type "StopIteration"->e≠z:=fun hzz bZ bA q=>by
  subst q;have hzz':_=_:=hzz;rw[bZ] at hzz';cases hzz';injection bA with bA;exact absurd bA (by decide)
 refine gk (m:=field (.ref z) 2) (lY hz rfl (x:= .bool false) rfl (gk (m:=field (.ref z) 3) (lY hz rfl (x:= .ref TI) rfl (gk (sN o8 rfl (gk (m:=Builtin.SmallTypes.ownedTupleIsFree (.ref z)) ?_))))));unfold Builtin.SmallTypes.ownedTupleIsFree;refine gk (lY hz rfl (x:= .none) rfl (gF ?_));simp only[hV];refine gk (qz (gk (lY hz rfl (x:= .ref TO) rfl (gk (rE hz (by simp) fun h₁ bJ w6=>?_)))));replace bJ:IsZip h₁ z TI TO .ellipsis:=bJ;refine gk ?_;simp only[List.zipIdx_cons,List.zipIdx_nil,uM,List.forIn_nil];have c1:Src h₁ i1 l1 k xs:=h1.keep (fun o e=>w6.extBut _ o D.i1z e) (fun o e=>w6.extBut _ o D.l1z e)
 cases hx:xs[k]? with
 |none=>
  refine gk (gk (rC (gk (m:=Builtin.SmallTypes.nextOf (.ref i1)) (c1.stop (s:={s with heap:=h₁}) hh hx fun h₂ e w5 ⟨oe,bZ,bA⟩=>?_))));have hz₂:IsZip h₂ z TI TO .ellipsis:=w5 _ _ D.i1z.symm bJ;exact rE (s:={s with heap:=h₂}) hz₂ (by simp) fun h₃ _ v9=>hE h₃ e (fun c o d1 _ d3 _ q=>v9.extBut _ _ d1 (w5 _ _ d3 (w6.extBut _ _ d1 q))) ⟨oe,v9.extBut _ _ (notzip hz₂ bZ bA) bZ,bA⟩
 |some x=>
  have hy:ys[k]?=none:=by rcases n9 with h|h;rw[hx] at h;cases h;exact h
  refine gk (gk (rC (gk (m:=Builtin.SmallTypes.nextOf (.ref i1)) (c1.item (s:={s with heap:=h₁}) hx fun h₂ c1₂ w5=>gF ?_))));have aM:IsPair h₂ TO a b:=w5.extBut _ _ D.TOi1 (w6.extBut _ _ D.TOz t9);refine gk (sN (s:={s with heap:=h₂}) aM rfl (gk (By (s:={s with heap:=h₂}) aM fun h₃ bF v9=>gk (yp (gF ?_)))));have c2:Src h₃ i2 l2 k ys:=h2.keep (fun o e=>v9.extBut _ o D.TOi2.symm (w5.extBut _ o D.i12.symm (w6.extBut _ o D.i2z e))) (fun o e=>v9.extBut _ o D.l2TO (w5.extBut _ o D.l2i1 (w6.extBut _ o D.l2z e)));refine gk (gk (rC (gk (m:=Builtin.SmallTypes.nextOf (.ref i2)) (c2.stop (s:={s with heap:=h₃}) hh hy fun h₄ e ba ⟨oe,bZ,bA⟩=>?_))));have hz₄:IsZip h₄ z TI TO .ellipsis:=ba _ _ D.i2z.symm (v9.extBut _ _ D.TOz.symm (w5.extBut _ _ D.i1z.symm bJ));exact rE (s:={s with heap:=h₄}) hz₄ (by simp) fun h₅ _ aS=>hE h₅ e (fun c o d1 d2 d3 d4 q=>aS.extBut _ _ d1 (ba _ _ d4 (v9.extBut _ _ d2 (w5.extBut _ _ d3 (w6.extBut _ _ d1 q))))) ⟨oe,aS.extBut _ _ (notzip hz₄ bZ bA) bZ,bA⟩
theorem Cf{Q:Fl}(D:ZipApart z TI TO i1 i2 l1 l2)(hz:IsZip s.heap z TI TO .none)(o8:IsPair s.heap TI (.ref i1) (.ref i2))(t9:IsPair s.heap TO a b)(h1:Src s.heap i1 l1 k xs)(h2:Src s.heap i2 l2 k ys)(hx:xs[k]?=some x)(hy:ys[k]?=some y)
  (hQ: ∀h',IsZip h' z TI TO (rawInt s.heap.objs.size)->IsPair h' TO x y->Src h' i1 l1 (k+1) xs->Src h' i2 l2 (k+1) ys->IsPair h' s.heap.objs.size x y->(∀c o,c≠z->c≠TO->c≠i1->c≠i2->s.heap.get? c=some o->h'.get? c=some o)->Q (some (.ref s.heap.objs.size)) {s with heap:=h'}):
  wpAny (model prog w) A (pyNext (.ref z)) Q E s:=by
 have hT:s.TypeIs (.ref z) "zip":=⟨_,hz,rfl⟩
 unfold pyNext
 exact gk (sM (sT (name:=Str.ofString "__next__") hT yo (pM yo hT F.entry_zip_next
  (Gf D hz o8 t9 h1 h2 hx hy fun h' a1 a2 a3 a4 a5 a6=>gF (hQ h' a1 a2 a3 a4 a5 a6)) (F.args_zip_next_1 _))))
theorem vq{Q:Fl}(hh:A.handled=none)(D:ZipApart z TI TO i1 i2 l1 l2)(hz:IsZip s.heap z TI TO .none)(o8:IsPair s.heap TI (.ref i1) (.ref i2))(t9:IsPair s.heap TO a b)(h1:Src s.heap i1 l1 k xs)(h2:Src s.heap i2 l2 k ys)(n9:xs[k]?=none\/ys[k]?=none)
  (hQ: ∀h',(∀c o,c≠z->c≠TO->c≠i1->c≠i2->s.heap.get? c=some o->h'.get? c=some o)->Q none {s with heap:=h'}):wpAny (model prog w) A (pyNext (.ref z)) Q E s:=by
 have hT:s.TypeIs (.ref z) "zip":=⟨_,hz,rfl⟩
 unfold pyNext
 exact gk (sM (sT (name:=Str.ofString "__next__") hT yo (pM yo hT F.entry_zip_next
  (Ge hh D hz o8 t9 h1 h2 n9 fun h' e hk ⟨o,ho,hc⟩=>gk (Bw (T:="StopIteration") (b:=true) ⟨o,ho,hc⟩ isSubtype_stop (gF (hQ _ hk)))) (F.args_zip_next_1 _))))
end
theorem Ja(l1 l2:fZ)(xs ys:jI):Meets (Builtin.«zip.__new__» ⟨[.type "zip",.ref l1,.ref l2],[]⟩) (fun _ R s=>(s.heap.IsList l1 xs\/s.heap.IsTuple l1 xs)/\(s.heap.IsList l2 ys\/s.heap.IsTuple l2 ys)/\
  ∀h1 h2,Src h1 s.heap.objs.size l1 0 xs->h1.objs.size=s.heap.objs.size+1->(∀b o,s.heap.get? b=some o->h1.get? b=some o)->Src h2 h1.objs.size l2 0 ys->h2.objs.size=h1.objs.size+1->(∀b o,h1.get? b=some o->h2.get? b=some o)->
   R (.ok (.ret (.ref ((h2.push {cls:= .type "tuple",data:= .seq #[.ref s.heap.objs.size,.ref h1.objs.size]}).push {cls:= .type "tuple",data:= .seq #[.none,.none]}).objs.size)))
    {s with heap:=((h2.push {cls:= .type "tuple",data:= .seq #[.ref s.heap.objs.size,.ref h1.objs.size]}).push {cls:= .type "tuple",data:= .seq #[.none,.none]}).push {cls:= .type "zip",data:= .fields #[.none,.bool false,.bool false,.ref h2.objs.size,.ref (h2.push {cls:= .type "tuple",data:= .seq #[.ref s.heap.objs.size,.ref h1.objs.size]}).objs.size]}}):=
 .of_wp fun prog w A R s h=>by
  obtain⟨hp,g,d,tk,os⟩:=s;obtain⟨bt,u9,h⟩:=h;have hsub:=sub_zip
  wp_walk using Src.new bt
  intro h1 a1 a2 a3
  have hl2':h1.IsList l2 ys\/h1.IsTuple l2 ys:=by
   rcases u9 with⟨o,e,r⟩|⟨o,e,r⟩
   ·exact .inl ⟨o,a3 _ _ e,r⟩
   ·exact .inr ⟨o,a3 _ _ e,r⟩
  wp_walk using Src.new (s:=⟨h1,g,d,tk,os⟩) hl2'
  intro h2 b1 b2 b3
  wp_walk
  exact⟨_,rfl,h h1 h2 a1 a2 a3 b1 b2 b3⟩
noncomputable def ItZ(b1 b2:Bool)(K:gA)(l1 l2:fZ):It:=⟨fun i H=> ∃xs ys x y,SqX b1 K H l1 xs/\SqX b2 K H l2 ys/\xs[i]?=some x/\ys[i]?=some y,
 fun i H x H'=> ∃(T:fZ) (u v:V),x= .ref T/\H T=none/\H'=upd H T (.tup [u,v])/\ ∀xs ys,SqX b1 K H l1 xs->SqX b2 K H l2 ys->xs[i]?=some u/\ys[i]?=some v,
 fun i H=> ∃xs ys,SqX b1 K H l1 xs/\SqX b2 K H l2 ys/\(xs.length<=i\/ys.length<=i)⟩
structure ZA(z TI TO i1 i2:fZ):Prop where
 a1:TI≠z
 a2:TO≠z
 a3:i1≠z
 a4:i2≠z
 a5:TI≠TO
 a6:TI≠i1
 a7:TI≠i2
 a8:TO≠i1
 a9:TO≠i2
 a10:i1≠i2
theorem qC{b:Bool}{K:gA}{H:Hp}{l:fZ}{xs:List V}{X:Cx}{pins:gO}{σ:L2.St}{s:gi}(I:Inv X pins σ H s)(hK:X.K=K)(q:SqX b K H l xs){fp:iW}(hf: ∀a∈fp,oR X pins H a):l∉fp:=by
 subst hK;intro hm;have hn:=(hf l hm).1
 have base: ∀o,X.K.lookup l=some o->False:=fun o e=>by
  have e1:=I.mod.kin l o e;rcases(hf l hm).2.2.2.1 with z|z
  ·exact I.ok.noex l o e1 z
  ·have:=(I.ok.bs l o e1).1;exact absurd (iC this) (I9.mpr z)
 cases b with
 |true=>
  rcases q with(q|⟨o,q⟩)|⟨o,its,n,e,_⟩
  ·rw[hn] at q;cases q
  ·rw[hn] at q;cases q
  ·exact base o e
 |false=>
  rcases q with(q|⟨o,q⟩)|⟨o,its,n,e,_⟩
  ·rw[hn] at q;cases q
  ·rw[hn] at q;cases q
  ·exact base o e
theorem Gu{P:gC}{w:gy}{K:gA}{elts:iL}{k1}{pos:Pos}(b1 b2:Bool)(z TI TO i1 i2 l1 l2:fZ)(D:ZA z TI TO i1 i2):
  Turn P w K (.Tuple elts k1 pos) (ItZ b1 b2 K l1 l2) [z,TI,TO,i1,i2] z (fun i h=>IsZip h z TI TO .none/\IsPair h TI (.ref i1) (.ref i2)/\(∃a b,IsPair h TO a b)/\ItX b1 h i1 l1 i/\ItX b2 h i2 l2 i) where
 mem:=by simp
 obj:=fun i h st a ha=>by
  obtain⟨hz,o8,⟨u,v,t9⟩,s1,s2⟩:=st;simp only[kb,kP,nW] at ha;rcases ha with rfl|rfl|rfl|rfl|rfl
  ·exact⟨_,hz,fun v e=>by have e':Data.fields _=Data.cell v:=e;cases e'⟩
  ·exact⟨_,o8,fun v e=>by have e':Data.seq _ _=Data.cell v:=e;cases e'⟩
  ·exact⟨_,t9,fun v e=>by have e':Data.seq _ _=Data.cell v:=e;cases e'⟩
  ·exact s1.obj
  ·exact s2.obj
 keep:=fun i h h' st k=>by
  obtain⟨hz,o8,⟨u,v,t9⟩,s1,s2⟩:=st;exact⟨k z (by simp) _ hz,k TI (by simp) _ o8,⟨u,v,k TO (by simp) _ t9⟩,s1.keep fun o q=>k i1 (by simp) o q,s2.keep fun o q=>k i2 (by simp) o q⟩
 item:=by
  intro X hP hw hK hc i pins s σ H E I hf st hg;obtain⟨hz,o8,⟨a0,b0,t9⟩,s1,s2⟩:=st;obtain⟨xs,ys,x,y,bp,bo,hx,hy⟩:=hg;have n1:=qC I hK bp hf;have n2:=qC I hK bo hf;simp only[kb,kP,nW,not_or] at n1 n2;subst hP hw hK;obtain⟨bS,eC,ar⟩:=uc I bp s1;obtain⟨d6,eB,aq⟩:=uc I bo s2;obtain⟨u,hu,ru⟩:=eC.get hx;obtain⟨v,hv,rv⟩:=eB.get hy;have AP:ZipApart z TI TO i1 i2 l1 l2:=⟨D.a1,D.a2,D.a3,D.a4,D.a5,D.a6,D.a7,D.a8,D.a9,D.a10,n1.1,n1.2.2.1,n1.2.2.2.1,n1.2.2.2.2,n2.1,n2.2.2.1,n2.2.2.2.1,n2.2.2.2.2⟩
  refine Cf AP hz o8 t9 ar aq (x:=u) (y:=v) (by simpa using hu) (by simpa using hv) fun h' z' t1 c1 c2 hT kp=>⟨.ref s.heap.objs.size,rfl,?_⟩
  refine wpAny_letOwnedTupleGo_zip (s:={s with heap:=h'}) z' fun cB z'' sb=>?_;replace sb:Heap.SameBut z h' cB:=sb
  have cF: ∀a o,a∉[z,TI,TO,i1,i2]->s.heap.get? a=some o->cB.get? a=some o:=fun a o na q=>by
   simp only[kb,kP,nW,not_or] at na;exact sb.extBut a o na.1 (kp a o na.1 na.2.2.1 na.2.2.2.1 na.2.2.2.2 q)
  have lt: ∀{c o},s.heap.get? c=some o->s.heap.objs.size≠c:=fun e=>mC (iC e);have hT'':IsPair cB s.heap.objs.size u v:=sb.extBut _ _ (lt hz) hT
  have I1:Inv X pins σ (upd H s.heap.objs.size (.tup [x,y])) {s with heap:=cB}:=
   En (t':=s.toks) I hf cF (ig _) (show ObjOk X.prog X.w _ _ _ (.tup [x,y]) from⟨by show 2<=sizeLine;decide,[u,v],.cons ru (.cons rv .nil),_,hT'',rfl,0,rfl⟩)
  have t1'':ItX b1 cB i1 l1 (i+1):=HZ s1 ar (c1.keep (fun o q=>sb.extBut _ o D.a3 q) fun o q=>sb.extBut _ o n1.1 q) fun o q=>cF l1 o (by simp only[kb,kP,nW,not_or];exact n1) q;have t2'':ItX b2 cB i2 l2 (i+1):=HZ s2 aq (c2.keep (fun o q=>sb.extBut _ o D.a4 q) fun o q=>sb.extBut _ o n2.1 q) fun o q=>cF l2 o (by simp only[kb,kP,nW,not_or];exact n2) q;refine⟨.ref s.heap.objs.size,_,I1,rfl,⟨_,x,y,rfl,I.fresh,rfl,fun bG ys' q1 q2=>by rw[Dp I q1 bp,Dp I q2 bo];exact⟨hx,hy⟩⟩,⟨z'',sb.extBut _ _ D.a1 (kp _ _ D.a1 D.a5 D.a6 D.a7 o8),⟨u,v,sb.extBut _ _ D.a2 t1⟩,t1'',t2''⟩,fun a ha=>?_⟩;have n0:=(hf a ha).1;rw[gK]
  ·exact n0
  ·intro e;simp only[kb,kP,nW] at ha;rcases ha with rfl|rfl|rfl|rfl|rfl
   ·exact lt hz e.symm
   ·exact lt o8 e.symm
   ·exact lt t9 e.symm
   ·exact absurd e (iF ar.lt.1)
   ·exact absurd e (iF aq.lt.1)
 done:=by
  intro X hP hw hK hc i pins s σ H E I hf st hg;obtain⟨hz,o8,⟨a0,b0,t9⟩,s1,s2⟩:=st;obtain⟨xs,ys,bp,bo,n9⟩:=hg;have n1:=qC I hK bp hf;have n2:=qC I hK bo hf;simp only[kb,kP,nW,not_or] at n1 n2;subst hP hw hK;obtain⟨bS,eC,ar⟩:=uc I bp s1;obtain⟨d6,eB,aq⟩:=uc I bo s2;have e1:=eC.length;have e2:=eB.length;have AP:ZipApart z TI TO i1 i2 l1 l2:=⟨D.a1,D.a2,D.a3,D.a4,D.a5,D.a6,D.a7,D.a8,D.a9,D.a10,n1.1,n1.2.2.1,n1.2.2.2.1,n1.2.2.2.2,n2.1,n2.2.2.1,n2.2.2.2.1,n2.2.2.2.2⟩
  refine vq (I.ok.hd hc) AP hz o8 t9 ar aq (n9.imp (fun h=>by simp;omega) fun h=>by simp;omega) fun h' kp=>⟨rfl,Eo (t':=s.toks) I hf fun a o na q=>?_⟩
  simp only[kb,kP,nW,not_or] at na;exact kp a o na.1 na.2.2.1 na.2.2.2.1 na.2.2.2.2 q
 self:=fun _ _ _ _ _ st h=>wpAny_pyIter_zip st.1 h
theorem H9{K:gA}{P O:AP'}{H1:Hp}{a1 a2:fZ}{xs ys:List V}{ds es:List D}{b1 b2:Bool}(q1:SqA b1 K H1 P a1 xs)(r1:RepL K H1 O ds xs)(q2:SqA b2 K H1 P a2 ys)(r2:RepL K H1 O es ys)(hP: ∀a,P a->O a):
  ItOk K (ItZ b1 b2 K a1 a2) ((ds.zip es).map fun p=> .tup [p.1,p.2]) P O H1:=by
 have sq: ∀{b:Bool} {a:fZ} {xs:List V},SqA b K H1 P a xs-> ∀Hi,(∀a o,H1 a=some o-> ¬P a->Hi a=some o)->SqX b K Hi a xs:=fun q Hi hp=>B9 (q.mono hp fun _ z=>z);refine⟨fun i d Hi hd hp=>?_,fun i Hi hi hp=>⟨xs,ys,sq q1 Hi hp,sq q2 Hi hp,by rw[r1.length,r2.length];simp at hi;omega⟩⟩;rw[jd] at hd;obtain⟨⟨d1,d2⟩,h1,h2⟩:=hW hd;obtain⟨h3,h4⟩:=IY.mp h1;obtain⟨x,hx,rx⟩:=r1.get h3;obtain⟨y,hy,ry⟩:=r2.get h4;refine⟨⟨xs,ys,x,y,sq q1 Hi hp,sq q2 Hi hp,hx,hy⟩,fun v H' eL=>?_⟩;obtain⟨T,u,w,rfl,hT,rfl,hz⟩:=eL;obtain⟨g1,g2⟩:=hz xs ys (sq q1 Hi hp) (sq q2 Hi hp);rw[hx] at g1;cases g1;rw[hy] at g2;cases g2;have ext:=kJ (o:= .tup [x,y]) hT;refine⟨ext,fun O' h1 dr=>?_⟩;subst h2;exact Rep.mkTup ⟨gQ,dr T hT⟩ (RepL.cons (Rep.mono (fun b o e n=>ext b o (hp b o e fun z=>n (hP b z))) (fun b hb z=>h1 b hb z) rx) (RepL.cons (Rep.mono (fun b o e n=>ext b o (hp b o e fun z=>n (hP b z))) (fun b hb z=>h1 b hb z) ry) RepL.nil))
section
variable {X:Cx}{elts:iL}{k1:Nat}{y8:Pos}
theorem Ni:bootBuiltins "zip"=some (.type "zip"):=by decide+kernel
def Qv(K:gA)(ta:TA):TI:=fun σ H R=>ta σ H fun vs H1=> ∃b1 b2 l1 l2 xs ys,vs=[.ref l1,.ref l2]/\SqX b1 K H1 l1 xs/\SqX b2 K H1 l2 ys/\R (ItZ b1 b2 K l1 l2) H1
theorem DT(I:Inv X pins σ H s)(hq:SqX b X.K H l xs)(src:Src s.heap it l i its):ItX b s.heap it l i:=by
 cases b with
 |true=>
  rcases src with⟨a,_⟩|⟨_,o,h1,h2,_⟩
  ·exact a
  ·obtain⟨_,_,p,_⟩:=I.list hq;obtain⟨o',g1,g2,_⟩:=p.isList;rw[h1] at g1;cases g1;rw[h2] at g2;injection g2 with g2;exact absurd g2 (by decide)
 |false=>
  rcases src with⟨_,o,h1,h2,_⟩|⟨a,_⟩
  ·obtain⟨_,_,p,_⟩:=I.tuple hq;obtain⟨o',g1,g2,_⟩:=p;rw[h1] at g1;cases g1;rw[h2] at g2;injection g2 with g2;exact absurd g2 (by decide)
  ·exact a
theorem Mq{a b:gm}{ta:TA}{p pos:Pos}(hg:Gl X "zip")(hm:X.mg "zip"=none)(ha:PA X [a,b] ta)(hs:starEach [a,b] X.env=(false,eval a X.env)::starEach [b] X.env)(g6:(backTo pos (starEach [b] X.env)).any (·.1)=false):
  PI X (.Tuple elts k1 y8) (.Call (.Name "zip" p) [a,b] [] pos) (Qv X.K ta):=by
 intro pins s0 σ H0 R I0 h;refine sU (oH I0 hg hm Ni (yF (thn (ha pos pins s0 σ H0 _ I0 h) fun us s ⟨vs,H,I,r1,b1,b2,l1,l2,xs,ys,hv,bp,bo,q⟩=>?_) hs g6));subst hv;obtain⟨u,v,rfl,ru,rv⟩:=sY r1;cases ru;cases rv;obtain⟨bS,_,bt⟩:=GF I bp;obtain⟨d6,_,u9⟩:=GF I bo;refine callType_new F.called_zip (by decide) (F.typeCall_zip_2 _ _) (F.newCall_zip_2 _ _) (fun obj=>F.args_object_init_3 obj _ _) F.entry_zip_new (Ja l1 l2 bS.toArray d6.toArray) ⟨bt,u9,fun h1 h2 c1 z1 k1 c2 z2 k2=>?_⟩;generalize ho3:({cls:= .type "tuple",data:= .seq #[.ref s.heap.objs.size,.ref h1.objs.size]}:Obj)=o3;generalize ho4:({cls:= .type "tuple",data:= .seq #[.none,.none]}:Obj)=o4;have z3:(h2.push o3).objs.size=h2.objs.size+1:=qv ..;have z4:((h2.push o3).push o4).objs.size=h2.objs.size+2:=by rw[qv,z3]
 generalize ho5:({cls:= .type "zip",data:= .fields #[.none,.bool false,.bool false,.ref h2.objs.size,.ref (h2.push o3).objs.size]}:Obj)=o5;have g5:(((h2.push o3).push o4).push o5).get? ((h2.push o3).push o4).objs.size=some o5:=jx _ (by rw[<-ho5];rfl);have g4:(((h2.push o3).push o4).push o5).get? (h2.push o3).objs.size=some o4:=iM _ (jx _ (by rw[<-ho4];rfl));have g3:(((h2.push o3).push o4).push o5).get? h2.objs.size=some o3:=iM _ (iM _ (jx _ (by rw[<-ho3];rfl)));have kp: ∀c o,h2.get? c=some o->(((h2.push o3).push o4).push o5).get? c=some o:=fun c o e=>iM _ (iM _ (iM _ e));have bT:IsZip (((h2.push o3).push o4).push o5) ((h2.push o3).push o4).objs.size h2.objs.size (h2.push o3).objs.size .none:=by show _=_;rw[g5,<-ho5]
 have o8:IsPair (((h2.push o3).push o4).push o5) h2.objs.size (.ref s.heap.objs.size) (.ref h1.objs.size):=by show _=_;rw[g3,<-ho3]
 have t9:IsPair (((h2.push o3).push o4).push o5) (h2.push o3).objs.size .none .none:=by show _=_;rw[g4,<-ho4]
 have I1:Inv X pins σ H {s with heap:=((h2.push o3).push o4).push o5}:=I.kept (t':=s.toks) fun c o e=>kp c o (k2 c o (k1 c o e));have d1:=c1.keep (h':=((h2.push o3).push o4).push o5) (fun o e=>kp _ o (k2 _ o e)) (fun o e=>kp _ o (k2 _ o e));have d2:=c2.keep (h':=((h2.push o3).push o4).push o5) (fun o e=>kp _ o e) (fun o e=>kp _ o e);refine⟨⟨_,bT,rfl⟩,wpAny_pyIter_zip (s:={s with heap:=((h2.push o3).push o4).push o5}) bT ?_⟩;refine⟨((h2.push o3).push o4).objs.size,[((h2.push o3).push o4).objs.size,h2.objs.size,(h2.push o3).objs.size,s.heap.objs.size,h1.objs.size],_,_,H,rfl,I1,Gu b1 b2 _ _ _ _ _ l1 l2 ⟨?_,?_,?_,?_,?_,?_,?_,?_,?_,?_⟩,⟨bT,o8,⟨_,_,t9⟩,DT I1 bp d1,DT I1 bo d2⟩,fun a ha=>?_,q⟩
 ·rw[z4];exact iF (Nat.lt_add_of_pos_right (by decide))
 ·rw[z4,z3];exact iF (rH _)
 ·rw[z4,z2,z1];exact iF (by
   have:s.heap.objs.size<s.heap.objs.size+1+1+2:=by omega
   exact this)
 ·rw[z4,z2];exact iF (by
   have:h1.objs.size<h1.objs.size+1+2:=by omega
   exact this)
 ·rw[z3];exact iF (rH _)
 ·rw[z2,z1];exact mC (by
   have:s.heap.objs.size<s.heap.objs.size+1+1:=by omega
   exact this)
 ·rw[z2];exact mC (rH _)
 ·rw[z3,z2,z1];exact mC (by
   have:s.heap.objs.size<s.heap.objs.size+1+1+1:=by omega
   exact this)
 ·rw[z3,z2];exact mC (by
   have:h1.objs.size<h1.objs.size+1+1:=by omega
   exact this)
 ·rw[z1];exact iF (rH _)
 ·have le:s.heap.objs.size<=a:=by
   simp only[kb,kP,nW] at ha;rcases ha with rfl|rfl|rfl|rfl|rfl
   ·rw[z4,z2,z1];have:s.heap.objs.size<=s.heap.objs.size+1+1+2:=by omega
    exact this
   ·rw[z2,z1];have:s.heap.objs.size<=s.heap.objs.size+1+1:=by omega
    exact this
   ·rw[z3,z2,z1];have:s.heap.objs.size<=s.heap.objs.size+1+1+1:=by omega
    exact this
   ·exact ig _
   ·rw[z1];exact yz _
  exact I.fpOk le (I.hok.fresh le)
noncomputable def sv(f g:FO):FIt:=fun δ=>(f δ).bind fun p=>(g p.2).bind fun q=>(res q.2 p.1).bind fun x=>(res q.2 q.1).bind fun y=>(xb x).bind fun l=>(xb y).bind fun m=>some ((l.zip m).map fun p=> .tup [p.1,p.2],q.2)
theorem Hj{B:SB}{a b:gm}{f g:FO}{p pos:Pos}(hg:Gl X "zip")(hm:X.mg "zip"=none)(ha:PO X a f)(hb:PO X b g)(B1:SlB B f)(B2:SlB B g)(hs:starEach [a,b] X.env=(false,eval a X.env)::starEach [b] X.env)(m4:starEach [b] X.env=(false,eval b X.env)::starEach [] X.env)(g6:(backTo pos (starEach [b] X.env)).any (·.1)=false):
  PIX X B (.Tuple elts k1 y8) (.Call (.Name "zip" p) [a,b] [] pos) (sv f g):=PI.imp' (Mq hg hm (qI ha (qI hb za m4) hs) hs g6) fun σ H R hw=>by
 obtain⟨δ,T,ds,δ',E,e,k⟩:=hw;obtain⟨⟨o1,δ1⟩,h1,e⟩:=fY e;obtain⟨⟨o2,δ2⟩,h2,e⟩:=fY e;obtain⟨x,h3,e⟩:=fY e;obtain⟨y,h4,e⟩:=fY e;obtain⟨l,h5,e⟩:=fY e;obtain⟨m,h6,e⟩:=fY e;obtain⟨rfl,rfl⟩:=gH e;dsimp only at h2;refine⟨δ,T,[o1,o2],δ2,E,?_,fun vs H1 T1 W=>?_⟩
 ·simp only[iN,h1,h2,Option.bind]
 ·have hl:=W.len
  match vs,hl with
  |[v,u],_=>
   obtain⟨a1,xs,rfl,q1,rr1⟩:=W.seq E (j:=0) rfl rfl h3 h5 fun i hi=>B1 _ _ _ (hi▸h1);obtain⟨a2,ys,rfl,q2,rr2⟩:=W.seq E (j:=1) rfl rfl h4 h6 fun i hi=>B2 _ _ _ (hi▸h2);exact⟨_,_,a1,a2,xs,ys,rfl,B9 q1,B9 q2,k _ H1 W.keep (W.er.mono (fun _ _ e _=>e) (fun b _ z=>W.tt b z) (fun a z=>W.er.dom a (W.tt a z))) (H9 q1 rr1 q2 rr2 fun a z=>z.own)⟩
end
end PX
namespace TS
open PySem PyProof.Rows
section
variable(M:Model)(A:gB)(E:gU)(G:Shared->Prop){σ:Type}
def wpI{α:Type}(m:StateT σ Sem α)(Q:α->σ->Prop)(st:σ):Prop:= ∀s,G s->wpAny M A (m.run st) (fun r s'=>G s'/\Q r.1 r.2) E s
variable {M A E G}
theorem gh{α:Type}{a:α}{Q:α->σ->Prop}{st:σ}(h:Q a st):wpI M A E G (pure a:StateT σ Sem α) Q st:=fun s g=>by rw[Bv];exact gF ⟨g,h⟩
theorem gd{α β:Type}{m:StateT σ Sem α}{f:α->StateT σ Sem β}{Q:β->σ->Prop}{st:σ}(h:wpI M A E G m (fun a b7=>wpI M A E G (f a) Q b7) st):wpI M A E G (m>>=f) Q st:=fun s g=>by
 rw[StateT.run_bind];exact gk (lM (h s g) (fun r s' h'=>h'.2 s' h'.1) fun _ _ e=>e)
theorem gY{α:Type}{c:Prop}[Decidable c]{t e:StateT σ Sem α}{Q:α->σ->Prop}{st:σ}(h1:c->wpI M A E G t Q st)(h2: ¬c->wpI M A E G e Q st):wpI M A E G (if c then t else e) Q st:=by split<;>simp_all
theorem iz{α:Type}{m:StateT σ Sem α}{Q Q':α->σ->Prop}{st:σ}(h:wpI M A E G m Q st)(hq: ∀a b7,Q a b7->Q' a b7):wpI M A E G m Q' st:=fun s g=>lM (h s g) (fun r _ h'=>⟨h'.1,hq _ _ h'.2⟩) fun _ _ e=>e
theorem kI{Q:σ->σ->Prop}{st:σ}(h:Q st st):wpI M A E G (get:StateT σ Sem σ) Q st:=fun s g=>by rw[StateT.run_get];exact gF ⟨g,h⟩
theorem Jd{Q:PUnit->σ->Prop}{st b7:σ}(h:Q ⟨⟩ b7):wpI M A E G (set b7:StateT σ Sem PUnit) Q st:=fun s g=>by rw[StateT.run_set];exact gF ⟨g,h⟩
theorem ju{f:σ->σ}{Q:PUnit->σ->Prop}{st:σ}(h:Q ⟨⟩ (f st)):wpI M A E G (modify f:StateT σ Sem PUnit) Q st:=fun s g=>by rw[StateT.run_modify];exact gF ⟨g,h⟩
theorem zT{α:Type}{m:Sem α}{Q:α->σ->Prop}{st:σ}(h: ∀s,G s->wpAny M A m (fun a s'=>G s'/\Q a st) E s):wpI M A E G (liftM m:StateT σ Sem α) Q st:=fun s g=>by
 show wpAny M A ((StateT.lift m:StateT σ Sem α).run st) _ E s;rw[StateT.run_lift];exact gk (lM (h s g) (fun a s' h'=>gF h') fun _ _ e=>e)
theorem mY{x:String}{Q:Unit->σ->Prop}{st:σ}(h:Q () st):wpI M A E G (liftM (rule x):StateT σ Sem Unit) Q st:=zT fun s g=>qz ⟨g,h⟩
theorem zS{β:Type}(f:Nat->β->StateT σ Sem (ForInStep β))(I:List Nat->β->σ->Prop)(Q:β->σ->Prop)
  (y4: ∀x hU b st,I (x::hU) b st->wpI M A E G (f x b) (fun r b7=>match r with| .done b'=>Q b' b7| .yield b'=>I hU b' b7) st)(n9: ∀b st,I [] b st->Q b st):
  ∀(l:gW) (b:β) (st:σ),I l b st->wpI M A E G (forIn l b f) Q st
 |[],b,st,h=>by rw[List.forIn_nil];exact gh (n9 _ _ h)
 |x::hU,b,st,h=>by
  rw[uM];refine gd (iz (y4 x hU b st h) fun r b7 h'=>?_)
  cases r with
  |done b'=>exact gh h'
  |yield b'=>exact zS f I Q y4 n9 hU b' b7 h'
theorem iB{β:Type}{a b:Nat}{f:Nat->β->StateT σ Sem (ForInStep β)}(I:Nat->β->σ->Prop){Q:β->σ->Prop}
  (y4: ∀i c st,a<=i->i<b->I i c st->wpI M A E G (f i c) (fun r b7=>match r with| .done c'=>Q c' b7| .yield c'=>I (i+1) c' b7) st)
  (n9: ∀c st,I (max a b) c st->Q c st){c:β}{st:σ}(h:I a c st):wpI M A E G (forIn [a:b] c f) Q st:=by
 rw[Std.Legacy.Range.forIn_eq_forIn_range'];have hsz:([a:b]:Std.Legacy.Range).size=b-a:=by simp[Std.Legacy.Range.size]
 show wpI M A E G (forIn (List.range' a ([a:b]:Std.Legacy.Range).size 1) c f) Q st;rw[hsz];refine zS f (fun l c st=> ∃i,a<=i/\i<=max a b/\l=List.range' i (max a b-i) 1/\I i c st) Q ?_ ?_ _ c st ⟨a,ig _,by omega,by congr 1;omega,h⟩
 ·rintro x hU c st ⟨i,hai,hib,hl,hI⟩
  cases hn:max a b-i with
  |zero=>rw[hn] at hl;simp at hl
  |succ n=>
   rw[hn,Bu] at hl;obtain⟨rfl,rfl⟩:=rB hl;refine iz (y4 x c st hai (by omega) hI) fun r b7 h'=>?_
   cases r with
   |done c'=>exact h'
   |yield c'=>exact⟨x+1,by omega,by omega,by congr 1;omega,h'⟩
 ·rintro c st ⟨i,hai,hib,hl,hI⟩
  have:max a b-i=0:=by
   cases hn:max a b-i with
   |zero=>rfl
   |succ n=>rw[hn,Bu] at hl;cases hl
  have:i=max a b:=by omega
  subst this;exact n9 _ _ hI
end
structure Wk(lt:kO):Prop where
 irr: ∀i,lt i i=false
 tr: ∀i j k,lt i j=true->lt j k=true->lt i k=true
 nt: ∀i j k,lt i k=true->lt i j=true\/lt j k=true
def SL(lt:kO)(i j:Nat):Prop:=lt i j=true\/(lt j i=false/\i<j)
section
variable {lt:kO}(W:Wk lt)
include W
theorem Wk.asym(h:lt i j=true):lt j i=false:=by
 cases h2:lt j i with
 |false=>rfl
 |true=>have:=W.tr _ _ _ h h2;rw[W.irr] at this;cases this
theorem Wk.le_tr(h1:lt j i=false)(h2:lt k j=false):lt k i=false:=by
 cases h:lt k i with
 |false=>rfl
 |true=>
   rcases W.nt _ j _ h with q|q
   ·rw[h2] at q;cases q
   ·rw[h1] at q;cases q
theorem Wk.lt_le(h1:lt i j=true)(h2:lt k j=false):lt i k=true:=by
 rcases W.nt _ k _ h1 with q|q
 ·exact q
 ·rw[h2] at q;cases q
theorem Wk.le_lt(h1:lt j i=false)(h2:lt j k=true):lt i k=true:=by
 rcases W.nt _ i _ h2 with q|q
 ·rw[h1] at q;cases q
 ·exact q
theorem SL.trans(h1:SL lt i j)(h2:SL lt j k):SL lt i k:=by
 rcases h1 with h1|⟨h1,e1⟩<;>rcases h2 with h2|⟨h2,e2⟩
 ·exact .inl (W.tr _ _ _ h1 h2)
 ·exact .inl (W.lt_le h1 h2)
 ·exact .inl (W.le_lt h1 h2)
 ·exact .inr ⟨W.le_tr h1 h2,by omega⟩
theorem SL.le(h:SL lt i j):lt j i=false:=h.elim W.asym fun h=>h.1
theorem SL.asym(h1:SL lt i j)(h2:SL lt j i):False:=by
 have a:=SL.le W h1;have b:=SL.le W h2;rcases h1 with h1|⟨_,e1⟩
 ·rw[b] at h1;cases h1
 ·rcases h2 with h2|⟨_,e2⟩
  ·rw[a] at h2;cases h2
  ·omega
end
noncomputable def P(p:jL)(k:Nat):Nat:=p.getD k 0
theorem IU{p q:jL}{i j:Nat}(h:p[i]?=q[j]?):P p i=P q j:=by
 simp only[P,Array.getD_eq_getD_getElem?,h]
theorem tL{p:jL}{i:Nat}(h:i<p.size):p[i]?=some (P p i):=by simp[P,h]
def Up(lt:kO)(p:jL)(a b:Nat):Prop:= ∀i j,a<=i->i<j->j<b->SL lt (P p i) (P p j)
def Dn(lt:kO)(p:jL)(a b:Nat):Prop:= ∀i j,a<=i->i<j->j<b->SL lt (P p j) (P p i)
def Reg(p:jL)(a b:Nat):Prop:= ∀k,a<=k->k<b->a<=P p k/\P p k<b
section
variable {prog:gC}{w:gy}{A:gB}{E:gU}{G:Shared->Prop}{it:lV}{lt:kO}{κ:SortKind}{N:Nat}
structure Rp(it:lV)(κ:SortKind)(N:Nat)(st:iA)(p:jL):Prop where
 arr:arrOf st=p.map it
 kind:kindOf st=κ
 ok:failedOf st=none
 size:p.size=N
 perm:p.Perm (Array.range N)
def Ask(prog:gC)(w:gy)(A:gB)(E:gU)(G:Shared->Prop)(it:lV)(κ:SortKind)(N:Nat)(lt:kO):Prop:=
 ∀i j,i<N->j<N-> ∀s,G s-> ∀E',wpAny (model prog w) A (keyLt' κ (it i).1 (it j).1) (fun b s'=>G s'/\b=lt i j) E' s
theorem Rp.bound{st:iA}{p:jL}(R:Rp it κ N st p){i:Nat}(h:i<N):P p i<N:=by
 have hm:P p i∈p.toList:=by
  have:=tL (p:=p) (i:=i) (by rw[R.size];exact h);exact Array.mem_toList_iff.mpr (Array.mem_of_getElem? this)
 have:=(KJ.mp R.perm).mem_iff.mp hm;simpa using this
theorem uT(H:Ask prog w A E G it κ N lt){st:iA}(hk:kindOf st=κ){i j:Nat}(hi:i<N)(hj:j<N){Q:Option Bool->SortSt->Prop}(h:Q (some (lt i j)) st):wpI (model prog w) A E G (lt' (it i) (it j)) Q st:=by
 rw[lt'_eq];refine gd (kI ?_);rw[hk];refine gd (zT fun s g=>sM (lM (H i j hi hj s g fun _ _=>False) (fun b s' hb=>?_) fun e s' he=>he.elim));obtain⟨g',rfl⟩:=hb;exact⟨g',gh h⟩
theorem uU{xs:lW}{q:jL}(hx:xs=q.map it){i:Nat}(hi:i<q.size){st:iA}{Q:Keyed->SortSt->Prop}(h:Q (it (P q i)) st):wpI (model prog w) A E G (elem' xs i) Q st:=by
 rw[elem'_eq,hx];have:(q.map it)[i]?=some (it (P q i)):=by rw[Array.getElem?_map,tL hi];rfl
 rw[this];exact gh h
theorem ou(H:Ask prog w A E G it κ N lt){st:iA}{p:jL}(R:Rp it κ N st p){i j:Nat}(hi:i<N)(hj:j<N){Q:Option Bool->SortSt->Prop}(h:Q (some (lt (P p i) (P p j))) st):wpI (model prog w) A E G (ltAt' i j) Q st:=by
 rw[ltAt'_eq];refine gd (kI ?_);refine gd (uU R.arr (by rw[R.size];exact hi) (gd (uU R.arr (by rw[R.size];exact hj) ?_)));exact uT H R.kind (R.bound hi) (R.bound hj) h
theorem Cq(p:jL)(i j d:Nat):mirror (p.map it) i j d=(mirror p i j d).map it:=FH it _ _ _ _
theorem C4(p:jL)(i d:Nat):bubble (p.map it) i d=(bubble p i d).map it:=FH it _ _ _ _
theorem Rp.mirror{st:iA}{p:jL}(R:Rp it κ N st p)(i j d:Nat):Rp it κ N (setArr st (PyProof.Rows.mirror (arrOf st) i j d)) (PyProof.Rows.mirror p i j d):=
 ⟨by show PyProof.Rows.mirror (arrOf st) i j d=_;rw[R.arr,Cq],R.kind,R.ok,by rw[mirror_size,R.size],(mirror_perm _ _ _ _).trans R.perm⟩
theorem Rp.bubble{st:iA}{p:jL}(R:Rp it κ N st p)(i d:Nat):Rp it κ N (setArr st (PyProof.Rows.bubble (arrOf st) i d)) (PyProof.Rows.bubble p i d):=
 ⟨by show PyProof.Rows.bubble (arrOf st) i d=_;rw[R.arr,C4],R.kind,R.ok,by rw[bubble_size,R.size],(bubble_perm _ _ _).trans R.perm⟩
theorem ua{st:iA}{i j:Nat}{Q:Unit->SortSt->Prop}(h:Q () (setArr st (mirror (arrOf st) i j ((j-i) / 2)))):wpI (model prog w) A E G (reverseSlice' i j) Q st:=by
 rw[reverseSlice'_eq];exact ju h
theorem Gj{st:iA}{i j:Nat}{Q:Unit->SortSt->Prop}(h:Q () (setArr st (bubble (arrOf st) i (i-j)))):wpI (model prog w) A E G (moveDown' i j) Q st:=by
 rw[moveDown'_eq];exact ju h
theorem ja(hj:j<=p.size)(k:Nat):P (mirror p i j ((j-i) / 2)) k=if i<=k/\k<j then P p (i+j-1-k) else P p k:=by
 have e:=getElem?_mirror_all (i:=i) hj k;split at e
 ·rename_i h;rw[gq h];exact IU e
 ·rename_i h;rw[gv h];exact IU e
theorem IV(hs:src<p.size)(hd:d<=src)(k:Nat):P (bubble p src d) k=if k=src-d then P p src else if src-d<k/\k<=src then P p (k-1) else P p k:=by
 have e:=getElem?_bubble hs d hd k;split at e
 ·rename_i h;rw[gq h];exact IU e
 ·rename_i h;rw[gv h];split at e
  ·rename_i h2;rw[gq h2];exact IU e
  ·rename_i h2;rw[gv h2];exact IU e
theorem Up.mirror(h:Up lt p a b)(hb:b<=p.size):Dn lt (PyProof.Rows.mirror p a b ((b-a) / 2)) a b:=fun i j h1 h2 h3=>by
 rw[ja hb,ja hb,gq ⟨by lia,h3⟩,gq ⟨h1,by lia⟩];exact h _ _ (by lia) (by lia) (by lia)
theorem Dn.mirror(h:Dn lt p a b)(hb:b<=p.size):Up lt (PyProof.Rows.mirror p a b ((b-a) / 2)) a b:=fun i j h1 h2 h3=>by
 rw[ja hb,ja hb,gq ⟨h1,by lia⟩,gq ⟨by lia,h3⟩];exact h _ _ (by lia) (by lia) (by lia)
theorem Reg.mirror(h:Reg p a b)(hj:j<=p.size)(h1:a<=i)(h2:j<=b):Reg (PyProof.Rows.mirror p i j ((j-i) / 2)) a b:=fun k h3 h4=>by
 rw[ja hj];split
 ·exact h _ (by lia) (by lia)
 ·exact h _ h3 h4
theorem Df(W:Wk lt)(H:Ask prog w A E G it κ N lt){lo d7 a:Nat}(hN:lo+d7=N)(h1:1<=a)(ha:a<=d7){st:iA}{p:jL}(R:Rp it κ N st p)(rg:Reg p lo (lo+a))(fx: ∀k,lo+a<=k->k<N->P p k=k)(up:Up lt p lo (lo+a)){Q:Option (Option Nat)×Nat->SortSt->Prop}
  (h: ∀m,a<=m->m<=d7->Reg p lo (lo+m)->Up lt p lo (lo+m)->(m=d7\/lt (P p (lo+m)) (P p (lo+m-1))=true)->Q (none,m) st):
  wpI (model prog w) A E G (forIn [a:d7] ((none,a):Option (Option Nat)×Nat) fun _ r=>do
   let x <-ltAt' (lo+r.2) (lo+r.2-1)
   match x with
   |some i9=>if i9=true then pure (ForInStep.done (none,r.2)) else pure (ForInStep.yield (none,r.2+1))
   |_=>pure (ForInStep.done (some none,r.2))) Q st:=by
 refine iB (I:=fun x c b7=>b7=st/\c=(none,x)/\Reg p lo (lo+x)/\Up lt p lo (lo+x)) ?step ?fin ⟨rfl,rfl,rg,up⟩
 case fin=>
  rintro c b7 ⟨rfl,rfl,r1,u1⟩;rw[show max a d7=d7 by lia] at r1 u1 ⊢;exact h d7 ha (ig _) r1 u1 (.inl rfl)
 case step=>
  rintro x c b7 fG hxn ⟨rfl,rfl,r1,u1⟩;refine gd (ou H R (by lia) (by lia) ?_);dsimp only
  cases hl:lt (P p (lo+x)) (P p (lo+x-1)) with
  |true=>simp only[hV];exact gh (h x fG (by lia) r1 u1 (.inr hl))
  |false=>
   simp only[hZ,iJ];have hx:P p (lo+x)=lo+x:=fx _ (by lia) (by lia);have u7:=r1 (lo+x-1) (by lia) (by lia);have sl:SL lt (P p (lo+x-1)) (P p (lo+x)):= .inr ⟨hl,by lia⟩;refine gh ⟨rfl,rfl,fun k k1 k2=>?_,fun i j i1 ij j2=>?_⟩
   ·rcases yn k (lo+x) with q|q
    ·have:=r1 k k1 q;lia
    ·have:k=lo+x:=by lia
     subst this;lia
   ·rcases yn j (lo+x) with q|q
    ·exact u1 i j i1 ij q
    ·have:j=lo+x:=by lia
     subst this;rcases yn i (lo+x-1) with q2|q2
     ·exact SL.trans W (u1 i _ i1 q2 (by lia)) sl
     ·have:i=lo+x-1:=by lia
      subst this;exact sl
structure Fall(lt:kO)(p:jL)(lo x q N:Nat):Prop where
 le:q+1<=x
 fx: ∀k,lo+x<=k->k<N->P p k=k
 rg:Reg p lo (lo+x)
 dn:Dn lt p lo (lo+x-(q+1))
 st: ∀i j,lo<=i->i<lo+x-(q+1)->lo+x-(q+1)<=j->j<lo+x->lt (P p j) (P p i)=true
 eq: ∀i j,lo+x-(q+1)<=i->i<j->j<lo+x->lt (P p i) (P p j)=false/\lt (P p j) (P p i)=false/\P p i<P p j
theorem Fall.turn{p:jL}{lo x q:Nat}(F:Fall lt p lo x q N)(hz:lo+x<=p.size):Dn lt (PyProof.Rows.mirror p (lo+x-(q+1)) (lo+x) ((lo+x-(lo+x-(q+1))) / 2)) lo (lo+x):=fun i j i1 ij j2=>by
 have hle:=F.le;rw[ja hz,ja hz];by_cases hj:lo+x-(q+1)<=j
 ·rw[gq ⟨hj,j2⟩];by_cases hi:lo+x-(q+1)<=i
  ·rw[gq ⟨hi,by lia⟩];obtain⟨e1,e2,e3⟩:=F.eq (lo+x-(q+1)+(lo+x)-1-j) (lo+x-(q+1)+(lo+x)-1-i) (by lia) (by lia) (by lia);exact .inr ⟨e2,e3⟩
  ·rw[gv (fun z=>hi z.1)];exact .inl (F.st _ _ i1 (by lia) (by lia) (by lia))
 ·rw[gv (fun z=>hj z.1),gv (fun z=>by lia)];exact F.dn i j i1 ij (by lia)
theorem Fall.flat{p:jL}{lo x:Nat}(F:Fall lt p lo x 0 N):Dn lt p lo (lo+x):=fun i j i1 ij j2=>by
 have hle:=F.le;by_cases hj:lo+x-1<=j
 ·exact .inl (F.st i j i1 (by lia) (by lia) (by lia))
 ·exact F.dn i j i1 ij (by lia)
def Ran(it:lV)(lt:kO)(κ:SortKind)(N lo d7:Nat)(p0:jL)(aR:iA)(Q:wQ):Prop:=
 ∀n st p,Rp it κ N st p->pendingOf st=pendingOf aR->1<=n->n<=d7->(∀k,k<lo->P p k=P p0 k)->(∀k,lo+n<=k->k<N->P p k=k)->Reg p lo (lo+n)->Up lt p lo (lo+n)->Q (some n) st
theorem Gm(W:Wk lt)(H:Ask prog w A E G it κ N lt){lo d7 n:Nat}(hN:lo+d7=N)(hn:n<=d7){st:iA}{p:jL}(R:Rp it κ N st p)(F:Fall lt p lo n 0 N){Q:Option (Option Nat)×Nat×Nat->SortSt->Prop}
  (h: ∀x q b7 p',Rp it κ N b7 p'->pendingOf b7=pendingOf st->n<=x->x<=d7->(∀k,k<lo->P p' k=P p k)->Fall lt p' lo x q N->Q (none,x,q) b7):
  wpI (model prog w) A E G (forIn [n:d7] ((none,n,0):Option (Option Nat)×Nat×Nat) fun _ r=>do
   let x <-ltAt' (lo+r.2.1) (lo+r.2.1-1)
   match x with
   |some i9=>
    if i9=true then
     if r.2.2>0 then do
      reverseSlice' (lo+r.2.1-(r.2.2+1)) (lo+r.2.1)
      pure (ForInStep.yield (none,r.2.1+1,0))
     else pure (ForInStep.yield (none,r.2.1+1,0))
    else do
     let x <-ltAt' (lo+r.2.1-1) (lo+r.2.1)
     match x with
     |some x6=>if x6=true then pure (ForInStep.done (none,r.2.1,r.2.2)) else pure (ForInStep.yield (none,r.2.1+1,r.2.2+1))
     |_=>pure (ForInStep.done (some none,r.2.1,r.2.2))
   |_=>pure (ForInStep.done (some none,r.2.1,r.2.2))) Q st:=by
 refine iB (I:=fun x c b7=> ∃q p',c=(none,x,q)/\Rp it κ N b7 p'/\pendingOf b7=pendingOf st/\(∀k,k<lo->P p' k=P p k)/\Fall lt p' lo x q N) ?step ?fin ⟨0,p,rfl,R,rfl,fun _ _=>rfl,F⟩
 case fin=>
  rintro c b7 ⟨q,p',rfl,R',e',f',F'⟩;rw[show max n d7=d7 by lia] at F' ⊢;exact h d7 q b7 p' R' e' hn (ig _) f' F'
 case step=>
  rintro x c b7 fG hxn ⟨q,p',rfl,R',e',f',F'⟩;have hle:=F'.le;have hx:P p' (lo+x)=lo+x:=F'.fx _ (by lia) (by lia);dsimp only;refine gd (ou H R' (by lia) (by lia) ?_);dsimp only
  have next:lt (P p' (lo+x)) (P p' (lo+x-1))=true-> ∀i,lo<=i->i<lo+x->lt (P p' (lo+x)) (P p' i)=true:=fun hl i i1 i2=>by
   by_cases hi:lo+x-(q+1)<=i
   ·by_cases aH:i=lo+x-1
    ·subst aH;exact hl
    ·exact W.lt_le hl (F'.eq i (lo+x-1) hi (by lia) (by lia)).1
   ·exact W.tr _ _ _ hl (F'.st i (lo+x-1) i1 (by lia) (by lia) (by lia))
  have grow: ∀p2:Array Nat,(∀k,¬(lo<=k/\k<lo+x)->P p2 k=P p' k)->(∀i,lo<=i->i<lo+x-> ∃j,lo<=j/\j<lo+x/\P p2 i=P p' j)->Dn lt p2 lo (lo+x)->lt (P p' (lo+x)) (P p' (lo+x-1))=true->Fall lt p2 lo (x+1) 0 N:=fun p2 h1 h2 h3 hl=>by
   refine⟨by lia,fun k k1 k2=>by rw[h1 k (by lia)];exact F'.fx k (by lia) k2,fun k k1 k2=>?_,?_,fun i j i1 i2 j1 j2=>?_,fun i j i1 i2 j2=>by lia⟩
   ·by_cases hk:k<lo+x
    ·obtain⟨j,j1,j2,e⟩:=h2 k k1 hk;have:=F'.rg j j1 j2
     lia
    ·have:k=lo+x:=by lia
     subst this;rw[h1 _ (by lia),hx];lia
   ·rw[show lo+(x+1)-(0+1)=lo+x by lia];exact h3
   ·have:j=lo+x:=by lia
    subst this;rw[h1 (lo+x) (by lia)];obtain⟨j,j1,j2,e⟩:=h2 i i1 (by lia);rw[e];exact next hl j j1 j2
  cases hl:lt (P p' (lo+x)) (P p' (lo+x-1)) with
  |true=>
   simp only[hV];have hz:lo+x<=p'.size:=by rw[R'.size];lia
   by_cases hq:q>0
   ·rw[gq hq];refine gd (ua (gh ⟨0,_,rfl,R'.mirror _ _ _,e',fun k hk=>?_,grow _ (fun k hk=>?_) (fun i i1 i2=>?_) (F'.turn hz) hl⟩))
    ·rw[ja hz,gv (by lia)];exact f' k hk
    ·rw[ja hz,gv (by lia)]
    ·rw[ja hz];split
     ·exact⟨_,by lia,by lia,rfl⟩
     ·exact⟨i,i1,i2,rfl⟩
   ·rw[gv hq];have:q=0:=by lia
    subst this;exact gh ⟨0,p',rfl,R',e',f',grow p' (fun _ _=>rfl) (fun i i1 i2=>⟨i,i1,i2,rfl⟩) F'.flat hl⟩
  |false=>
   simp only[hZ,iJ];refine gd (ou H R' (by lia) (by lia) ?_);dsimp only
   cases u9:lt (P p' (lo+x-1)) (P p' (lo+x)) with
   |true=>simp only[hV];exact gh (h x q b7 p' R' e' fG (by lia) f' F')
   |false=>
    simp only[hZ,iJ];have u7:=F'.rg (lo+x-1) (by lia) (by lia)
    have same: ∀i,lo+x-(q+1)<=i->i<lo+x->lt (P p' i) (P p' (lo+x))=false/\lt (P p' (lo+x)) (P p' i)=false:=fun i i1 i2=>by
     by_cases hi:i=lo+x-1
     ·subst hi;exact⟨u9,hl⟩
     ·obtain⟨e1,e2,_⟩:=F'.eq i (lo+x-1) i1 (by lia) (by lia);exact⟨W.le_tr u9 e1,W.le_tr e2 hl⟩
    refine gh ⟨q+1,p',rfl,R',e',f',by lia,fun k k1 k2=>F'.fx k (by lia) k2,fun k k1 k2=>?_,?_,fun i j i1 i2 j1 j2=>?_,fun i j i1 ij j2=>?_⟩
    ·by_cases hk:k<lo+x
     ·have:=F'.rg k k1 hk;lia
     ·have:k=lo+x:=by lia
      subst this;lia
    ·rw[show lo+(x+1)-(q+1+1)=lo+x-(q+1) by lia];exact F'.dn
    ·by_cases hj:j<lo+x
     ·exact F'.st i j i1 (by lia) (by lia) hj
     ·have:j=lo+x:=by lia
      subst this;have:=F'.st i (lo+x-1) i1 (by lia) (by lia) (by lia);exact W.le_lt u9 this
    ·by_cases hj:j<lo+x
     ·exact F'.eq i j (by lia) ij hj
     ·have:j=lo+x:=by lia
      subst this;obtain⟨e1,e2⟩:=same i (by lia) (by lia);have:=F'.rg i (by lia) (by lia);exact⟨e1,e2,by lia⟩
noncomputable def C8(lo a d7:Nat):StateT SortSt Sem (Option (Option Nat)×Nat):=forIn [a:d7] ((none,a):Option (Option Nat)×Nat) fun _ r=>do
   let x <-ltAt' (lo+r.2) (lo+r.2-1)
   match x with
   |some i9=>if i9=true then pure (ForInStep.done (none,r.2)) else pure (ForInStep.yield (none,r.2+1))
   |_=>pure (ForInStep.done (some none,r.2))
noncomputable def IE(lo n d7:Nat):StateT SortSt Sem (Option (Option Nat)×Nat×Nat):=forIn [n:d7] ((none,n,0):Option (Option Nat)×Nat×Nat) fun _ r=>do
   let x <-ltAt' (lo+r.2.1) (lo+r.2.1-1)
   match x with
   |some i9=>
    if i9=true then
     if r.2.2>0 then do
      reverseSlice' (lo+r.2.1-(r.2.2+1)) (lo+r.2.1)
      pure (ForInStep.yield (none,r.2.1+1,0))
     else pure (ForInStep.yield (none,r.2.1+1,0))
    else do
     let x <-ltAt' (lo+r.2.1-1) (lo+r.2.1)
     match x with
     |some x6=>if x6=true then pure (ForInStep.done (none,r.2.1,r.2.2)) else pure (ForInStep.yield (none,r.2.1+1,r.2.2+1))
     |_=>pure (ForInStep.done (some none,r.2.1,r.2.2))
   |_=>pure (ForInStep.done (some none,r.2.1,r.2.2))
noncomputable def AW(lo n d7:Nat):StateT SortSt Sem (Option Nat):=do
 reverseSlice' lo (lo+n)
 let r <-C8 lo n d7
 match r.1 with
 |some r=>pure r
 |none=>pure (some r.2)
noncomputable def xy(lo n d7:Nat):StateT SortSt Sem (Option Nat):=do
 liftM (rule "list.sort.descending-run")
 let r <-IE lo (n+1) d7
 match r.1 with
 |some r=>pure r
 |none=>
  if r.2.2>0 then do
   reverseSlice' (lo+r.2.1-(r.2.2+1)) (lo+r.2.1)
   AW lo r.2.1 d7
  else AW lo r.2.1 d7
theorem AZ(lo d7:Nat):countRun' lo d7=(do
  let r <-C8 lo 1 d7
  match r.1 with
  |some r=>pure r
  |none=>
   if(r.2==d7)=true then pure (some r.2)
   else if r.2>1 then do
    let x <-ltAt' lo (lo+r.2-1)
    match x with
    |some bQ=>if bQ=true then pure (some r.2) else do
      reverseSlice' lo (lo+r.2)
      xy lo r.2 d7
    |_=>pure none
   else xy lo r.2 d7):=by
 rw[countRun'_eq];dsimp only;unfold C8
 congr 1
 funext r;obtain⟨r,n⟩:=r
 cases r with
 |some r=>rfl
 |none=>
  dsimp only;by_cases h1:(n==d7)=true
  ·rw[gq h1,gq h1]
  ·rw[gv h1,gv h1];by_cases h2:n>1
   ·rw[gq h2,gq h2]
    congr 1
    funext x
    cases x with
    |none=>rfl
    |some bQ=>
     dsimp only
     cases bQ with
     |true=>rfl
     |false=>
      simp only[hZ,iJ]
      congr 1
      funext _;unfold xy IE
      congr 1
      funext _
      congr 1
      funext r2;obtain⟨r2,n2,q2⟩:=r2
      cases r2 with
      |some r=>rfl
      |none=>
       dsimp only;by_cases h3:q2>0
       ·rw[gq h3,gq h3]
        congr 1
        funext _;unfold AW C8
        congr 1
        funext _
        congr 1
        funext r3;obtain⟨r3,n3⟩:=r3;cases r3<;>rfl
       ·rw[gv h3,gv h3];unfold AW C8
        congr 1
        funext _
        congr 1
        funext r3;obtain⟨r3,n3⟩:=r3;cases r3<;>rfl
   ·rw[gv h2,gv h2];unfold xy IE
    congr 1
    funext _
    congr 1
    funext r2;obtain⟨r2,n2,q2⟩:=r2
    cases r2 with
    |some r=>rfl
    |none=>
     dsimp only;by_cases h3:q2>0
     ·rw[gq h3,gq h3]
      congr 1
      funext _;unfold AW C8
      congr 1
      funext _
      congr 1
      funext r3;obtain⟨r3,n3⟩:=r3;cases r3<;>rfl
     ·rw[gv h3,gv h3];unfold AW C8
      congr 1
      funext _
      congr 1
      funext r3;obtain⟨r3,n3⟩:=r3;cases r3<;>rfl
theorem De(W:Wk lt)(H:Ask prog w A E G it κ N lt){lo d7 n:Nat}(hN:lo+d7=N)(h1:1<=n)(hn:n<=d7){st aR:iA}{p p0:jL}(R:Rp it κ N st p)(e0:pendingOf st=pendingOf aR)(f0: ∀k,k<lo->P p k=P p0 k)(fx: ∀k,lo+n<=k->k<N->P p k=k)(rg:Reg p lo (lo+n))(dn:Dn lt p lo (lo+n))
  {Q:wQ}(h:Ran it lt κ N lo d7 p0 aR Q):wpI (model prog w) A E G (AW lo n d7) Q st:=by
 unfold AW;have hz:lo+n<=p.size:=by rw[R.size];lia
 have out: ∀k,¬(lo<=k/\k<lo+n)->P (PyProof.Rows.mirror p lo (lo+n) ((lo+n-lo) / 2)) k=P p k:=fun k hk=>by rw[ja hz,gv hk]
 refine gd (ua ?_);have R1:=R.mirror lo (lo+n) ((lo+n-lo) / 2);refine gd (Df W H hN h1 hn R1 (rg.mirror hz (ig _) (ig _)) (fun k k1 k2=>by rw[out k (by lia)];exact fx k k1 k2) (dn.mirror hz) fun m m1 m2 cS bP _=>?_);exact gh (h m _ _ R1 e0 (by lia) m2 (fun k hk=>by rw[out k (by lia)];exact f0 k hk) (fun k k1 k2=>by rw[out k (by lia)];exact fx k (by lia) k2) cS bP)
theorem zV(W:Wk lt)(H:Ask prog w A E G it κ N lt){lo d7 n:Nat}(hN:lo+d7=N)(hn:n+1<=d7){st aR:iA}{p p0:jL}(R:Rp it κ N st p)(e0:pendingOf st=pendingOf aR)(f0: ∀k,k<lo->P p k=P p0 k)(F:Fall lt p lo (n+1) 0 N)
  {Q:wQ}(h:Ran it lt κ N lo d7 p0 aR Q):wpI (model prog w) A E G (xy lo n d7) Q st:=by
 unfold xy;refine gd (mY (gd (Gm W H hN hn R F fun x q b7 p' R' e' x1 x2 f' F'=>?_)));dsimp only;have hle:=F'.le;have hz:lo+x<=p'.size:=by rw[R'.size];lia
 by_cases hq:q>0
 ·rw[gq hq];refine gd (ua (De W H hN (by lia) x2 (R'.mirror _ _ _) (e'.trans e0) (fun k hk=>?_) (fun k k1 k2=>?_) (F'.rg.mirror hz (by lia) (ig _)) (F'.turn hz) h))
  ·rw[ja hz,gv (by lia)];exact(f' k hk).trans (f0 k hk)
  ·rw[ja hz,gv (by lia)];exact F'.fx k k1 k2
 ·rw[gv hq];have:q=0:=by lia
  subst this;exact De W H hN (by lia) x2 R' (e'.trans e0) (fun k hk=>(f' k hk).trans (f0 k hk)) F'.fx F'.rg F'.flat h
theorem El(W:Wk lt)(H:Ask prog w A E G it κ N lt){lo d7:Nat}(hN:lo+d7=N)(h1:1<=d7){st:iA}{p:jL}(R:Rp it κ N st p)(fx: ∀k,lo<=k->k<N->P p k=k){Q:wQ}(h:Ran it lt κ N lo d7 p st Q):
  wpI (model prog w) A E G (countRun' lo d7) Q st:=by
 rw[AZ];refine gd (Df W H hN (ig _) h1 R (fun k k1 k2=>by rw[fx k k1 (by lia)];lia) (fun k k1 k2=>fx k (by lia) k2) (fun i j i1 ij j2=>by lia) fun n n1 n2 rg up hl=>?_);dsimp only;by_cases he:(n==d7)=true
 ·rw[gq he];exact gh (h n st p R rfl n1 n2 (fun _ _=>rfl) (fun k k1 k2=>fx k (by lia) k2) rg up)
 ·rw[gv he];have t8:n≠d7:=fun z=>he (by simp[z]);have hl:lt (P p (lo+n)) (P p (lo+n-1))=true:=hl.resolve_left t8;have hx:P p (lo+n)=lo+n:=fx _ (by lia) (by lia);by_cases hg:n>1
  ·rw[gq hg];refine gd (ou H R (by lia) (by lia) ?_);dsimp only
   cases hr:lt (P p lo) (P p (lo+n-1)) with
   |true=>simp only[hV];exact gh (h n st p R rfl n1 n2 (fun _ _=>rfl) (fun k k1 k2=>fx k (by lia) k2) rg up)
   |false=>
    simp only[hZ,iJ];have hz:lo+n<=p.size:=by rw[R.size];lia
    have out: ∀k,¬(lo<=k/\k<lo+n)->P (PyProof.Rows.mirror p lo (lo+n) ((lo+n-lo) / 2)) k=P p k:=fun k hk=>by rw[ja hz,gv hk]
    have small: ∀i,lo<=i->i<lo+n->lt (P p (lo+n)) (P p i)=true:=fun i i1 i2=>by
     have hi:lt (P p i) (P p (lo+n-1))=false:=by
      by_cases hi:i=lo
      ·subst hi;exact hr
      ·exact W.le_tr hr (SL.le W (up lo i (ig _) (by lia) i2)) |> fun z=>by
        cases hc:lt (P p i) (P p (lo+n-1)) with
        |false=>rfl
        |true=>
         have:=W.le_lt (SL.le W (up lo i (ig _) (by lia) i2)) hc;rw[hr] at this;cases this
     exact W.lt_le hl hi
    refine gd (ua (zV W H hN (by lia) (R.mirror _ _ _) rfl (fun k hk=>out k (by lia)) ⟨by lia,fun k k1 k2=>by rw[out k (by lia)];exact fx k (by lia) k2,fun k k1 k2=>?_,?_,fun i j i1 i2 j1 j2=>?_,fun i j i1 ij j2=>by lia⟩ h))
    ·by_cases hk:k<lo+n
     ·have:=rg.mirror (i:=lo) (j:=lo+n) hz (ig _) (ig _) k k1 hk;lia
     ·have:k=lo+n:=by lia
      subst this;rw[out _ (by lia),hx];lia
    ·rw[show lo+(n+1)-(0+1)=lo+n by lia];exact up.mirror hz
    ·have:j=lo+n:=by lia
     subst this;rw[out (lo+n) (by lia),ja hz,gq ⟨i1,by lia⟩];exact small _ (by lia) (by lia)
  ·rw[gv hg];have:n=1:=by lia
   subst this;refine zV W H hN (by lia) R rfl (fun _ _=>rfl) ⟨by lia,fun k k1 k2=>fx k (by lia) k2,fun k k1 k2=>by rw[fx k k1 (by lia)];lia,fun i j i1 ij j2=>by lia,fun i j i1 i2 j1 j2=>?_,fun i j i1 ij j2=>by lia⟩ h;have e1:j=lo+1:=by lia
   have e2:i=lo:=by lia
   subst e1;subst e2;exact hl
theorem Je(W:Wk lt)(H:Ask prog w A E G it κ N lt){lo n ok:Nat}(h1:1<=ok)(hok:ok<=n)(hn:lo+n<=N){st:iA}{p:jL}(R:Rp it κ N st p)(fx: ∀k,lo+ok<=k->k<N->P p k=k)(rg:Reg p lo (lo+ok))(up:Up lt p lo (lo+ok)){Q:Bool->SortSt->Prop}
  (h: ∀b7 p',Rp it κ N b7 p'->pendingOf b7=pendingOf st->(∀k,k<lo->P p' k=P p k)->(∀k,lo+n<=k->k<N->P p' k=k)->Reg p' lo (lo+n)->Up lt p' lo (lo+n)->Q true b7):wpI (model prog w) A E G (binarySort' lo n ok) Q st:=by
 rw[binarySort'_eq];dsimp only;rw[show max ok 1=ok by lia]
 refine gd (iz (iB (I:=fun k c b7=>c=(none,())/\ ∃p',Rp it κ N b7 p'/\pendingOf b7=pendingOf st/\(∀i,i<lo->P p' i=P p i)/\(∀i,lo+k<=i->i<N->P p' i=i)/\Reg p' lo (lo+k)/\Up lt p' lo (lo+k))
  (Q:=fun c b7=>c=(none,())/\ ∃p',Rp it κ N b7 p'/\pendingOf b7=pendingOf st/\(∀i,i<lo->P p' i=P p i)/\(∀i,lo+n<=i->i<N->P p' i=i)/\Reg p' lo (lo+n)/\Up lt p' lo (lo+n)) ?step ?fin ⟨rfl,p,R,rfl,fun _ _=>rfl,fx,rg,up⟩) ?post)
 case post=>
  rintro c b7 ⟨rfl,p',a1,a2,a3,a4,a5,a6⟩;exact gh (h b7 p' a1 a2 a3 a4 a5 a6)
 case fin=>
  rintro c b7 hc;rw[show max ok n=n by lia] at hc;exact hc
 case step=>
  rintro k c b7 aW dR ⟨rfl,p',R',e',f',fx',cS,bP⟩;have hkey:P p' (lo+k)=lo+k:=fx' _ (by lia) (by lia)
  refine gd (iz (iB (I:=fun i c i3=>i3=b7/\ ∃l r,c=(none,l,r)/\l<=r/\r<=k/\r-l<=k-i/\(∀i,i<l->lt (P p' (lo+k)) (P p' (lo+i))=false)/\(∀i,r<=i->i<k->lt (P p' (lo+k)) (P p' (lo+i))=true))
   (Q:=fun c i3=>i3=b7/\ ∃l r,c=(none,l,r)/\l<=k/\(∀i,i<l->lt (P p' (lo+k)) (P p' (lo+i))=false)/\(∀i,l<=i->i<k->lt (P p' (lo+k)) (P p' (lo+i))=true)) ?s2 ?f2 ⟨rfl,0,k,rfl,by lia,by lia,by lia,fun i hi=>by lia,fun i i1 i2=>by lia⟩) ?p2)
  case f2=>
   rintro c i3 ⟨rfl,l,r,rfl,a1,a2,a3,a4,a5⟩;have:l=r:=by lia
   subst this;exact⟨rfl,l,l,rfl,a2,a4,a5⟩
  case s2=>
   rintro i c i3 _ hi ⟨rfl,l,r,rfl,a1,a2,a3,a4,a5⟩;dsimp only;by_cases hlr:l>=r
   ·rw[gq hlr];have:l=r:=by lia
    subst this;exact gh ⟨rfl,l,l,rfl,a2,a4,a5⟩
   ·rw[gv hlr];refine gd (ou H R' (by lia) (by lia) ?_);dsimp only
    cases hl:lt (P p' (lo+k)) (P p' (lo+(l+r) / 2)) with
    |true=>
     simp only[hV];refine gh ⟨rfl,l,(l+r) / 2,rfl,by lia,by lia,by lia,a4,fun i i1 i2=>?_⟩;by_cases hi:i=(l+r) / 2
     ·subst hi;exact hl
     ·exact W.lt_le hl (SL.le W (bP (lo+(l+r) / 2) (lo+i) (by lia) (by lia) (by lia)))
    |false=>
     simp only[hZ,iJ];refine gh ⟨rfl,(l+r) / 2+1,r,rfl,by lia,a2,by lia,fun i i1=>?_,a5⟩;by_cases hi:i=(l+r) / 2
     ·subst hi;exact hl
     ·exact W.le_tr (SL.le W (bP (lo+i) (lo+(l+r) / 2) (by lia) (by lia) (by lia))) hl
  case p2=>
   rintro c i3 ⟨rfl,l,r,rfl,hl,a4,a5⟩;dsimp only;have hz:lo+k<p'.size:=by rw[R'.size];lia
   have hd:lo+k-(lo+l)<=lo+k:=by lia
   have ib: ∀i,P (PyProof.Rows.bubble p' (lo+k) (lo+k-(lo+l))) i=if i=lo+l then P p' (lo+k) else if lo+l<i/\i<=lo+k then P p' (i-1) else P p' i:=fun i=>by
    rw[IV hz hd,show lo+k-(lo+k-(lo+l))=lo+l by lia]
   refine gd (Gj (gh ⟨rfl,_,R'.bubble _ _,e',fun i hi=>?_,fun i i1 i2=>?_,fun i i1 i2=>?_,fun i j i1 ij j2=>?_⟩))
   ·rw[ib,gv (by lia),gv (by lia)];exact f' i hi
   ·rw[ib,gv (by lia),gv (by lia)];exact fx' i (by lia) i2
   ·rw[ib];split
    ·rw[hkey];lia
    ·split
     ·have:=cS (i-1) (by lia) (by lia);lia
     ·have:=cS i i1 (by lia);lia
   ·
    have above: ∀m,l<=m->m<k->SL lt (P p' (lo+k)) (P p' (lo+m)):=fun m m1 m2=> .inl (a5 m m1 m2);have below: ∀m,m<l->SL lt (P p' (lo+m)) (P p' (lo+k)):=fun m m1=> .inr ⟨a4 m m1,by have:=cS (lo+m) (by lia) (by lia);lia⟩;rw[ib,ib];by_cases hi:i=lo+l
    ·subst hi;rw[gq rfl,gv (by lia),gq (by lia)];have:=above (j-1-lo) (by lia) (by lia)
     rwa [show lo+(j-1-lo)=j-1 by lia] at this
    ·rw[gv hi];by_cases hj:j=lo+l
     ·subst hj;rw[gq rfl,gv (by lia)];have:=below (i-lo) (by lia)
      rwa [show lo+(i-lo)=i by lia] at this
     ·rw[gv hj];by_cases ci:lo+l<i/\i<=lo+k
      ·rw[gq ci,gq (by lia)];exact bP _ _ (by lia) (by lia) (by lia)
      ·rw[gv ci];by_cases cj:lo+l<j/\j<=lo+k
       ·rw[gq cj];exact bP _ _ i1 (by lia) (by lia)
       ·rw[gv cj];exact bP _ _ i1 ij (by lia)
end
noncomputable def km:Bool->Keyed->Array Keyed->Nat->Nat->Nat->StateT SortSt Sem (Option Nat):=sortPriv%PySem.Builtin.gallop
noncomputable def vI:Array Keyed->Array Keyed->StateT SortSt Sem (Array Keyed):=sortPriv%PySem.Builtin.mergeLo
noncomputable def vJ:Array Keyed->Array Keyed->StateT SortSt Sem (Array Keyed):=sortPriv%PySem.Builtin.mergeHi
noncomputable def qD:Nat->StateT SortSt Sem Unit:=sortPriv%PySem.Builtin.setMinGallop
noncomputable def bey(left:Bool)(key:Keyed)(arr:lW)(base i:Nat):StateT SortSt Sem (Option Bool):=do
 let y <-elem' arr (base+i)
 if left=true then lt' y key else do
  let r <-lt' key y
  pure (Option.map (fun x=>!x) r)
theorem EX(left:Bool)(key:Keyed)(arr:lW)(base n hint:Nat):km left key arr base n hint=(do
 let mut lastofs:=0
 let mut ofs:=1
 let mut lo:=0
 let mut hi:=0
 let some right <-bey left key arr base hint|return none
 if right then
  let m5:=n-hint
  for _ in [0:n] do
   if ofs>=m5 then break
   let some more <-bey left key arr base (hint+ofs)|return none
   if !more then break
   lastofs:=ofs
   ofs:=2*ofs+1
  lo:=hint+lastofs+1
  hi:=hint+min ofs m5
 else
  let m5:=hint+1
  for _ in [0:n] do
   if ofs>=m5 then break
   let some found <-bey left key arr base (hint-ofs)|return none
   if found then break
   lastofs:=ofs
   ofs:=2*ofs+1
  lo:=hint+1-min ofs m5
  hi:=hint-lastofs
 for _ in [0:n] do
  if lo>=hi then break
  let m:=lo+(hi-lo) / 2
  let some more <-bey left key arr base m|return none
  if more then lo:=m+1 else hi:=m
 return some hi):=rfl
section
variable {prog:gC}{w:gy}{A:gB}{E:gU}{G:Shared->Prop}{it:lV}{lt:kO}{κ:SortKind}{N:Nat}
noncomputable def Bq(lt:kO)(left:Bool)(x:Nat)(q:jL)(base i:Nat):Bool:=if left=true then lt (P q (base+i)) x else !lt x (P q (base+i))
theorem ub(H:Ask prog w A E G it κ N lt){left:Bool}{x:Nat}{q:jL}{base i:Nat}(hx:x<N)(hq: ∀k,k<q.size->P q k<N)(hi:base+i<q.size){st:iA}(hk:kindOf st=κ){Q:Option Bool->SortSt->Prop}(h:Q (some (Bq lt left x q base i)) st):
  wpI (model prog w) A E G (bey left (it x) (q.map it) base i) Q st:=by
 unfold bey;refine gd (uU rfl hi ?_);unfold Bq at h
 cases left with
 |true=>simp only[hV] at h ⊢;exact uT H hk (hq _ hi) hx h
 |false=>simp only[hZ,iJ] at h ⊢;exact gd (uT H hk hx (hq _ hi) (gh h))
theorem zU(H:Ask prog w A E G it κ N lt){left:Bool}{x:Nat}{q:jL}{base n:Nat}(hx:x<N)(hq: ∀k,k<q.size->P q k<N)(hn:base+n<=q.size){st:iA}(hk:kindOf st=κ)(mono: ∀i j,i<=j->j<n->Bq lt left x q base j=true->Bq lt left x q base i=true)
  {lo hi:Nat}(h1:lo<=hi)(h2:hi<=n)(h3: ∀i,i<lo->Bq lt left x q base i=true)(h4: ∀i,hi<=i->i<n->Bq lt left x q base i=false){Q:Option (Option Nat)×Nat×Nat->SortSt->Prop}
  (h: ∀r,r<=n->(∀i,i<r->Bq lt left x q base i=true)->(∀i,r<=i->i<n->Bq lt left x q base i=false)->Q (none,r,r) st):
  wpI (model prog w) A E G (forIn [:n] ((none,lo,hi):Option (Option Nat)×Nat×Nat) fun _ r=>
    if r.2.1>=r.2.2 then pure (ForInStep.done (none,r.2.1,r.2.2))
    else do
     let y <-bey left (it x) (q.map it) base (r.2.1+(r.2.2-r.2.1) / 2)
     match y with
     |some more=>if more=true then pure (ForInStep.yield (none,r.2.1+(r.2.2-r.2.1) / 2+1,r.2.2)) else pure (ForInStep.yield (none,r.2.1,r.2.1+(r.2.2-r.2.1) / 2))
     |_=>pure (ForInStep.done (some none,r.2.1,r.2.2))) Q st:=by
 refine(iz (iB (I:=fun i c i3=>i3=st/\ ∃lo hi,c=(none,lo,hi)/\lo<=hi/\hi<=n/\hi-lo<=n-i/\(∀i,i<lo->Bq lt left x q base i=true)/\(∀i,hi<=i->i<n->Bq lt left x q base i=false))
  (Q:=fun c i3=>i3=st/\ ∃r,c=(none,r,r)/\r<=n/\(∀i,i<r->Bq lt left x q base i=true)/\(∀i,r<=i->i<n->Bq lt left x q base i=false)) ?step ?fin ⟨rfl,lo,hi,rfl,h1,h2,by omega,h3,h4⟩) ?post)
 case post=>
  rintro c i3 ⟨rfl,r,rfl,a1,a2,a3⟩;exact h r a1 a2 a3
 case fin=>
  rintro c i3 ⟨rfl,lo,hi,rfl,a1,a2,a3,a4,a5⟩;have:lo=hi:=by omega
  subst this;exact⟨rfl,lo,rfl,a2,a4,a5⟩
 case step=>
  rintro i c i3 _ hi' ⟨rfl,lo,hi,rfl,a1,a2,a3,a4,a5⟩;dsimp only;by_cases hlh:lo>=hi
  ·rw[gq hlh];have:lo=hi:=by omega
   subst this;exact gh ⟨rfl,lo,rfl,a2,a4,a5⟩
  ·rw[gv hlh];refine gd (ub (i:=lo+(hi-lo) / 2) H hx hq (by omega) hk ?_);dsimp only
   cases hb:Bq lt left x q base (lo+(hi-lo) / 2) with
   |true=>
    simp only[hV];exact gh ⟨rfl,_,hi,rfl,by omega,a2,by omega,fun i aH=>mono i (lo+(hi-lo) / 2) (by omega) (by omega) hb,a5⟩
   |false=>
    simp only[hZ,iJ];refine gh ⟨rfl,lo,_,rfl,by omega,by omega,by omega,a4,fun i i1 i2=>?_⟩
    cases hc:Bq lt left x q base i with
    |false=>rfl
    |true=>have:=mono _ _ i1 i2 hc;rw[hb] at this;cases this
theorem BY(H:Ask prog w A E G it κ N lt){left:Bool}{x:Nat}{q:jL}{base n hint:Nat}(hx:x<N)(hq: ∀k,k<q.size->P q k<N)(hn:base+n<=q.size)(hh:hint<n){st:iA}(hk:kindOf st=κ)(mono: ∀i j,i<=j->j<n->Bq lt left x q base j=true->Bq lt left x q base i=true)
  {Q:wQ}(h: ∀r,r<=n->(∀i,i<r->Bq lt left x q base i=true)->(∀i,r<=i->i<n->Bq lt left x q base i=false)->Q (some r) st):
  wpI (model prog w) A E G (km left (it x) (q.map it) base n hint) Q st:=by
 have anti: ∀i j,i<=j->j<n->Bq lt left x q base i=false->Bq lt left x q base j=false:=fun i j ij jn hi=>by
  cases hc:Bq lt left x q base j with
  |false=>rfl
  |true=>have:=mono _ _ ij jn hc;rw[hi] at this;cases this
 rw[EX];dsimp only;refine gd (ub (i:=hint) H hx hq (by omega) hk ?_);dsimp only
 cases hb:Bq lt left x q base hint with
 |true=>
  simp only[hV]
  refine gd (iz (iB (I:=fun i c i3=>i3=st/\ ∃last ofs,c=(none,last,ofs)/\last<ofs/\i+1<=ofs/\hint+last<n/\Bq lt left x q base (hint+last)=true)
   (Q:=fun c i3=>i3=st/\ ∃last ofs,c=(none,last,ofs)/\last<ofs/\hint+last<n/\Bq lt left x q base (hint+last)=true/\(ofs>=n-hint\/Bq lt left x q base (hint+ofs)=false)) ?step ?fin ⟨rfl,0,1,rfl,by omega,by omega,by omega,hb⟩) ?post)
  case post=>
   rintro c i3 ⟨rfl,last,ofs,rfl,a1,a2,a3,a4⟩;dsimp only;refine gd (zU H hx hq hn hk mono (lo:=hint+last+1) (hi:=hint+min ofs (n-hint)) (by omega) (by omega) (fun i hi=>mono i _ (by omega) a2 a3) (fun i i1 i2=>?_) fun r b1 b2 b3=>gh (h r b1 b2 b3));rcases a4 with a4|a4
   ·omega
   ·exact anti (hint+ofs) i (by omega) i2 a4
  case fin=>
   rintro c i3 ⟨rfl,last,ofs,rfl,a1,a2,a3,a4⟩;exact⟨rfl,last,ofs,rfl,a1,a3,a4,.inl (by omega)⟩
  case step=>
   rintro i c i3 _ hi ⟨rfl,last,ofs,rfl,a1,a2,a3,a4⟩;dsimp only;by_cases ho:ofs>=n-hint
   ·rw[gq ho];exact gh ⟨rfl,last,ofs,rfl,a1,a3,a4,.inl ho⟩
   ·rw[gv ho];refine gd (ub (i:=hint+ofs) H hx hq (by omega) hk ?_);dsimp only
    cases hc:Bq lt left x q base (hint+ofs) with
    |false=>simp only[Bool.not_false,hV];exact gh ⟨rfl,last,ofs,rfl,a1,a3,a4,.inr hc⟩
    |true=>simp only[uu,hZ,iJ];exact gh ⟨rfl,ofs,2*ofs+1,rfl,by omega,by omega,by omega,hc⟩
 |false=>
  simp only[hZ,iJ]
  refine gd (iz (iB (I:=fun i c i3=>i3=st/\ ∃last ofs,c=(none,last,ofs)/\last<ofs/\i+1<=ofs/\last<=hint/\Bq lt left x q base (hint-last)=false)
   (Q:=fun c i3=>i3=st/\ ∃last ofs,c=(none,last,ofs)/\last<ofs/\last<=hint/\Bq lt left x q base (hint-last)=false/\(ofs>=hint+1\/Bq lt left x q base (hint-ofs)=true)) ?step ?fin ⟨rfl,0,1,rfl,by omega,by omega,by omega,hb⟩) ?post)
  case post=>
   rintro c i3 ⟨rfl,last,ofs,rfl,a1,a2,a3,a4⟩;dsimp only;refine gd (zU H hx hq hn hk mono (lo:=hint+1-min ofs (hint+1)) (hi:=hint-last) (by omega) (by omega) (fun i hi=>?_) (fun i i1 i2=>anti _ i i1 i2 a3) fun r b1 b2 b3=>gh (h r b1 b2 b3));rcases a4 with a4|a4
   ·omega
   ·by_cases ho:ofs>=hint+1
    ·omega
    ·exact mono i _ (by omega) (by omega) a4
  case fin=>
   rintro c i3 ⟨rfl,last,ofs,rfl,a1,a2,a3,a4⟩;exact⟨rfl,last,ofs,rfl,a1,a3,a4,.inl (by omega)⟩
  case step=>
   rintro i c i3 _ hi ⟨rfl,last,ofs,rfl,a1,a2,a3,a4⟩;dsimp only;by_cases ho:ofs>=hint+1
   ·rw[gq ho];exact gh ⟨rfl,last,ofs,rfl,a1,a3,a4,.inl ho⟩
   ·rw[gv ho];refine gd (ub (i:=hint-ofs) H hx hq (by omega) hk ?_);dsimp only
    cases hc:Bq lt left x q base (hint-ofs) with
    |true=>simp only[hV];exact gh ⟨rfl,last,ofs,rfl,a1,a3,a4,.inr hc⟩
    |false=>simp only[hZ,iJ];exact gh ⟨rfl,ofs,2*ofs+1,rfl,by omega,by omega,by omega,hc⟩
end
theorem Cr(a b:lW):vI a b=(do
 rule "list.sort.merge-lo"
 let total:=a.size+b.size
 let done (out:lW) (ia ib:Nat):=out++a.extract ia a.size++b.extract ib b.size
 let l9 (out:lW) (ia ib:Nat):=out++b.extract ib b.size++a.extract ia a.size
 let mut out:Array Keyed:= #[<-elem' b 0]
 let mut ia:=0
 let mut ib:=1
 if ib==b.size then return done out ia ib
 if ia+1==a.size then return l9 out ia ib
 let mut minGallop:=gallopOf (<-get)
 for _ in [0:total] do
  let mut acount:=0
  let mut bcount:=0
  for _ in [0:total] do
   let some bWins <-lt' (<-elem' b ib) (<-elem' a ia)|return done out ia ib
   if bWins then
    out:=out.push (<-elem' b ib);ib:=ib+1;bcount:=bcount+1;acount:=0
    if ib==b.size then return done out ia ib
    if bcount>=minGallop then break
   else
    out:=out.push (<-elem' a ia);ia:=ia+1;acount:=acount+1;bcount:=0
    if ia+1==a.size then return l9 out ia ib
    if acount>=minGallop then break
  rule "list.sort.gallop"
  minGallop:=minGallop+1
  for _ in [0:total] do
   if minGallop>1 then minGallop:=minGallop-1
   qD minGallop
   let some k <-km false (<-elem' b ib) a ia (a.size-ia) 0|return done out ia ib
   acount:=k
   if k>0 then
    out:=out++a.extract ia (ia+k);ia:=ia+k
    if ia+1==a.size then return l9 out ia ib
    if ia==a.size then return done out ia ib
   out:=out.push (<-elem' b ib);ib:=ib+1
   if ib==b.size then return done out ia ib
   let some k <-km true (<-elem' a ia) b ib (b.size-ib) 0|return done out ia ib
   bcount:=k
   if k>0 then
    out:=out++b.extract ib (ib+k);ib:=ib+k
    if ib==b.size then return done out ia ib
   out:=out.push (<-elem' a ia);ia:=ia+1
   if ia+1==a.size then return l9 out ia ib
   if acount<7&&bcount<7 then break
  minGallop:=minGallop+1
  qD minGallop
 unsupported "internal:list.sort.merge-bound"):=rfl
section
variable {prog:gC}{w:gy}{A:gB}{E:gU}{G:Shared->Prop}{it:lV}{lt:kO}{κ:SortKind}{N:Nat}
structure Pre(lt:kO)(N:Nat)(q r:gW):Prop where
 sq:q.Pairwise (SL lt)
 sr:r.Pairwise (SL lt)
 ix: ∀x∈q,∀y∈r,x<y
 nq: ∀x∈q,x<N
 nr: ∀x∈r,x<N
structure MG(lt:kO)(q r o:gW)(ia ib:Nat):Prop where
 srt:o.Pairwise (SL lt)
 low: ∀x∈o,∀y,(y∈q.drop ia\/y∈r.drop ib)->SL lt x y
 pm:(o++(q.drop ia++r.drop ib)).Perm (q++r)
def Res(lt:kO)(it:lV)(q r:gW)(out:lW):Prop:= ∃o:List Nat,out=(o.map it).toArray/\o.Pairwise (SL lt)/\o.Perm (q++r)
theorem jH{l:gW}{i:Nat}(h:i<l.length):l.drop i=l[i]::l.drop (i+1):=sO h
theorem mJ{l:gW}{i j:Nat}{x:Nat}(h:x∈l.drop j)(k6:i<=j):x∈l.drop i:=by
 rw[show j=i+(j-i) by omega,<-mU] at h;exact kX h
section
variable {q r o:gW}{ia ib:Nat}(W:Wk lt)(B:Pre lt N q r)
include W B
theorem CC(h:ia<q.length): ∀y∈q.drop (ia+1),SL lt q[ia] y:=fun y hy=>by
 have:=B.sq.sublist (nV ia q);rw[jH h,nY] at this;exact this.1 y hy
theorem zo(h:ib<r.length): ∀y∈r.drop (ib+1),SL lt r[ib] y:=fun y hy=>by
 have:=B.sr.sublist (nV ib r);rw[jH h,nY] at this;exact this.1 y hy
theorem MG.putB(m:MG lt q r o ia ib)(hb:ib<r.length)(h: ∀y∈q.drop ia,SL lt r[ib] y):MG lt q r (o++[r[ib]]) ia (ib+1):=by
 have hm:r[ib]∈r.drop ib:=by rw[jH hb];exact jg
 refine⟨lI.mpr ⟨m.srt,ym _ _,fun x hx y hy=>?_⟩,fun x hx y hy=>?_,?_⟩
 ·rw[nZ] at hy;subst hy;exact m.low x hx _ (.inr hm)
 ·rcases nG.mp hx with hx|hx
  ·exact m.low x hx y (hy.imp id fun z=>mJ z (yz _))
  ·rw[nZ] at hx;subst hx;exact hy.elim (h y) (zo W B hb y)
 ·refine List.Perm.trans ?_ m.pm;rw[jH hb,jQ];refine qr o ?_;exact(Fi (l₁:=q.drop ia) (l₂:=r.drop (ib+1)) (a:=r[ib])).symm
theorem MG.putA(m:MG lt q r o ia ib)(ha:ia<q.length)(h: ∀y∈r.drop ib,SL lt q[ia] y):MG lt q r (o++[q[ia]]) (ia+1) ib:=by
 have hm:q[ia]∈q.drop ia:=by rw[jH ha];exact jg
 refine⟨lI.mpr ⟨m.srt,ym _ _,fun x hx y hy=>?_⟩,fun x hx y hy=>?_,?_⟩
 ·rw[nZ] at hy;subst hy;exact m.low x hx _ (.inl hm)
 ·rcases nG.mp hx with hx|hx
  ·exact m.low x hx y (hy.imp (fun z=>mJ z (yz _)) id)
  ·rw[nZ] at hx;subst hx;exact hy.elim (CC W B ha y) (h y)
 ·refine List.Perm.trans ?_ m.pm;rw[jH ha,jQ];exact rA _
theorem MG.putBs(m:MG lt q r o ia ib)(h: ∀x∈(r.drop ib).take k,∀y∈q.drop ia,SL lt x y):MG lt q r (o++(r.drop ib).take k) ia (ib+k):=by
 have hs:=B.sr.sublist (nV ib r);rw[<-lD k (r.drop ib),lI] at hs;obtain⟨s1,s2,s3⟩:=hs;have e:r.drop (ib+k)=(r.drop ib).drop k:=by rw[mU]
 refine⟨lI.mpr ⟨m.srt,s1,fun x hx y hy=>m.low x hx y (.inr (lK hy))⟩,fun x hx y hy=>?_,?_⟩
 ·rcases nG.mp hx with hx|hx
  ·exact m.low x hx y (hy.imp id fun z=>mJ z (Nat.le_add_right _ _))
  ·exact hy.elim (h x hx y) fun z=>s3 x hx y (by rw[<-e];exact z)
 ·refine List.Perm.trans ?_ m.pm;rw[e,jQ];refine qr o ?_
  have:(List.take k (r.drop ib)++(q.drop ia++List.drop k (r.drop ib))).Perm (q.drop ia++(List.take k (r.drop ib)++List.drop k (r.drop ib))):=by
   rw[<-jQ,<-jQ];exact rq _ yk
  rw[lD] at this;exact this
theorem MG.putAs(m:MG lt q r o ia ib)(h: ∀x∈(q.drop ia).take k,∀y∈r.drop ib,SL lt x y):MG lt q r (o++(q.drop ia).take k) (ia+k) ib:=by
 have hs:=B.sq.sublist (nV ia q);rw[<-lD k (q.drop ia),lI] at hs;obtain⟨s1,s2,s3⟩:=hs;have e:q.drop (ia+k)=(q.drop ia).drop k:=by rw[mU]
 refine⟨lI.mpr ⟨m.srt,s1,fun x hx y hy=>m.low x hx y (.inl (lK hy))⟩,fun x hx y hy=>?_,?_⟩
 ·rcases nG.mp hx with hx|hx
  ·exact m.low x hx y (hy.imp (fun z=>mJ z (Nat.le_add_right _ _)) id)
  ·exact hy.elim (fun z=>s3 x hx y (by rw[<-e];exact z)) (h x hx y)
 ·refine List.Perm.trans ?_ m.pm;rw[e,jQ];refine qr o ?_;rw[<-jQ,lD]
theorem MG.endA(m:MG lt q r o ia ib)(h:r.drop ib=[]):(o++q.drop ia).Pairwise (SL lt)/\(o++q.drop ia).Perm (q++r):=by
 have pm:=m.pm;rw[h,sV] at pm;exact⟨lI.mpr ⟨m.srt,B.sq.sublist (nV ia q),fun x hx y hy=>m.low x hx y (.inl hy)⟩,pm⟩
theorem MG.endB(m:MG lt q r o ia ib)(h:q.drop ia=[]):(o++r.drop ib).Pairwise (SL lt)/\(o++r.drop ib).Perm (q++r):=by
 have pm:=m.pm;rw[h,ur] at pm;exact⟨lI.mpr ⟨m.srt,B.sr.sublist (nV ib r),fun x hx y hy=>m.low x hx y (.inr hy)⟩,pm⟩
theorem MG.endL(m:MG lt q r o ia ib)(h: ∀x∈r.drop ib,∀y∈q.drop ia,SL lt x y):(o++(r.drop ib++q.drop ia)).Pairwise (SL lt)/\(o++(r.drop ib++q.drop ia)).Perm (q++r):=by
 refine⟨lI.mpr ⟨m.srt,lI.mpr ⟨B.sr.sublist (nV ib r),B.sq.sublist (nV ia q),h⟩,fun x hx y hy=>m.low x hx y ((nG.mp hy).symm)⟩,?_⟩;exact List.Perm.trans (qr o yk) m.pm
end
theorem jG{q:gW}{i:Nat}(hi:i<q.length){st:iA}{Q:Keyed->SortSt->Prop}(h:Q (it q[i]) st):wpI (model prog w) A E G (elem' (q.map it).toArray i) Q st:=by
 rw[elem'_eq];have:(q.map it).toArray[i]?=some (it q[i]):=by simp[hi]
 rw[this];exact gh h
theorem IT{q:gW}{i:Nat}(hi:i<q.length):P q.toArray i=q[i]:=by simp[P,hi]
theorem oW(W:Wk lt)(H:Ask prog w A E G it κ N lt){left:Bool}{x:Nat}{q:gW}{base n hint:Nat}(hx:x<N)(hq: ∀y∈q,y<N)(hn:base+n<=q.length)(hh:hint<n){st:iA}(hk:kindOf st=κ)(srt:((q.drop base).take n).Pairwise (SL lt)){Q:wQ}
  (h: ∀r,r<=n->(∀y∈((q.drop base).take n).take r,(if left=true then lt y x else !lt x y)=true)->(∀y∈((q.drop base).take n).drop r,(if left=true then lt y x else !lt x y)=false)->Q (some r) st):
  wpI (model prog w) A E G (km left (it x) (q.map it).toArray base n hint) Q st:=by
 have ea:(q.map it).toArray=q.toArray.map it:=by simp
 rw[ea];have hl:((q.drop base).take n).length=n:=by simp;lia
 have get: ∀i (hi:i<n),P q.toArray (base+i)=((q.drop base).take n)[i]:=fun i hi=>by
  rw[IT (by lia)];simp
 have bq: ∀i (hi:i<n),Bq lt left x q.toArray base i=(if left=true then lt (((q.drop base).take n)[i]) x else !lt x (((q.drop base).take n)[i])):=fun i hi=>by unfold Bq;rw[get i hi]
 refine BY H hx (fun k hk=>?_) (by simpa using hn) hh hk (fun i j ij jn hb=>?_) fun r r1 r2 r3=>h r r1 (fun y hy=>?_) (fun y hy=>?_)
 ·have cI:k<q.length:=by simpa using hk
  rw[IT cI];exact hq _ (ku cI)
 ·rcases yn i j with u6|fj
  ·rw[bq j jn] at hb;rw[bq i (by lia)];have sl:=Ei.mp srt i j (by lia) (by lia) u6
   cases left with
   |true=>
    simp only[hV] at hb ⊢;exact W.le_lt (SL.le W sl) hb
   |false=>
    simp only[hZ,iJ,uG] at hb ⊢;exact W.le_tr (SL.le W sl) hb
  ·have:i=j:=by lia
   subst this;exact hb
 ·obtain⟨i,hi,e⟩:=uF hy;have aH:i<r:=by simp at hi;lia
  have:=r2 i aH;rw[bq i (by lia)] at this;rw[<-e,List.getElem_take];exact this
 ·obtain⟨i,hi,e⟩:=uF hy;have aH:r+i<n:=by simp at hi;lia
  have:=r3 (r+i) (by lia) aH;rw[bq (r+i) aH] at this;rw[<-e,List.getElem_drop];exact this
theorem rf{o:gW}{x:Nat}:((o.map it).toArray.push (it x))=((o++[x]).map it).toArray:=by simp
theorem Eg{o q r:gW}{i j:Nat}:((o.map it).toArray++(q.map it).toArray.extract i (q.map it).toArray.size++(r.map it).toArray.extract j (r.map it).toArray.size)=((o++(q.drop i++r.drop j)).map it).toArray:=by
 simp[rp,rm];rw[qp (by simp),qp (by simp)]
theorem Ef{o q:gW}{i k:Nat}:((o.map it).toArray++(q.map it).toArray.extract i (i+k))=((o++(q.drop i).take k).map it).toArray:=by
 simp[rp,rm]
def Same(st b7:iA):Prop:=kindOf b7=kindOf st/\arrOf b7=arrOf st/\pendingOf b7=pendingOf st/\failedOf b7=failedOf st
theorem Same.refl{st:iA}:Same st st:=⟨rfl,rfl,rfl,rfl⟩
theorem Same.trans{a b c:iA}(x:Same a b)(y:Same b c):Same a c:=⟨y.1.trans x.1,y.2.1.trans x.2.1,y.2.2.1.trans x.2.2.1,y.2.2.2.trans x.2.2.2⟩
theorem oV{n:Nat}{st:iA}{Q:Unit->SortSt->Prop}(h: ∀b7,Same st b7->Q () b7):wpI (model prog w) A E G (qD n) Q st:=
 ju (f:=fun s=>SortSt.mk' (kindOf s) (arrOf s) (pendingOf s) n (failedOf s)) (h _ ⟨rfl,rfl,rfl,rfl⟩)
theorem oE(W:Wk lt){q r o:gW}{ia ib:Nat}(B:Pre lt N q r)(m:MG lt q r o ia ib)(h:q.length<=ia\/r.length<=ib):Res lt it q r ((o.map it).toArray++(q.map it).toArray.extract ia (q.map it).toArray.size++(r.map it).toArray.extract ib (r.map it).toArray.size):=by
 refine⟨_,Eg,?_⟩;rcases h with h|h
 ·have e:q.drop ia=[]:=uI h;have:=m.endB W B e;rw[e,ur];exact this
 ·have e:r.drop ib=[]:=uI h;have:=m.endA W B e;rw[e,sV];exact this
theorem Am(W:Wk lt){q r o:gW}{ia ib:Nat}(B:Pre lt N q r)(m:MG lt q r o ia ib)(h: ∀x∈r.drop ib,∀y∈q.drop ia,SL lt x y):Res lt it q r ((o.map it).toArray++(r.map it).toArray.extract ib (r.map it).toArray.size++(q.map it).toArray.extract ia (q.map it).toArray.size):=
 ⟨_,Eg,m.endL W B h⟩
abbrev sz(q:gW)(it:lV):(q.map it).toArray.size=q.length:=by simp
abbrev LoS:=Option (Array Keyed)×Array Keyed×Nat×Nat×Nat×Nat×Nat
noncomputable def Dl(a b out:lW)(ia ib mg k k2:Nat):StateT SortSt Sem (ForInStep LoS):=do
 let y <-elem' a ia
 if(ia+1+1==a.size)=true then pure (ForInStep.done (some (out.push y++b.extract ib b.size++a.extract (ia+1) a.size),out.push y,ia+1,ib,mg,k,k2))
 else if(decide (k<7)&&decide (k2<7))=true then pure (ForInStep.done (none,out.push y,ia+1,ib,mg,k,k2)) else pure (ForInStep.yield (none,out.push y,ia+1,ib,mg,k,k2))
noncomputable def HM(a b out:lW)(ia ib mg k bc:Nat):StateT SortSt Sem (ForInStep LoS):=do
 let y <-elem' b ib
 if(ib+1==b.size)=true then pure (ForInStep.done (some (out.push y++a.extract ia a.size++b.extract (ib+1) b.size),out.push y,ia,ib+1,mg,k,bc))
 else do
  let z <-elem' a ia
  let x <-km true z b (ib+1) (b.size-(ib+1)) 0
  match x with
  |some k2=>
   if k2>0 then
    if(ib+1+k2==b.size)=true then pure (ForInStep.done (some (out.push y++b.extract (ib+1) (ib+1+k2)++a.extract ia a.size++b.extract (ib+1+k2) b.size),out.push y++b.extract (ib+1) (ib+1+k2),ia,ib+1+k2,mg,k,k2))
    else Dl a b (out.push y++b.extract (ib+1) (ib+1+k2)) ia (ib+1+k2) mg k k2
   else Dl a b (out.push y) ia (ib+1) mg k k2
  |_=>pure (ForInStep.done (some (out.push y++a.extract ia a.size++b.extract (ib+1) b.size),out.push y,ia,ib+1,mg,k,bc))
def Eh(lt:kO)(it:lV)(q r:gW)(c st:Nat)(S:SortSt->Prop)(x:ForInStep LoS)(b7:iA):Prop:=
 match x with
 | .done c'=>S b7/\((∃res x,c'=(some res,x)/\Res lt it q r res)\/ ∃o2 g9 j6 n5 ac bc,c'=(none,(o2.map it).toArray,g9,j6,n5,ac,bc)/\MG lt q r o2 g9 j6/\g9+1<q.length/\j6<r.length/\c<=g9+j6)
 | .yield c'=> ∃o2 g9 j6 n5 ac bc,c'=(none,(o2.map it).toArray,g9,j6,n5,ac,bc)/\MG lt q r o2 g9 j6/\g9+1<q.length/\j6<r.length/\st<=g9+j6/\S b7
section
variable(W:Wk lt)(H:Ask prog w A E G it κ N lt){q r:gW}(B:Pre lt N q r)(top: ∀x∈r,∀y∈q.drop (q.length-1),SL lt x y){S:SortSt->Prop}{o:gW}{ia ib mg k k2 bc c cy:Nat}{st:iA}
include W H B top
theorem wV(m:MG lt q r o ia ib)(ha:ia+1<q.length)(hb:ib<r.length)(fb: ∀y∈r.drop ib,SL lt q[ia] y)(hs:S st)(hc:c<=ia+1+ib)(hy:cy<=ia+1+ib):
  wpI (model prog w) A E G (Dl (q.map it).toArray (r.map it).toArray (o.map it).toArray ia ib mg k k2) (Eh lt it q r c cy S) st:=by
 unfold Dl;refine gd (jG (i:=ia) (by lia) ?_);have m2:=m.putA W B (by lia) fb;rw[rf];refine gY (fun he=>?_) fun he=>?_
 ·have:ia+1+1=q.length:=by simpa using he
  exact gh ⟨hs,.inl ⟨_,_,rfl,Am W B m2 fun x hx y hy=>top x (kX hx) y (by rw[show q.length-1=ia+1 by lia];exact hy)⟩⟩
 ·have:ia+1+1≠q.length:=by simpa using he
  refine gY (fun h7=>?_) fun h7=>?_
  ·exact gh ⟨hs,.inr ⟨_,_,_,_,_,_,rfl,m2,by lia,hb,hc⟩⟩
  ·exact gh ⟨_,_,_,_,_,_,rfl,m2,by lia,hb,hy,hs⟩
theorem Gk(hk:kindOf st=κ)(m:MG lt q r o ia ib)(ha:ia+1<q.length)(hb:ib<r.length)(fa: ∀y∈q.drop ia,SL lt r[ib] y)(hs:S st)(hc:c<=ia+ib)(hy:cy<=ia+1+ib):
  wpI (model prog w) A E G (HM (q.map it).toArray (r.map it).toArray (o.map it).toArray ia ib mg k bc) (Eh lt it q r c cy S) st:=by
 unfold HM;refine gd (jG hb ?_);have m2:=m.putB W B hb fa;rw[rf];refine gY (fun he=>?_) fun he=>?_
 ·have:ib+1=r.length:=by simpa using he
  exact gh ⟨hs,.inl ⟨_,_,rfl,oE W B m2 (.inr (by lia))⟩⟩
 ·have he:ib+1≠r.length:=by simpa using he
  have en:(r.drop (ib+1)).take ((r.map it).toArray.size-(ib+1))=r.drop (ib+1):=qp (by simp);refine gd (jG (i:=ia) (by lia) (gd (oW W H (B.nq _ (ku _)) B.nr (by rw[sz];lia) (by rw[sz];lia) hk (by rw[en];exact B.sr.sublist (nV _ _)) fun k' k1 k2 k3=>?_)));rw[en] at k2 k3;rw[sz] at k1;simp only[hV] at k2 k3
  have m3:=m2.putBs W B (k:=k') fun x hx y hy=>by
   rw[jH (show ia<q.length by lia)] at hy;rcases kb.mp hy with rfl|hy
   ·exact .inl (k2 x hx)
   ·exact SL.trans W (.inl (k2 x hx)) (CC W B (by lia) y hy)
  have fb: ∀y∈r.drop (ib+1+k'),SL lt q[ia] y:=fun y hy=>by
   rw[<-mU] at hy;exact .inr ⟨k3 y hy,B.ix _ (ku _) _ (kX (kX hy))⟩
  dsimp only;refine gY (fun hp=>?_) fun hp=>?_
  ·rw[Ef];refine gY (fun hf=>?_) fun hf=>?_
   ·have:ib+1+k'=r.length:=by simpa using hf
    exact gh ⟨hs,.inl ⟨_,_,rfl,oE W B m3 (.inr (by lia))⟩⟩
   ·have:ib+1+k'≠r.length:=by simpa using hf
    exact wV W H B top m3 ha (by lia) fb hs (by lia) (by lia)
  ·have hz:k'=0:=by lia
   subst hz;exact wV W H B top m2 ha (by lia) fb hs (by lia) (by lia)
end
theorem Lk(W:Wk lt)(H:Ask prog w A E G it κ N lt){q r:gW}(B:Pre lt N q r)(h1:1<=q.length)(h2:1<=r.length)(hd: ∀y∈q,SL lt r[0] y)(top: ∀x∈r,∀y∈q.drop (q.length-1),SL lt x y){st:iA}(hk:kindOf st=κ){Q:Array Keyed->SortSt->Prop}
  (h: ∀out b7,Res lt it q r out->Same st b7->Q out b7):wpI (model prog w) A E G (vI (q.map it).toArray (r.map it).toArray) Q st:=by
 have aB: ∀{o ia ib},MG lt q r o ia ib->ia+1=q.length->Res lt it q r ((o.map it).toArray++(r.map it).toArray.extract ib (r.map it).toArray.size++(q.map it).toArray.extract ia (q.map it).toArray.size):=fun {o ia ib} m e=>Am W B m fun x hx y hy=>top x (kX hx) y (by rw[show q.length-1=ia by lia];exact hy);rw[Cr];dsimp only;refine gd (mY (gd (jG (by lia) ?_)))
 have m0:MG lt q r [r[0]] 0 1:=by
  have:=MG.putB (o:=[]) (ia:=0) (ib:=0) W B ⟨List.Pairwise.nil,fun x hx=>absurd hx kP,by simp⟩ (by lia) (by simpa using hd);simpa using this
 have e0: #[it r[0]]=(([r[0]]:List Nat).map it).toArray:=rfl;rw[e0];refine gY (fun bC=>?_) fun bC=>?_
 ·have:1=r.length:=by simpa using bC
  exact gh (h _ _ (oE W B m0 (.inr (by lia))) .refl)
 ·have bC:1≠r.length:=by simpa using bC
  refine gY (fun y6=>?_) fun y6=>?_
  ·have:0+1=q.length:=by simpa using y6
   exact gh (h _ _ (aB m0 this) .refl)
  ·have y6:1≠q.length:=by simpa using y6
   refine gd (kI ?_)
   refine gd (iz (iB (I:=fun i c b7=> ∃o ia ib mg,c=(none,(o.map it).toArray,ia,ib,mg)/\MG lt q r o ia ib/\ia+1<q.length/\ib<r.length/\i+1<=ia+ib/\Same st b7)
    (Q:=fun c b7=> ∃res x,c=(some res,x)/\Res lt it q r res/\Same st b7) ?step ?fin ⟨_,0,1,_,rfl,m0,by lia,by lia,by lia,.refl⟩) ?post)
   case post=>
    rintro c b7 ⟨res,x,rfl,hr,hs⟩;exact gh (h res b7 hr hs)
   case fin=>
    rintro c b7 ⟨o,ia,ib,mg,rfl,m,b1,b2,b3,hs⟩;rw[sz,sz] at b3
    lia
   case step=>
    rintro i c ai _ _ ⟨o,ia,ib,mg,rfl,m,b1,b2,b3,hs⟩;dsimp only
    refine gd (iz (iB (I:=fun j c b7=>b7=ai/\ ∃o' r6 u4 ac bc,c=(none,(o'.map it).toArray,r6,u4,ac,bc)/\MG lt q r o' r6 u4/\r6+1<q.length/\u4<r.length/\ia+ib+j<=r6+u4)
     (Q:=fun c b7=>b7=ai/\((∃res x,c=(some res,x)/\Res lt it q r res)\/ ∃o' r6 u4 ac bc,c=(none,(o'.map it).toArray,r6,u4,ac,bc)/\MG lt q r o' r6 u4/\r6+1<q.length/\u4<r.length/\ia+ib+1<=r6+u4)) ?step1 ?fin1 ⟨rfl,o,ia,ib,0,0,rfl,m,b1,b2,by lia⟩) ?post1)
    case fin1=>
     rintro c b7 ⟨rfl,o',r6,u4,ac,bc,rfl,m',c1,c2,c3⟩;rw[sz,sz] at c3
     lia
    case step1=>
     rintro j c b7 _ _ ⟨rfl,o',r6,u4,ac,bc,rfl,m',c1,c2,c3⟩;dsimp only;refine gd (jG c2 (gd (jG (i:=r6) (by lia) (gd (uT H (hs.1.trans hk) (B.nr _ (ku _)) (B.nq _ (ku _)) ?_)))));dsimp only
     cases hl:lt r[u4] q[r6] with
     |true=>
      simp only[hV];refine gd (jG c2 ?_)
      have m2:=m'.putB W B c2 fun y hy=>by
       rw[jH (show r6<q.length by lia)] at hy;rcases kb.mp hy with rfl|hy
       ·exact .inl hl
       ·exact SL.trans W (.inl hl) (CC W B (by lia) y hy)
      rw[rf];refine gY (fun he=>?_) fun he=>?_
      ·have:u4+1=r.length:=by simpa using he
       exact gh ⟨rfl,.inl ⟨_,_,rfl,oE W B m2 (.inr (by lia))⟩⟩
      ·have:u4+1≠r.length:=by simpa using he
       refine gY (fun hg=>?_) fun hg=>?_
       ·exact gh ⟨rfl,.inr ⟨_,_,_,_,_,rfl,m2,c1,by lia,by lia⟩⟩
       ·exact gh ⟨rfl,_,_,_,_,_,rfl,m2,c1,by lia,by lia⟩
     |false=>
      simp only[hZ,iJ];refine gd (jG (i:=r6) (by lia) ?_)
      have m2:=m'.putA W B (by lia) fun y hy=>by
       rw[jH c2] at hy;have first:SL lt q[r6] r[u4]:= .inr ⟨hl,B.ix _ (ku _) _ (ku _)⟩;rcases kb.mp hy with rfl|hy
       ·exact first
       ·exact SL.trans W first (zo W B c2 y hy)
      rw[rf];refine gY (fun he=>?_) fun he=>?_
      ·have:r6+1+1=q.length:=by simpa using he
       exact gh ⟨rfl,.inl ⟨_,_,rfl,aB m2 this⟩⟩
      ·have:r6+1+1≠q.length:=by simpa using he
       refine gY (fun hg=>?_) fun hg=>?_
       ·exact gh ⟨rfl,.inr ⟨_,_,_,_,_,rfl,m2,by lia,c2,by lia⟩⟩
       ·exact gh ⟨rfl,_,_,_,_,_,rfl,m2,by lia,c2,by lia⟩
    case post1=>
     rintro c b7 ⟨rfl,⟨res,x,rfl,hr⟩|⟨o',r6,u4,ac,bc,rfl,m',c1,c2,c3⟩⟩
     ·exact gh ⟨res,_,rfl,hr,hs⟩
     ·dsimp only
      refine gd (mY (gd (iz (iB (I:=fun j c b7=> ∃o2 g9 j6 n5 ac bc,c=(none,(o2.map it).toArray,g9,j6,n5,ac,bc)/\MG lt q r o2 g9 j6/\g9+1<q.length/\j6<r.length/\ia+ib+1+j<=g9+j6/\Same st b7)
       (Q:=fun c b7=>Same st b7/\((∃res x,c=(some res,x)/\Res lt it q r res)\/ ∃o2 g9 j6 n5 ac bc,c=(none,(o2.map it).toArray,g9,j6,n5,ac,bc)/\MG lt q r o2 g9 j6/\g9+1<q.length/\j6<r.length/\ia+ib+1<=g9+j6)) ?step2 ?fin2 ⟨o',r6,u4,_,_,_,rfl,m',c1,c2,by lia,hs⟩) ?post2)))
      case fin2=>
       rintro c b7 ⟨o2,g9,j6,n5,ac,bc,rfl,m2,d1,d2,d3,m4⟩;rw[sz,sz] at d3
       lia
      case post2=>
       rintro c b7 ⟨m4,⟨res,x,rfl,hr⟩|⟨o2,g9,j6,n5,ac,bc,rfl,m2,d1,d2,d3⟩⟩
       ·exact gh ⟨res,_,rfl,hr,m4⟩
       ·dsimp only;exact gd (oV fun j8 l3=>gh ⟨o2,g9,j6,_,rfl,m2,d1,d2,by lia,m4.trans l3⟩)
      case step2=>
       rintro j c i3 _ _ ⟨o2,g9,j6,n5,ac,bc,rfl,m2,d1,d2,d3,m4⟩;dsimp only;have en:(q.drop g9).take ((q.map it).toArray.size-g9)=q.drop g9:=qp (by simp)
       have mid: ∀(u3 k:Nat) (j8:iA),Same st j8->k<=(q.map it).toArray.size-g9->(∀y∈(q.drop g9).take k,lt r[j6] y=false)->(∀y∈(q.drop g9).drop k,lt r[j6] y=true)->g9+k+1≠q.length->g9+k≠q.length->
         wpI (model prog w) A E G (HM (q.map it).toArray (r.map it).toArray ((o2++(q.drop g9).take k).map it).toArray (g9+k) j6 u3 k bc) (Eh lt it q r (ia+ib+1) (ia+ib+1+(j+1)) (Same st)) j8:=fun u3 k j8 l3 k1 k2 k3 e1 e2=>by
        rw[sz] at k1;refine Gk W H B top (l3.1.trans hk) (m2.putAs W B fun x hx y hy=>?_) (by lia) d2 (fun y hy=>?_) l3 (by lia) (by lia)
        ·have first:SL lt x r[j6]:= .inr ⟨k2 x hx,B.ix x (kX (lK hx)) _ (ku _)⟩;rw[jH d2] at hy;rcases kb.mp hy with rfl|hy
         ·exact first
         ·exact SL.trans W first (zo W B d2 y hy)
        ·rw[<-mU] at hy;exact .inl (k3 y hy)
       have body: ∀(u3:Nat) (j8:iA),Same st j8->wpI (model prog w) A E G (do
         let y <-elem' (r.map it).toArray j6
         let x <-km false y (q.map it).toArray g9 ((q.map it).toArray.size-g9) 0
         match x with
         |some k=>
          if k>0 then
           if(g9+k+1==(q.map it).toArray.size)=true then pure (ForInStep.done (some ((o2.map it).toArray++(q.map it).toArray.extract g9 (g9+k)++(r.map it).toArray.extract j6 (r.map it).toArray.size++(q.map it).toArray.extract (g9+k) (q.map it).toArray.size),(o2.map it).toArray++(q.map it).toArray.extract g9 (g9+k),g9+k,j6,u3,k,bc))
           else if(g9+k==(q.map it).toArray.size)=true then pure (ForInStep.done (some ((o2.map it).toArray++(q.map it).toArray.extract g9 (g9+k)++(q.map it).toArray.extract (g9+k) (q.map it).toArray.size++(r.map it).toArray.extract j6 (r.map it).toArray.size),(o2.map it).toArray++(q.map it).toArray.extract g9 (g9+k),g9+k,j6,u3,k,bc))
           else HM (q.map it).toArray (r.map it).toArray ((o2.map it).toArray++(q.map it).toArray.extract g9 (g9+k)) (g9+k) j6 u3 k bc
          else HM (q.map it).toArray (r.map it).toArray (o2.map it).toArray g9 j6 u3 k bc
         |_=>pure (ForInStep.done (some ((o2.map it).toArray++(q.map it).toArray.extract g9 (q.map it).toArray.size++(r.map it).toArray.extract j6 (r.map it).toArray.size),(o2.map it).toArray,g9,j6,u3,ac,bc))) (Eh lt it q r (ia+ib+1) (ia+ib+1+(j+1)) (Same st)) j8:=fun u3 j8 l3=>by
        refine gd (jG d2 (gd (oW W H (B.nr _ (ku _)) B.nq (by rw[sz];lia) (by rw[sz];lia) (l3.1.trans hk) (by rw[en];exact B.sq.sublist (nV _ _)) fun k k1 k2 k3=>?_)));rw[en] at k2 k3;simp only[hZ,iJ,uG,Bool.not_eq_false'] at k2 k3;have hkl:=k1;rw[sz] at hkl
        have mA:MG lt q r (o2++(q.drop g9).take k) (g9+k) j6:=m2.putAs W B fun x hx y hy=>by
         have first:SL lt x r[j6]:= .inr ⟨k2 x hx,B.ix x (kX (lK hx)) _ (ku _)⟩;rw[jH d2] at hy;rcases kb.mp hy with rfl|hy
         ·exact first
         ·exact SL.trans W first (zo W B d2 y hy)
        dsimp only;refine gY (fun hp=>?_) fun hp=>?_
        ·rw[Ef];refine gY (fun he=>?_) fun he=>?_
         ·exact gh ⟨l3,.inl ⟨_,_,rfl,aB mA (by simpa using he)⟩⟩
         ·refine gY (fun hf=>?_) fun hf=>?_
          ·have:g9+k=q.length:=by simpa using hf
           exact gh ⟨l3,.inl ⟨_,_,rfl,oE W B mA (.inl (by lia))⟩⟩
          ·exact mid u3 k j8 l3 k1 k2 k3 (by simpa using he) (by simpa using hf)
        ·have hz:k=0:=by lia
         subst hz;have:=mid u3 0 j8 l3 k1 k2 k3 (by lia) (by lia);simpa using this
       refine gY (fun hm=>?_) fun hm=>?_
       ·refine gd (oV fun j8 l3=>?_);exact iz (body _ j8 (m4.trans l3)) fun x b7 hx=>by cases x<;>exact hx
       ·refine gd (oV fun j8 l3=>?_);exact iz (body _ j8 (m4.trans l3)) fun x b7 hx=>by cases x<;>exact hx
end
theorem Cs(a b:lW):vJ a b=(do
 rule "list.sort.merge-hi"
 let total:=a.size+b.size
 let done (out:lW) (na nb:Nat):=a.extract 0 na++b.extract 0 nb++out.reverse
 let k9 (out:lW) (na nb:Nat):=b.extract 0 nb++a.extract 0 na++out.reverse
 let mut na:=a.size-1
 let mut nb:=b.size
 let mut out:Array Keyed:= #[<-elem' a na]
 if na==0 then return done out na nb
 if nb==1 then return k9 out na nb
 let mut minGallop:=gallopOf (<-get)
 for _ in [0:total] do
  let mut acount:=0
  let mut bcount:=0
  for _ in [0:total] do
   let some aWins <-lt' (<-elem' b (nb-1)) (<-elem' a (na-1))|return done out na nb
   if aWins then
    na:=na-1;out:=out.push (<-elem' a na);acount:=acount+1;bcount:=0
    if na==0 then return done out na nb
    if acount>=minGallop then break
   else
    nb:=nb-1;out:=out.push (<-elem' b nb);bcount:=bcount+1;acount:=0
    if nb==1 then return k9 out na nb
    if bcount>=minGallop then break
  rule "list.sort.gallop"
  minGallop:=minGallop+1
  for _ in [0:total] do
   if minGallop>1 then minGallop:=minGallop-1
   qD minGallop
   let some at_ <-km false (<-elem' b (nb-1)) a 0 na (na-1)|return done out na nb
   let k:=na-at_
   acount:=k
   if k>0 then
    out:=out++(a.extract at_ na).reverse;na:=at_
    if na==0 then return done out na nb
   nb:=nb-1;out:=out.push (<-elem' b nb)
   if nb==1 then return k9 out na nb
   let some at_ <-km true (<-elem' a (na-1)) b 0 nb (nb-1)|return done out na nb
   let k:=nb-at_
   bcount:=k
   if k>0 then
    out:=out++(b.extract at_ nb).reverse;nb:=at_
    if nb==1 then return k9 out na nb
    if nb==0 then return done out na nb
   na:=na-1;out:=out.push (<-elem' a na)
   if na==0 then return done out na nb
   if acount<7&&bcount<7 then break
  minGallop:=minGallop+1
  qD minGallop
 unsupported "internal:list.sort.merge-bound"):=rfl
section
variable {prog:gC}{w:gy}{A:gB}{E:gU}{G:Shared->Prop}{it:lV}{lt:kO}{κ:SortKind}{N:Nat}
structure MH(lt:kO)(q r s:gW)(na nb:Nat):Prop where
 srt:s.Pairwise (SL lt)
 high: ∀y,(y∈q.take na\/y∈r.take nb)-> ∀x∈s,SL lt y x
 pm:(q.take na++r.take nb++s).Perm (q++r)
theorem jT{l:gW}{n:Nat}(h1:0<n)(h:n<=l.length):l.take n=l.take (n-1)++[l[n-1]]:=by
 obtain⟨m,rfl⟩: ∃m,n=m+1:=⟨n-1,by omega⟩
 rw[Bt,iu (by omega)];rfl
theorem mI{l:gW}{i j x:Nat}(h:x∈l.take i)(k6:i<=j):x∈l.take j:=by
 have:=List.take_sublist_take_left (l:=l) k6;exact this.subset h
section
variable {q r s:gW}{na nb k:Nat}(W:Wk lt)(B:Pre lt N q r)
include W B
theorem CJ(h0:0<na)(h:na<=q.length): ∀y∈q.take (na-1),SL lt y q[na-1]:=fun y hy=>by
 have:=B.sq.sublist (lZ na q);rw[jT h0 h,lI] at this;exact this.2.2 y hy _ (nZ.mpr rfl)
theorem CH(h0:0<nb)(h:nb<=r.length): ∀y∈r.take (nb-1),SL lt y r[nb-1]:=fun y hy=>by
 have:=B.sr.sublist (lZ nb r);rw[jT h0 h,lI] at this;exact this.2.2 y hy _ (nZ.mpr rfl)
theorem MH.putA(m:MH lt q r s na nb)(h0:0<na)(h1:na<=q.length)(h: ∀y∈r.take nb,SL lt y q[na-1]):MH lt q r (q[na-1]::s) (na-1) nb:=by
 have hm:q[na-1]∈q.take na:=by rw[jT h0 h1];exact mW _ (nZ.mpr rfl)
 refine⟨nY.mpr ⟨fun x hx=>m.high _ (.inl hm) x hx,m.srt⟩,fun y hy x hx=>?_,?_⟩
 ·rcases kb.mp hx with rfl|hx
  ·exact hy.elim (CJ W B h0 h1 y) (h y)
  ·exact m.high y (hy.imp (fun z=>mI z (Nat.sub_le _ _)) id) x hx
 ·refine List.Perm.trans ?_ m.pm;rw[jT h0 h1]
  have e:(q.take (na-1)++r.take nb++q[na-1]::s).Perm (q.take (na-1)++(q[na-1]::(r.take nb++s))):=by
   rw[jQ];exact qr _ Fi
  refine e.trans (yj ?_);rw[jQ,jQ,Bs]
theorem MH.putB(m:MH lt q r s na nb)(h0:0<nb)(h1:nb<=r.length)(h: ∀y∈q.take na,SL lt y r[nb-1]):MH lt q r (r[nb-1]::s) na (nb-1):=by
 have hm:r[nb-1]∈r.take nb:=by rw[jT h0 h1];exact mW _ (nZ.mpr rfl)
 refine⟨nY.mpr ⟨fun x hx=>m.high _ (.inr hm) x hx,m.srt⟩,fun y hy x hx=>?_,?_⟩
 ·rcases kb.mp hx with rfl|hx
  ·exact hy.elim (h y) (CH W B h0 h1 y)
  ·exact m.high y (hy.imp id fun z=>mI z (Nat.sub_le _ _)) x hx
 ·refine List.Perm.trans ?_ m.pm;refine yj ?_;rw[jT h0 h1,jQ,jQ,jQ,Bs]
theorem MH.putAs(m:MH lt q r s na nb)(hk:k<=na)(h: ∀y∈r.take nb,∀x∈(q.take na).drop k,SL lt y x):MH lt q r ((q.take na).drop k++s) k nb:=by
 have e:q.take k=(q.take na).take k:=by rw[uq,qo hk]
 have hs:=B.sq.sublist (lZ na q);rw[<-lD k (q.take na),lI] at hs;obtain⟨s1,s2,s3⟩:=hs;refine⟨lI.mpr ⟨s2,m.srt,fun y hy x hx=>m.high y (.inl (kX hy)) x hx⟩,fun y hy x hx=>?_,?_⟩
 ·rcases nG.mp hx with hx|hx
  ·exact hy.elim (fun z=>s3 y (by rw[<-e];exact z) x hx) fun z=>h y z x hx
  ·exact m.high y (hy.imp (fun z=>mI z hk) id) x hx
 ·refine List.Perm.trans ?_ m.pm;rw[<-jQ];refine rq s ?_;rw[e]
  have:((q.take na).take k++r.take nb++(q.take na).drop k).Perm ((q.take na).take k++(q.take na).drop k++r.take nb):=by
   rw[jQ,jQ];exact qr _ yk
  rwa [lD] at this
theorem MH.putBs(m:MH lt q r s na nb)(hk:k<=nb)(h: ∀y∈q.take na,∀x∈(r.take nb).drop k,SL lt y x):MH lt q r ((r.take nb).drop k++s) na k:=by
 have e:r.take k=(r.take nb).take k:=by rw[uq,qo hk]
 have hs:=B.sr.sublist (lZ nb r);rw[<-lD k (r.take nb),lI] at hs;obtain⟨s1,s2,s3⟩:=hs;refine⟨lI.mpr ⟨s2,m.srt,fun y hy x hx=>m.high y (.inr (kX hy)) x hx⟩,fun y hy x hx=>?_,?_⟩
 ·rcases nG.mp hx with hx|hx
  ·exact hy.elim (fun z=>h y z x hx) fun z=>s3 y (by rw[<-e];exact z) x hx
  ·exact m.high y (hy.imp id fun z=>mI z hk) x hx
 ·refine List.Perm.trans ?_ m.pm;rw[e,<-jQ];refine rq s ?_;rw[jQ,lD]
theorem MH.endA(m:MH lt q r s na nb)(h:na=0\/nb=0):(q.take na++r.take nb++s).Pairwise (SL lt):=by
 refine lI.mpr ⟨?_,m.srt,fun y hy x hx=>m.high y (nG.mp hy) x hx⟩;rcases h with rfl|rfl
 ·rw[List.take_zero,ur];exact B.sr.sublist (lZ _ _)
 ·rw[List.take_zero,sV];exact B.sq.sublist (lZ _ _)
theorem MH.endL(m:MH lt q r s na nb)(h: ∀x∈r.take nb,∀y∈q.take na,SL lt x y):(r.take nb++q.take na++s).Pairwise (SL lt)/\(r.take nb++q.take na++s).Perm (q++r):=
 ⟨lI.mpr ⟨lI.mpr ⟨B.sr.sublist (lZ _ _),B.sq.sublist (lZ _ _),h⟩,m.srt,fun y hy x hx=>m.high y ((nG.mp hy).symm) x hx⟩,(rq s yk).trans m.pm⟩
end
theorem pH:((s.reverse.map it).toArray.push (it x))=((x::s).reverse.map it).toArray:=by simp
theorem Bb{s q r:gW}{i j:Nat}:((q.map it).toArray.extract 0 i++(r.map it).toArray.extract 0 j++(s.reverse.map it).toArray.reverse)=((q.take i++r.take j++s).map it).toArray:=by
 simp[rp,rm]
theorem Ba{s q:gW}{i k:Nat}:((s.reverse.map it).toArray++((q.map it).toArray.extract k i).reverse)=(((q.take i).drop k++s).reverse.map it).toArray:=by
 simp[rp,rm,List.drop_take]
theorem ni(W:Wk lt){q r s:gW}{na nb:Nat}(B:Pre lt N q r)(m:MH lt q r s na nb)(h:na=0\/nb=0):Res lt it q r ((q.map it).toArray.extract 0 na++(r.map it).toArray.extract 0 nb++(s.reverse.map it).toArray.reverse):=⟨_,Bb,m.endA W B h,m.pm⟩
theorem Cd(W:Wk lt){q r s:gW}{na nb:Nat}(B:Pre lt N q r)(m:MH lt q r s na nb)(h: ∀x∈r.take nb,∀y∈q.take na,SL lt x y):Res lt it q r ((r.map it).toArray.extract 0 nb++(q.map it).toArray.extract 0 na++(s.reverse.map it).toArray.reverse):=⟨_,Bb,m.endL W B h⟩
end
abbrev HiS:=Option (Array Keyed)×Nat×Nat×Array Keyed×Nat×Nat×Nat
noncomputable def Dm(a b out:lW)(na nb mg k k2:Nat):StateT SortSt Sem (ForInStep HiS):=do
 let y <-elem' a (na-1)
 if(na-1==0)=true then pure (ForInStep.done (some (a.extract 0 (na-1)++b.extract 0 nb++(out.push y).reverse),na-1,nb,out.push y,mg,k,k2))
 else if(decide (k<7)&&decide (k2<7))=true then pure (ForInStep.done (none,na-1,nb,out.push y,mg,k,k2)) else pure (ForInStep.yield (none,na-1,nb,out.push y,mg,k,k2))
noncomputable def J9(a b out:lW)(na nb mg k bc:Nat):StateT SortSt Sem (ForInStep HiS):=do
 let y <-elem' b (nb-1)
 if(nb-1==1)=true then pure (ForInStep.done (some (b.extract 0 (nb-1)++a.extract 0 na++(out.push y).reverse),na,nb-1,out.push y,mg,k,bc))
 else do
  let z <-elem' a (na-1)
  let x <-km true z b 0 (nb-1) (nb-1-1)
  match x with
  |some at_=>
   if nb-1-at_>0 then
    if(at_==1)=true then pure (ForInStep.done (some (b.extract 0 at_++a.extract 0 na++(out.push y++(b.extract at_ (nb-1)).reverse).reverse),na,at_,out.push y++(b.extract at_ (nb-1)).reverse,mg,k,nb-1-at_))
    else if(at_==0)=true then pure (ForInStep.done (some (a.extract 0 na++b.extract 0 at_++(out.push y++(b.extract at_ (nb-1)).reverse).reverse),na,at_,out.push y++(b.extract at_ (nb-1)).reverse,mg,k,nb-1-at_))
    else Dm a b (out.push y++(b.extract at_ (nb-1)).reverse) na at_ mg k (nb-1-at_)
   else Dm a b (out.push y) na (nb-1) mg k (nb-1-at_)
  |_=>pure (ForInStep.done (some (a.extract 0 na++b.extract 0 (nb-1)++(out.push y).reverse),na,nb-1,out.push y,mg,k,bc))
def IW(lt:kO)(it:lV)(q r:gW)(c cy:Nat)(S:SortSt->Prop)(x:ForInStep HiS)(b7:iA):Prop:=
 match x with
 | .done c'=>S b7/\((∃res x,c'=(some res,x)/\Res lt it q r res)\/ ∃s2 i6 j4 n5 ac bc,c'=(none,i6,j4,(s2.reverse.map it).toArray,n5,ac,bc)/\MH lt q r s2 i6 j4/\1<=i6/\i6<=q.length/\2<=j4/\j4<=r.length/\i6+j4+c<=q.length+r.length)
 | .yield c'=> ∃s2 i6 j4 n5 ac bc,c'=(none,i6,j4,(s2.reverse.map it).toArray,n5,ac,bc)/\MH lt q r s2 i6 j4/\1<=i6/\i6<=q.length/\2<=j4/\j4<=r.length/\i6+j4+cy<=q.length+r.length/\S b7
section
variable {prog:gC}{w:gy}{A:gB}{E:gU}{G:Shared->Prop}{it:lV}{lt:kO}{κ:SortKind}{N:Nat}
section
variable(W:Wk lt)(H:Ask prog w A E G it κ N lt){q r:gW}(B:Pre lt N q r)(bot: ∀x∈r.take 1,∀y∈q,SL lt x y){S:SortSt->Prop}{s:gW}{na nb mg k k2 bc c cy:Nat}{st:iA}
include W H B bot
theorem wW(m:MH lt q r s na nb)(ha:1<=na)(aY:na<=q.length)(hb:2<=nb)(dZ:nb<=r.length)(fa: ∀y∈r.take nb,SL lt y q[na-1])(hs:S st)(hc:na-1+nb+c<=q.length+r.length)(hy:na-1+nb+cy<=q.length+r.length):
  wpI (model prog w) A E G (Dm (q.map it).toArray (r.map it).toArray (s.reverse.map it).toArray na nb mg k k2) (IW lt it q r c cy S) st:=by
 unfold Dm;refine gd (jG (i:=na-1) (by lia) ?_);have m2:=m.putA W B (by lia) aY fa;rw[pH];refine gY (fun he=>?_) fun he=>?_
 ·exact gh ⟨hs,.inl ⟨_,_,rfl,ni W B m2 (.inl (by simpa using he))⟩⟩
 ·have:na-1≠0:=fun z=>he (by simp[z]);refine gY (fun h7=>?_) fun h7=>?_
  ·exact gh ⟨hs,.inr ⟨_,_,_,_,_,_,rfl,m2,by lia,by lia,hb,dZ,hc⟩⟩
  ·exact gh ⟨_,_,_,_,_,_,rfl,m2,by lia,by lia,hb,dZ,hy,hs⟩
theorem vU(m:MH lt q r s na nb)(h:nb=1):Res lt it q r ((r.map it).toArray.extract 0 nb++(q.map it).toArray.extract 0 na++(s.reverse.map it).toArray.reverse):=Cd W B m fun x hx y hy=>bot x (by rw[<-h];exact hx) y (lK hy)
theorem zQ(hk:kindOf st=κ)(m:MH lt q r s na nb)(ha:1<=na)(aY:na<=q.length)(hb:2<=nb)(dZ:nb<=r.length)(fb: ∀y∈q.take na,SL lt y r[nb-1])(hs:S st)(hc:na+nb+c<=q.length+r.length+1)(hy:na+nb+cy<=q.length+r.length+2):
  wpI (model prog w) A E G (J9 (q.map it).toArray (r.map it).toArray (s.reverse.map it).toArray na nb mg k bc) (IW lt it q r c cy S) st:=by
 unfold J9;refine gd (jG (i:=nb-1) (by lia) ?_);have m2:=m.putB W B (by lia) dZ fb;rw[pH];refine gY (fun he=>?_) fun he=>?_
 ·exact gh ⟨hs,.inl ⟨_,_,rfl,vU W H B bot m2 (by simpa using he)⟩⟩
 ·have he:nb-1≠1:=fun z=>he (by simp[z]);have en:(r.drop 0).take (nb-1)=r.take (nb-1):=by rw[uE]
  refine gd (jG (i:=na-1) (by lia) (gd (oW W H (B.nq _ (ku _)) B.nr (by lia) (by lia) hk (by rw[en];exact B.sr.sublist (lZ _ _)) fun k' k1 k2 k3=>?_)));rw[en] at k2 k3;simp only[hV] at k2 k3
  have m3:=m2.putBs W B (k:=k') k1 fun y hy x hx=>by
   have first:SL lt q[na-1] x:= .inr ⟨k3 x hx,B.ix _ (ku _) _ (lK (kX hx))⟩;rw[jT ha aY] at hy;rcases nG.mp hy with hy|hy
   ·exact SL.trans W (CJ W B ha aY y hy) first
   ·rw[nZ] at hy;subst hy;exact first
  have e2:r.take k'=(r.take (nb-1)).take k':=by rw[uq,qo k1]
  have fa: ∀y∈r.take k',SL lt y q[na-1]:=fun y hy=> .inl (k2 y (by rw[<-e2];exact hy));dsimp only;refine gY (fun hp=>?_) fun hp=>?_
  ·rw[Ba];refine gY (fun hf=>?_) fun hf=>?_
   ·exact gh ⟨hs,.inl ⟨_,_,rfl,vU W H B bot m3 (by simpa using hf)⟩⟩
   ·have hf:k'≠1:=fun z=>hf (by simp[z]);refine gY (fun hg=>?_) fun hg=>?_
    ·exact gh ⟨hs,.inl ⟨_,_,rfl,ni W B m3 (.inr (by simpa using hg))⟩⟩
    ·have hg:k'≠0:=fun z=>hg (by simp[z]);exact wW W H B bot m3 ha aY (by lia) (by lia) fa hs (by lia) (by lia)
  ·have hz:k'=nb-1:=by lia
   subst hz;exact wW W H B bot m2 ha aY (by lia) (by lia) fa hs (by lia) (by lia)
end
theorem Ll(W:Wk lt)(H:Ask prog w A E G it κ N lt){q r:gW}(B:Pre lt N q r)(h1:1<=q.length)(h2:1<=r.length)(bot: ∀x∈r.take 1,∀y∈q,SL lt x y)(top: ∀x∈r,SL lt x q[q.length-1]){st:iA}(hk:kindOf st=κ){Q:Array Keyed->SortSt->Prop}
  (h: ∀out b7,Res lt it q r out->Same st b7->Q out b7):wpI (model prog w) A E G (vJ (q.map it).toArray (r.map it).toArray) Q st:=by
 have firstB: ∀{s na nb},MH lt q r s na nb->nb=1->Res lt it q r ((r.map it).toArray.extract 0 nb++(q.map it).toArray.extract 0 na++(s.reverse.map it).toArray.reverse):=fun m e=>vU W H B bot m e;rw[Cs];dsimp only;have e1:(q.map it).toArray.size=q.length:=sz q it;have e2:(r.map it).toArray.size=r.length:=sz r it;rw[e1,e2];refine gd (mY (gd (jG (i:=q.length-1) (by lia) ?_)))
 have m0:MH lt q r [q[q.length-1]] (q.length-1) r.length:=by
  have:=MH.putA (s:=[]) (na:=q.length) (nb:=r.length) W B ⟨List.Pairwise.nil,fun y hy x hx=>absurd hx kP,by simp⟩ (by lia) (ig _) (fun y hy=>top y (lK hy));exact this
 have e0: #[it q[q.length-1]]=(([q[q.length-1]]:List Nat).reverse.map it).toArray:=rfl;rw[e0];refine gY (fun y6=>?_) fun y6=>?_
 ·exact gh (h _ _ (ni W B m0 (.inl (by simpa using y6))) .refl)
 ·have y6:q.length-1≠0:=fun z=>y6 (by simp[z]);refine gY (fun bC=>?_) fun bC=>?_
  ·exact gh (h _ _ (firstB m0 (by simpa using bC)) .refl)
  ·have bC:r.length≠1:=fun z=>bC (by simp[z]);refine gd (kI ?_)
   refine gd (iz (iB (I:=fun i c b7=> ∃s na nb mg,c=(none,na,nb,(s.reverse.map it).toArray,mg)/\MH lt q r s na nb/\1<=na/\na<=q.length/\2<=nb/\nb<=r.length/\na+nb+(i+1)<=q.length+r.length/\Same st b7)
    (Q:=fun c b7=> ∃res x,c=(some res,x)/\Res lt it q r res/\Same st b7) ?step ?fin ⟨_,q.length-1,r.length,_,rfl,m0,by lia,by lia,by lia,by lia,by lia,.refl⟩) ?post)
   case post=>
    rintro c b7 ⟨res,x,rfl,hr,hs⟩;exact gh (h res b7 hr hs)
   case fin=>
    rintro c b7 ⟨s,na,nb,mg,rfl,m,b1,b2,b3,b4,b5,hs⟩
    lia
   case step=>
    rintro i c ai _ _ ⟨s,na,nb,mg,rfl,m,b1,b2,b3,b4,b5,hs⟩;dsimp only
    refine gd (iz (iB (I:=fun j c b7=>b7=ai/\ ∃s' q9 h9 ac bc,c=(none,q9,h9,(s'.reverse.map it).toArray,ac,bc)/\MH lt q r s' q9 h9/\1<=q9/\q9<=q.length/\2<=h9/\h9<=r.length/\q9+h9+j<=na+nb)
     (Q:=fun c b7=>b7=ai/\((∃res x,c=(some res,x)/\Res lt it q r res)\/ ∃s' q9 h9 ac bc,c=(none,q9,h9,(s'.reverse.map it).toArray,ac,bc)/\MH lt q r s' q9 h9/\1<=q9/\q9<=q.length/\2<=h9/\h9<=r.length/\q9+h9+1<=na+nb)) ?step1 ?fin1 ⟨rfl,s,na,nb,0,0,rfl,m,b1,b2,b3,b4,by lia⟩) ?post1)
    case fin1=>
     rintro c b7 ⟨rfl,s',q9,h9,ac,bc,rfl,m',c1,c2,c3,c4,c5⟩
     lia
    case step1=>
     rintro j c b7 _ _ ⟨rfl,s',q9,h9,ac,bc,rfl,m',c1,c2,c3,c4,c5⟩;dsimp only;refine gd (jG (i:=h9-1) (by lia) (gd (jG (i:=q9-1) (by lia) (gd (uT H (hs.1.trans hk) (B.nr _ (ku _)) (B.nq _ (ku _)) ?_)))));dsimp only
     cases hl:lt r[h9-1] q[q9-1] with
     |true=>
      simp only[hV];refine gd (jG (i:=q9-1) (by lia) ?_)
      have m2:=m'.putA W B c1 c2 fun y hy=>by
       rw[jT (show 0<h9 by lia) c4] at hy;rcases nG.mp hy with hy|hy
       ·exact SL.trans W (CH W B (by lia) c4 y hy) (.inl hl)
       ·rw[nZ] at hy;subst hy;exact .inl hl
      rw[pH];refine gY (fun he=>?_) fun he=>?_
      ·exact gh ⟨rfl,.inl ⟨_,_,rfl,ni W B m2 (.inl (by simpa using he))⟩⟩
      ·have:q9-1≠0:=fun z=>he (by simp[z]);refine gY (fun hg=>?_) fun hg=>?_
       ·exact gh ⟨rfl,.inr ⟨_,_,_,_,_,rfl,m2,by lia,by lia,c3,c4,by lia⟩⟩
       ·exact gh ⟨rfl,_,_,_,_,_,rfl,m2,by lia,by lia,c3,c4,by lia⟩
     |false=>
      simp only[hZ,iJ];refine gd (jG (i:=h9-1) (by lia) ?_)
      have m2:=m'.putB W B (by lia) c4 fun y hy=>by
       have first:SL lt q[q9-1] r[h9-1]:= .inr ⟨hl,B.ix _ (ku _) _ (ku _)⟩;rw[jT c1 c2] at hy;rcases nG.mp hy with hy|hy
       ·exact SL.trans W (CJ W B c1 c2 y hy) first
       ·rw[nZ] at hy;subst hy;exact first
      rw[pH];refine gY (fun he=>?_) fun he=>?_
      ·exact gh ⟨rfl,.inl ⟨_,_,rfl,firstB m2 (by simpa using he)⟩⟩
      ·have:h9-1≠1:=fun z=>he (by simp[z]);refine gY (fun hg=>?_) fun hg=>?_
       ·exact gh ⟨rfl,.inr ⟨_,_,_,_,_,rfl,m2,c1,c2,by lia,by lia,by lia⟩⟩
       ·exact gh ⟨rfl,_,_,_,_,_,rfl,m2,c1,c2,by lia,by lia,by lia⟩
    case post1=>
     rintro c b7 ⟨rfl,⟨res,x,rfl,hr⟩|⟨s',q9,h9,ac,bc,rfl,m',c1,c2,c3,c4,c5⟩⟩
     ·exact gh ⟨res,_,rfl,hr,hs⟩
     ·dsimp only
      refine gd (mY (gd (iz (iB (I:=fun j c b7=> ∃s2 i6 j4 n5 ac bc,c=(none,i6,j4,(s2.reverse.map it).toArray,n5,ac,bc)/\MH lt q r s2 i6 j4/\1<=i6/\i6<=q.length/\2<=j4/\j4<=r.length/\i6+j4+(i+2+j)<=q.length+r.length/\Same st b7)
       (Q:=fun c b7=>Same st b7/\((∃res x,c=(some res,x)/\Res lt it q r res)\/ ∃s2 i6 j4 n5 ac bc,c=(none,i6,j4,(s2.reverse.map it).toArray,n5,ac,bc)/\MH lt q r s2 i6 j4/\1<=i6/\i6<=q.length/\2<=j4/\j4<=r.length/\i6+j4+(i+2)<=q.length+r.length)) ?step2 ?fin2 ⟨s',q9,h9,_,_,_,rfl,m',c1,c2,c3,c4,by lia,hs⟩) ?post2)))
      case fin2=>
       rintro c b7 ⟨s2,i6,j4,n5,ac,bc,rfl,m2,d1,d2,d3,d4,d5,m4⟩
       lia
      case post2=>
       rintro c b7 ⟨m4,⟨res,x,rfl,hr⟩|⟨s2,i6,j4,n5,ac,bc,rfl,m2,d1,d2,d3,d4,d5⟩⟩
       ·exact gh ⟨res,_,rfl,hr,m4⟩
       ·dsimp only;exact gd (oV fun j8 l3=>gh ⟨s2,i6,j4,_,rfl,m2,d1,d2,d3,d4,by lia,m4.trans l3⟩)
      case step2=>
       rintro j c i3 _ _ ⟨s2,i6,j4,n5,ac,bc,rfl,m2,d1,d2,d3,d4,d5,m4⟩;dsimp only;have en:(q.drop 0).take i6=q.take i6:=by rw[uE]
       have body: ∀(u3:Nat) (j8:iA),Same st j8->wpI (model prog w) A E G (do
         let y <-elem' (r.map it).toArray (j4-1)
         let x <-km false y (q.map it).toArray 0 i6 (i6-1)
         match x with
         |some at_=>
          if i6-at_>0 then
           if(at_==0)=true then pure (ForInStep.done (some ((q.map it).toArray.extract 0 at_++(r.map it).toArray.extract 0 j4++((s2.reverse.map it).toArray++((q.map it).toArray.extract at_ i6).reverse).reverse),at_,j4,(s2.reverse.map it).toArray++((q.map it).toArray.extract at_ i6).reverse,u3,i6-at_,bc))
           else J9 (q.map it).toArray (r.map it).toArray ((s2.reverse.map it).toArray++((q.map it).toArray.extract at_ i6).reverse) at_ j4 u3 (i6-at_) bc
          else J9 (q.map it).toArray (r.map it).toArray (s2.reverse.map it).toArray i6 j4 u3 (i6-at_) bc
         |_=>pure (ForInStep.done (some ((q.map it).toArray.extract 0 i6++(r.map it).toArray.extract 0 j4++(s2.reverse.map it).toArray.reverse),i6,j4,(s2.reverse.map it).toArray,u3,ac,bc))) (IW lt it q r (i+2) (i+2+(j+1)) (Same st)) j8:=fun u3 j8 l3=>by
        refine gd (jG (i:=j4-1) (by lia) (gd (oW W H (B.nr _ (ku _)) B.nq (by lia) (by lia) (l3.1.trans hk) (by rw[en];exact B.sq.sublist (lZ _ _)) fun k k1 k2 k3=>?_)));rw[en] at k2 k3;simp only[hZ,iJ,uG,Bool.not_eq_false'] at k2 k3
        have mA:MH lt q r ((q.take i6).drop k++s2) k j4:=m2.putAs W B k1 fun y hy x hx=>by
         have first:SL lt r[j4-1] x:= .inl (k3 x hx);rw[jT (show 0<j4 by lia) d4] at hy;rcases nG.mp hy with hy|hy
         ·exact SL.trans W (CH W B (by lia) d4 y hy) first
         ·rw[nZ] at hy;subst hy;exact first
        have ek:q.take k=(q.take i6).take k:=by rw[uq,qo k1]
        have fb: ∀y∈q.take k,SL lt y r[j4-1]:=fun y hy=> .inr ⟨k2 y (by rw[<-ek];exact hy),B.ix _ (lK hy) _ (ku _)⟩;dsimp only;refine gY (fun hp=>?_) fun hp=>?_
        ·rw[Ba];refine gY (fun he=>?_) fun he=>?_
         ·exact gh ⟨l3,.inl ⟨_,_,rfl,ni W B mA (.inl (by simpa using he))⟩⟩
         ·have he:k≠0:=fun z=>he (by simp[z]);exact zQ W H B bot (l3.1.trans hk) mA (by lia) (by lia) d3 d4 fb l3 (by lia) (by lia)
        ·have hz:k=i6:=by lia
         subst hz;exact zQ W H B bot (l3.1.trans hk) m2 d1 d2 d3 d4 fb l3 (by lia) (by lia)
       refine gY (fun hm=>?_) fun hm=>?_
       ·refine gd (oV fun j8 l3=>?_);exact iz (body _ j8 (m4.trans l3)) fun x b7 hx=>by cases x<;>exact hx
       ·refine gd (oV fun j8 l3=>?_);exact iz (body _ j8 (m4.trans l3)) fun x b7 hx=>by cases x<;>exact hx
end
theorem Ct(i:Nat):mergeAt' i=(do
 let s <-get
 let(some (sa,na,power),some (sb,nb,_)):=((pendingOf s)[i]?,(pendingOf s)[i+1]?)|unsupported "internal:list.sort.pending"
 set (setPending s (((pendingOf s).setIfInBounds i (sa,na+nb,power)).eraseIdxIfInBounds (i+1)))
 let some k <-km false (<-elem' (arrOf s) sb) (arrOf s) sa na 0|return false
 let(sa,na):=(sa+k,na-k)
 if na==0 then return true
 let some nb <-km true (<-elem' (arrOf s) (sa+na-1)) (arrOf s) sb nb (nb-1)|return false
 if nb==0 then return true
 let x:=(arrOf s).extract sa sb
 let y:=(arrOf s).extract sb (sb+nb)
 let merged <-if na<=nb then vI x y else vJ x y
 modify fun s=>setArr s (merged.toList.zipIdx.foldl (fun a (p,j)=>a.setIfInBounds (sa+j) p) (arrOf s))
 return (failedOf (<-get)).isNone):=rfl
noncomputable def seg(L:gW)(a n:Nat):List Nat:=(L.drop a).take n
section
variable {lt:kO}{p:jL}{a b n m:Nat}{L:gW}
theorem ue(h:a+n<=L.length):(seg L a n).length=n:=by simp[seg];omega
theorem yU{i:Nat}(hi:i<n):(seg L a n)[i]?=L[a+i]?:=by
 simp only[seg,List.getElem?_take,hi,hV,List.getElem?_drop]
theorem Lo(h:a+n<=p.size):Up lt p a (a+n)↔(seg p.toList a n).Pairwise (SL lt):=by
 have hl:(seg p.toList a n).length=n:=ue (by simpa using h)
 have get: ∀i (hi:i<n),(seg p.toList a n)[i]'(by omega)=P p (a+i):=fun i hi=>by
  have:(seg p.toList a n)[i]?=some (P p (a+i)):=by
   rw[yU hi];have:=tL (p:=p) (i:=a+i) (by omega);simpa using this
  rw[iu (by omega)] at this;exact iw this
 rw[Ei];constructor
 ·intro u i j hi hj k6;rw[get i (by omega),get j (by omega)];exact u _ _ (by omega) (by omega) (by omega)
 ·intro u i j h1 h2 h3;have:=u (i-a) (j-a) (by omega) (by omega) (by omega);rw[get _ (by omega),get _ (by omega),show a+(i-a)=i by omega,show a+(j-a)=j by omega] at this;exact this
theorem Jp(h:a+n<=p.size)(lo hi:Nat):(∀k,a<=k->k<a+n->lo<=P p k/\P p k<hi)↔ ∀x∈seg p.toList a n,lo<=x/\x<hi:=by
 have hl:(seg p.toList a n).length=n:=ue (by simpa using h)
 have get: ∀i (hi:i<n),(seg p.toList a n)[i]'(by omega)=P p (a+i):=fun i hi=>by
  have:(seg p.toList a n)[i]?=some (P p (a+i)):=by
   rw[yU hi];have:=tL (p:=p) (i:=a+i) (by omega);simpa using this
  rw[iu (by omega)] at this;exact iw this
 constructor
 ·intro u x hx;obtain⟨i,hi,e⟩:=uF hx;rw[<-e,get i (by omega)];exact u _ (by omega) (by omega)
 ·intro u k k1 k2;have:=u _ (ku (l:=seg p.toList a n) (n:=k-a) (by omega));rw[get _ (by omega),show a+(k-a)=k by omega] at this;exact this
theorem qd(h:a+n+m<=L.length):seg L a (n+m)=seg L a n++seg L (a+n) m:=by
 unfold seg;rw[List.take_add,mU]
theorem HR(h:a+n<=L.length):L=L.take a++(seg L a n++L.drop (a+n)):=by
 unfold seg;rw[show L.drop (a+n)=(L.drop a).drop n by rw[mU],lD,lD]
theorem AS{α:Type}: ∀(m:List α) (j a:Nat) (L:List α),a+j+m.length<=L.length->((m.zipIdx j).foldl (fun(x:Array α) (p:α×Nat)=>x.setIfInBounds (a+p.2) p.1) L.toArray).toList=L.take (a+j)++(m++L.drop (a+j+m.length))
 |[],j,a,L,h=>by simp
 |x::m,j,a,L,h=>by
  simp only[lX] at h;rw[List.zipIdx_cons,List.foldl_cons];dsimp only;rw[List.setIfInBounds_toArray,AS m (j+1) a (L.set (a+j) x) (by rw[oq];omega)]
  have e1:(L.set (a+j) x).take (a+(j+1))=L.take (a+j)++[x]:=by
   rw[show a+(j+1)=a+j+1 by omega,Bt,FG (ig _),kY (by omega)];rfl
  have e2:(L.set (a+j) x).drop (a+(j+1)+m.length)=L.drop (a+(j+1)+m.length):=FF (by omega);rw[e1,e2];simp only[lX];rw[show a+j+(m.length+1)=a+(j+1)+m.length by omega,jQ,Bs];rfl
end
section
variable {prog:gC}{w:gy}{A:gB}{E:gU}{G:Shared->Prop}{it:lV}{lt:kO}{κ:SortKind}{N:Nat}
theorem zt(hT:T.length=a)(hM:M.length=n):seg (T++(M++D)) a n=M/\(T++(M++D)).take a=T/\(T++(M++D)).drop (a+n)=D:=by
 subst hT hM;refine⟨?_,List.take_left,?_⟩
 ·unfold seg;rw[Br,List.take_left]
 ·rw[<-mU,Br,Br]
def Run(lt:kO)(L:gW)(a n:Nat):Prop:=1<=n/\(seg L a n).Pairwise (SL lt)/\ ∀x∈seg L a n,a<=x/\x<a+n
theorem Lm(W:Wk lt)(H:Ask prog w A E G it κ N lt){i sa na sb nb pw cU:Nat}{st:iA}{p:jL}(R:Rp it κ N st p)(e1:(pendingOf st)[i]?=some (sa,na,pw))(e2:(pendingOf st)[i+1]?=some (sb,nb,cU))(hs:sb=sa+na)(hn:sb+nb<=N)(r1:Run lt p.toList sa na)(r2:Run lt p.toList sb nb)
  {Q:Bool->SortSt->Prop}(h: ∀b7 p',Rp it κ N b7 p'->pendingOf b7=((pendingOf st).setIfInBounds i (sa,na+nb,pw)).eraseIdxIfInBounds (i+1)->Run lt p'.toList sa (na+nb)->p'.toList.take sa=p.toList.take sa->p'.toList.drop (sa+(na+nb))=p.toList.drop (sa+(na+nb))->Q true b7):
  wpI (model prog w) A E G (mergeAt' i) Q st:=by
 rw[Ct];refine gd (kI ?_);rw[e1,e2];dsimp only;refine gd (Jd ?_);rw[R.arr];obtain⟨n1,s1,x1⟩:=r1;obtain⟨n2,s2,x2⟩:=r2;have hL:p.toList.length=N:=by simp[R.size]
 have hp:p=p.toList.toArray:=by simp
 generalize hLL:p.toList=L at*;subst hp;have ea:(L.toArray.map it)=(L.map it).toArray:=by simp
 rw[ea]
 have ei: ∀y∈L,y<N:=fun y hy=>by
  have:=(KJ.mp R.perm).mem_iff.mp (by simpa using hy);simpa using this
 generalize r8:setPending st (((pendingOf st).setIfInBounds i (sa,na+nb,pw)).eraseIdxIfInBounds (i+1))=ai;have aW:kindOf ai=κ:=by rw[<-r8];exact R.kind
 have y6:arrOf ai=(L.map it).toArray:=by rw[<-r8];show arrOf st=_;rw[R.arr,ea]
 have hp1:pendingOf ai=((pendingOf st).setIfInBounds i (sa,na+nb,pw)).eraseIdxIfInBounds (i+1):=by rw[<-r8]
 have fw:failedOf ai=none:=by rw[<-r8];exact R.ok
 have hlen1:(seg L sa na).length=na:=ue (by lia);have hlen2:(seg L sb nb).length=nb:=ue (by lia);have bh:sb<L.length:=by lia
 have r0:seg L sb nb=L[sb]::seg L (sb+1) (nb-1):=by
  unfold seg;rw[sO bh,show nb=nb-1+1 by lia,FE];rfl
 have key_mem:L[sb]∈seg L sb nb:=by rw[r0];exact jg
 have key_le: ∀z∈seg L sb nb,z=L[sb]\/SL lt L[sb] z:=fun z hz=>by
  rw[r0] at s2 hz;rcases kb.mp hz with hz|hz
  ·exact .inl hz
  ·exact .inr ((nY.mp s2).1 z hz)
 have idx: ∀y∈seg L sa na,∀z∈seg L sb nb,y<z:=fun y hy z hz=>by
  have:=x1 y hy;have:=x2 z hz;lia
 have up: ∀y∈seg L sa na,lt L[sb] y=false-> ∀z∈seg L sb nb,SL lt y z:=fun y hy hl z hz=>by
  have first:SL lt y L[sb]:= .inr ⟨hl,idx y hy _ key_mem⟩;rcases key_le z hz with rfl|hz
  ·exact first
  ·exact SL.trans W first hz
 refine gd (jG bh (gd (oW W H (ei _ (ku _)) ei (by lia) (by lia) aW s1 fun k k1 k2 k3=>?_)));dsimp only;change ∀y∈(seg L sa na).take k,_ at k2;change ∀y∈(seg L sa na).drop k,_ at k3;simp only[hZ,iJ,uG,Bool.not_eq_false'] at k2 k3;by_cases hz:(na-k==0)=true
 ·rw[gq hz];have hz:na-k=0:=by simpa using hz
  have k2': ∀y∈seg L sa na,lt L[sb] y=false:=fun y hy=>k2 y (by rw[qp (by lia)];exact hy);refine gh (h ai L.toArray ⟨by rw[y6,ea],aW,fw,R.size,R.perm⟩ hp1 ?_ rfl rfl);show Run lt L sa (na+nb);refine⟨by lia,?_,fun x hx=>?_⟩
  ·rw[qd (by lia),<-hs];exact lI.mpr ⟨s1,s2,fun y hy z hz=>up y hy (k2' y hy) z hz⟩
  ·rw[qd (by lia),<-hs] at hx;rcases nG.mp hx with hx|hx
   ·have:=x1 x hx;lia
   ·have:=x2 x hx;lia
 ·rw[gv hz];have hz:na-k≠0:=fun z=>hz (by simp[z]);have u7:sa+k+(na-k)-1<L.length:=by lia
  have i5:(seg L sa na)[na-1]?=some L[sa+k+(na-k)-1]:=by
   rw[yU (by lia),iu (by lia)]
   congr 2;lia
  have m6:L[sa+k+(na-k)-1]∈(seg L sa na).drop k:=by
   refine uy (i:=na-1-k) ?_;rw[List.getElem?_drop,show k+(na-1-k)=na-1 by lia];exact i5
  generalize cp:L[sa+k+(na-k)-1]=la at i5 m6
  have le_last: ∀y∈seg L sa na,y=la\/SL lt y la:=fun y hy=>by
   obtain⟨j,hj,e⟩:=uF hy;by_cases eX:j=na-1
   ·left;subst eX;rw[iu hj] at i5;rw[<-e];exact iw i5
   ·right;have:=Ei.mp s1 j (na-1) hj (by lia) (by lia);rw[iu (by lia)] at i5;rw[e,iw i5] at this;exact this
  have la_seg:la∈seg L sa na:=kX m6;refine gd (jG u7 ?_);rw[cp];refine gd (oW W H (ei _ (by rw[<-cp];exact ku _)) ei (by lia) (by lia) aW s2 fun h9 j1 j2 j3=>?_);dsimp only;change ∀y∈(seg L sb nb).take h9,_ at j2;change ∀y∈(seg L sb nb).drop h9,_ at j3;simp only[hV] at j2 j3;by_cases hy:(h9==0)=true
  ·have hy:h9=0:=by simpa using hy
   subst hy;have:=j3 L[sb] (by rw[uE];exact key_mem);rw[k3 la m6] at this;cases this
  ·rw[gv hy];have hy:h9≠0:=fun z=>hy (by simp[z])
   have ex:(L.map it).toArray.extract (sa+k) sb=(((seg L sa na).drop k).map it).toArray:=by
    simp only[rp,rm,seg,List.drop_take,mU,List.map_take,List.map_drop];rw[show sb-(sa+k)=na-k by lia]
   have ey:(L.map it).toArray.extract sb (sb+h9)=(((seg L sb nb).take h9).map it).toArray:=by
    simp only[rp,rm,seg,uq,List.map_take,List.map_drop];rw[show sb+h9-sb=h9 by lia,qo j1]
   rw[ex,ey];have hq:((seg L sa na).drop k).length=na-k:=by simp[hlen1]
   have hr:((seg L sb nb).take h9).length=h9:=by rw[pN,hlen2,qo j1]
   have B:Pre lt N ((seg L sa na).drop k) ((seg L sb nb).take h9):=
    ⟨s1.sublist (nV _ _),s2.sublist (lZ _ _),fun x hx y hy=>idx x (kX hx) y (lK hy),fun x hx=>by have:=x1 x (kX hx);lia,fun x hx=>by have:=x2 x (lK hx);lia⟩
   have rz:((seg L sb nb).take h9)[0]'(by lia)=L[sb]:=by
    rw[List.getElem_take];have:(seg L sb nb)[0]?=some L[sb]:=by rw[r0];rfl
    rw[iu (by lia)] at this;exact iw this
   have ql:((seg L sa na).drop k)[((seg L sa na).drop k).length-1]'(by lia)=la:=by
    rw[List.getElem_drop];have:(seg L sa na)[k+(((seg L sa na).drop k).length-1)]?=some la:=by rw[hq,show k+(na-k-1)=na-1 by lia];exact i5
    rw[iu (by lia)] at this;exact iw this
   have fin: ∀merged b7,Res lt it ((seg L sa na).drop k) ((seg L sb nb).take h9) merged->Same ai b7->wpI (model prog w) A E G (do
     modify fun s=>setArr s (List.foldl (fun a x=>a.setIfInBounds (sa+k+x.snd) x.fst) (arrOf s) merged.toList.zipIdx)
     let r <-get
     pure (failedOf r).isNone) Q b7:=fun merged b7 bW u5=>by
    obtain⟨o,rfl,so,po⟩:=bW;have ol:o.length=na-k+h9:=by rw[po.length_eq,nX,hq,hr]
    refine gd (ju (gd (kI (gh ?_))));have arr':arrOf b7=(L.map it).toArray:=u5.2.1.trans y6
    have c1:L.take (sa+k)=L.take sa++(seg L sa na).take k:=by
     unfold seg;rw[uq,qo k1,<-List.take_add]
    have c2:L.drop (sa+k+o.length)=(seg L sb nb).drop h9++L.drop (sa+(na+nb)):=by
     have e3:L.drop (sa+(na+nb))=(L.drop (sb+h9)).drop (nb-h9):=by rw[mU];congr 1;lia
     rw[ol,show sa+k+(na-k+h9)=sb+h9 by lia,e3];unfold seg;rw[List.drop_take,mU,lD]
    have fold:List.foldl (fun(a:lW) (x:Keyed×Nat)=>a.setIfInBounds (sa+k+x.snd) x.fst) (arrOf b7) (o.map it).toArray.toList.zipIdx=(((L.take sa++(((seg L sa na).take k++(o++(seg L sb nb).drop h9))++L.drop (sa+(na+nb)))):List Nat).toArray).map it:=by
     rw[arr'];apply Array.toList_inj.mp;have:=AS (o.map it) 0 (sa+k) (L.map it) (by simp only[jF,ol];lia);rw[Nat.add_zero] at this;refine this.trans ?_;simp only[Array.toList_map,jF];rw[<-List.map_take,<-List.map_drop,c1,c2];simp only[sL,jQ]
    have hpm:(L.take sa++(((seg L sa na).take k++(o++(seg L sb nb).drop h9))++L.drop (sa+(na+nb)))).Perm L:=by
     have cut:=HR (L:=L) (a:=sa) (n:=na+nb) (by lia);refine List.Perm.trans ?_ (yj cut.symm);refine qr _ (rq _ ?_);rw[qd (by lia),<-hs];have e1:=lD k (seg L sa na);have e2:=lD h9 (seg L sb nb);have:((seg L sa na).take k++(o++(seg L sb nb).drop h9)).Perm ((seg L sa na).take k++(((seg L sa na).drop k++(seg L sb nb).take h9)++(seg L sb nb).drop h9)):=qr _ (rq _ po);refine this.trans (yj ?_);rw[jQ,e2,<-jQ,e1]
    have eU:((seg L sa na).take k++(o++(seg L sb nb).drop h9)).length=na+nb:=by
     simp only[nX,pN,List.length_drop,hlen1,hlen2,ol];lia
    have eQ:(L.take sa).length=sa:=by simp;lia
    show Q (failedOf b7).isNone _;rw[u5.2.2.2,fw];refine h _ (L.take sa++(((seg L sa na).take k++(o++(seg L sb nb).drop h9))++L.drop (sa+(na+nb)))).toArray ⟨fold,u5.1.trans aW,u5.2.2.2.trans fw,by rw[iK,hpm.length_eq,hL],KJ.mpr (hpm.trans (KJ.mp R.perm))⟩ (u5.2.2.1.trans hp1) ?_ ?_ ?_
    ·have hseg:=(zt (D:=L.drop (sa+(na+nb))) eQ eU).1;show Run lt (L.take sa++_) sa (na+nb);unfold Run;rw[hseg];have om: ∀x∈o,x∈(seg L sa na).drop k\/x∈(seg L sb nb).take h9:=fun x hx=>nG.mp (po.mem_iff.mp hx);refine⟨by lia,lI.mpr ⟨s1.sublist (lZ _ _),lI.mpr ⟨so,s2.sublist (nV _ _),fun x hx z hz=>?_⟩,fun y hy x hx=>?_⟩,fun x hx=>?_⟩
     ·rcases om x hx with hx|hx
      ·have lz:SL lt la z:= .inr ⟨j3 z hz,idx la la_seg z (kX hz)⟩;rcases le_last x (kX hx) with rfl|hx
       ·exact lz
       ·exact SL.trans W hx lz
      ·have:=s2;rw[<-lD h9 (seg L sb nb),lI] at this;exact this.2.2 x hx z hz
     ·have hyl:=k2 y hy;have hys:=lK hy;rcases nG.mp hx with hx|hx
      ·rcases om x hx with hx|hx
       ·have:=s1;rw[<-lD k (seg L sa na),lI] at this;exact this.2.2 y hy x hx
       ·exact up y hys hyl x (lK hx)
      ·exact up y hys hyl x (kX hx)
     ·have in1:x∈seg L sa na\/x∈seg L sb nb:=by
       rcases nG.mp hx with hx|hx
       ·exact .inl (lK hx)
       ·rcases nG.mp hx with hx|hx
        ·exact(om x hx).imp kX lK
        ·exact .inr (kX hx)
      rcases in1 with hx|hx
      ·have:=x1 x hx;lia
      ·have:=x2 x hx;lia
    ·show(L.take sa++_).take sa=L.take sa;exact(zt eQ eU).2.1
    ·show(L.take sa++_).drop (sa+(na+nb))=L.drop (sa+(na+nb));exact(zt eQ eU).2.2
   by_cases hle:na-k<=h9
   ·rw[gq hle];refine gd (Lk W H B (by lia) (by lia) (fun y hy=>by rw[rz];exact .inl (k3 y hy)) (fun x hx y hy=>?_) aW fin)
    have:y=la:=by
     have e:((seg L sa na).drop k).drop (((seg L sa na).drop k).length-1)=[la]:=by
      rw[sO (by lia),ql,uI (by lia)]
     rw[e] at hy;exact nZ.mp hy
    subst this;exact .inl (j2 x hx)
   ·rw[gv hle];refine gd (Ll W H B (by lia) (by lia) (fun x hx y hy=>?_) (fun x hx=>by rw[ql];exact .inl (j2 x hx)) aW fin)
    have:x=L[sb]:=by
     have e:((seg L sb nb).take h9).take 1=[L[sb]]:=by
      rw[r0,show h9=h9-1+1 by lia,FE];rfl
     rw[e] at hx;exact nZ.mp hx
    subst this;exact .inl (k3 y hy)
def Chain(lt:kO)(L:gW):Nat->List (Nat×Nat×Nat)->Nat->Prop
 |a,[],b=>a=b
 |a,(s,n,_)::r,b=>s=a/\Run lt L a n/\Chain lt L (a+n) r b
theorem Chain.le{L:gW}: ∀{l:List (Nat×Nat×Nat)} {a b:Nat},Chain lt L a l b->a+l.length<=b
 |[],a,b,h=>by have:a=b:=h;simp;omega
 |(s,n,x)::r,a,b,h=>by
  obtain⟨_,r1,h2⟩:=h;have:=Chain.le h2;have:=r1.1;simp only[lX];omega
theorem GO(h:Run lt L a n)(hc:a+n<=c)(e:L'.take c=L.take c):Run lt L' a n:=by
 have:seg L' a n=seg L a n:=by
  have q: ∀X:List Nat,seg X a n=seg (X.take c) a n:=fun X=>by
   unfold seg;rw[List.drop_take,uq,qo (by omega)]
  rw[q L',q L,e]
 unfold Run;rw[this];exact h
theorem vn(h:Run lt L a n)(hc:c<=a)(e:L'.drop c=L.drop c):Run lt L' a n:=by
 have:seg L' a n=seg L a n:=by
  have q: ∀X:List Nat,seg X a n=seg (X.drop c) (a-c) n:=fun X=>by
   unfold seg;rw[mU,show c+(a-c)=a by omega]
  rw[q L',q L,e]
 unfold Run;rw[this];exact h
theorem Chain.take{L L':gW}{c:Nat}(e:L'.take c=L.take c): ∀{l:List (Nat×Nat×Nat)} {a b:Nat},Chain lt L a l b->b<=c->Chain lt L' a l b
 |[],a,b,h,_=>h
 |(s,n,x)::r,a,b,h,hc=>by
  obtain⟨h1,h2,h3⟩:=h;have:=Chain.le h3;exact⟨h1,GO h2 (by omega) e,Chain.take e h3 hc⟩
theorem Chain.drop{L L':gW}{c:Nat}(e:L'.drop c=L.drop c): ∀{l:List (Nat×Nat×Nat)} {a b:Nat},Chain lt L a l b->c<=a->Chain lt L' a l b
 |[],a,b,h,_=>h
 |(s,n,x)::r,a,b,h,hc=>by
  obtain⟨h1,h2,h3⟩:=h;exact⟨h1,vn h2 hc e,Chain.drop e h3 (by omega)⟩
theorem Chain.append{L:gW}: ∀{l m:List (Nat×Nat×Nat)} {a b:Nat},Chain lt L a (l++m) b↔ ∃c,Chain lt L a l c/\Chain lt L c m b
 |[],m,a,b=>⟨fun h=>⟨a,rfl,h⟩,fun⟨c,h1,h2⟩=>by have:a=c:=h1;subst this;exact h2⟩
 |(s,n,x)::r,m,a,b=>by
  constructor
  ·rintro⟨h1,h2,h3⟩;obtain⟨c,h4,h5⟩:=Chain.append.mp h3;exact⟨c,⟨h1,h2,h4⟩,h5⟩
  ·rintro⟨c,⟨h1,h2,h4⟩,h5⟩;exact⟨h1,h2,Chain.append.mpr ⟨c,h4,h5⟩⟩
theorem rS(W:Wk lt)(H:Ask prog w A E G it κ N lt){i lo:Nat}{st:iA}{p:jL}(R:Rp it κ N st p)(ch:Chain lt p.toList 0 (pendingOf st).toList lo)(hlo:lo<=N)(hi:i+1<(pendingOf st).size){Q:Bool->SortSt->Prop}
  (h: ∀b7 p',Rp it κ N b7 p'->Chain lt p'.toList 0 (pendingOf b7).toList lo->(pendingOf b7).size+1=(pendingOf st).size->p'.toList.drop lo=p.toList.drop lo->Q true b7):wpI (model prog w) A E G (mergeAt' i) Q st:=by
 obtain⟨⟨sa,na,pw⟩,e1⟩: ∃x,(pendingOf st)[i]?=some x:=⟨_,Bp (by omega)⟩
 obtain⟨⟨sb,nb,cU⟩,e2⟩: ∃x,(pendingOf st)[i+1]?=some x:=⟨_,Bp hi⟩
 have f1:(pendingOf st).toList[i]?=some (sa,na,pw):=by simpa using e1
 have f2:(pendingOf st).toList[i+1]?=some (sb,nb,cU):=by simpa using e2
 have hl:(pendingOf st).toList.length=(pendingOf st).size:=by simp
 have cut:(pendingOf st).toList=(pendingOf st).toList.take i++((sa,na,pw)::(sb,nb,cU)::(pendingOf st).toList.drop (i+2)):=by
  have a1:(pendingOf st).toList.drop i=(sa,na,pw)::(pendingOf st).toList.drop (i+1):=by
   rw[sO (by omega)];rw[iu (by omega)] at f1;rw[iw f1]
  have a2:(pendingOf st).toList.drop (i+1)=(sb,nb,cU)::(pendingOf st).toList.drop (i+2):=by
   rw[sO (by omega)];rw[iu (by omega)] at f2;rw[iw f2]
  rw[<-a2,<-a1,lD]
 rw[cut] at ch;obtain⟨c,c1,c2⟩:=Chain.append.mp ch;obtain⟨rfl,r1,rfl,r2,c3⟩:=c2;have le3:=Chain.le c3;refine Lm W H R e1 e2 rfl (by omega) r1 r2 fun b7 p' R' ep rn et ed=>?_
 have lst:(pendingOf b7).toList=(pendingOf st).toList.take i++((sa,na+nb,pw)::(pendingOf st).toList.drop (i+2)):=by
  rw[ep];have hx:i+1<((pendingOf st).setIfInBounds i (sa,na+nb,pw)).size:=by simpa using hi
  rw[Array.eraseIdxIfInBounds,dif_pos hx]
  have: ∀(l:List (Nat×Nat×Nat)) (z:Nat×Nat×Nat),i+1<l.length->(l.set i z).eraseIdx (i+1)=l.take i++(z::l.drop (i+2)):=fun l z hz=>by
   rw[FD];rw[show i+1+1=i+2 from rfl,FF (by omega),Bt,FG (ig _),kY (by omega)];simp
  have q:=this (pendingOf st).toList (sa,na+nb,pw) (by omega);simpa using q
 refine h b7 p' R' ?_ ?_ ?_
 ·rw[lst];refine Chain.append.mpr ⟨sa,Chain.take et c1 (ig _),rfl,rn,?_⟩;rw[<-Nat.add_assoc];exact Chain.drop ed c3 (by omega)
 ·have:=pO List.length lst;simp only[ma,nX,pN,lX,List.length_drop] at this;omega
 ·have q: ∀X:List Nat,X.drop lo=(X.drop (sa+(na+nb))).drop (lo-(sa+(na+nb))):=fun X=>by rw[mU];congr 1;omega
  rw[q,q p.toList,ed]
theorem Er{p p':jL}{lo:Nat}(hs:p'.size=p.size)(h: ∀k,k<lo->P p' k=P p k):p'.toList.take lo=p.toList.take lo:=by
 apply rG;intro k;rw[List.getElem?_take,List.getElem?_take];split
 ·rename_i hk;by_cases hz:k<p.size
  ·have a:=tL (p:=p) hz;have b:=tL (p:=p') (by rw[hs];exact hz);have a':p.toList[k]?=some (P p k):=by simpa using a
   have b':p'.toList[k]?=some (P p' k):=by simpa using b
   rw[a',b',h k hk]
  ·rw[yv (by simp;omega),yv (by simp;omega)]
 ·rfl
theorem DX{p p':jL}{lo n:Nat}(hs:p'.size=p.size)(e:p'.toList.drop lo=p.toList.drop lo)(h: ∀k,lo+n<=k->k<p.size->P p k=k): ∀k,lo+n<=k->k<p'.size->P p' k=k:=fun k k1 k2=>by
 have a:=tL (p:=p) (i:=k) (by omega);have b:=tL (p:=p') k2;have a':p.toList[k]?=some (P p k):=by simpa using a
 have b':p'.toList[k]?=some (P p' k):=by simpa using b
 have q: ∀X:List Nat,X[k]?=(X.drop lo)[k-lo]?:=fun X=>by rw[List.getElem?_drop,show lo+(k-lo)=k by omega]
 rw[q,e,<-q,a'] at b';rw[<-iw b'];exact h k k1 (by omega)
theorem Kj{c:Prop}[Decidable c]{a b m:Nat}(ha:a<=m)(hb:b<=m):(if c then a else b)<=m:=by
 by_cases h:c
 ·rw[gq h];exact ha
 ·rw[gv h];exact hb
structure Mid(it:lV)(lt:kO)(κ:SortKind)(N lo:Nat)(st:iA)(p:jL):Prop where
 R:Rp it κ N st p
 ch:Chain lt p.toList 0 (pendingOf st).toList lo
 le:lo<=N
 fx: ∀k,lo<=k->k<N->P p k=k
structure Mid2(it:lV)(lt:kO)(κ:SortKind)(N lo n:Nat)(st:iA)(p:jL):Prop where
 R:Rp it κ N st p
 ch:Chain lt p.toList 0 (pendingOf st).toList lo
 le:lo+n<=N
 fx: ∀k,lo+n<=k->k<N->P p k=k
 rn:Run lt p.toList lo n
theorem Mid2.of{lo n:Nat}{aR st:iA}{p0 p:jL}(M:Mid it lt κ N lo aR p0)(R:Rp it κ N st p)(e:pendingOf st=pendingOf aR)(h1:1<=n)(h2:lo+n<=N)(f: ∀k,k<lo->P p k=P p0 k)(fx: ∀k,lo+n<=k->k<N->P p k=k)(rg:Reg p lo (lo+n))(up:Up lt p lo (lo+n)):Mid2 it lt κ N lo n st p:=by
 have hz:lo+n<=p.size:=by rw[R.size];exact h2
 refine⟨R,?_,h2,fx,h1,(Lo hz).mp up,(Jp hz lo (lo+n)).mp rg⟩;rw[e];exact Chain.take (Er (by rw[R.size,M.R.size]) f) M.ch (ig _)
theorem Mid2.push{lo n pw:Nat}{st:iA}{p:jL}(M:Mid2 it lt κ N lo n st p):Mid it lt κ N (lo+n) (setPending st ((pendingOf st).push (lo,n,pw))) p:=by
 refine⟨⟨M.R.arr,M.R.kind,M.R.ok,M.R.size,M.R.perm⟩,?_,M.le,M.fx⟩;show Chain lt p.toList 0 ((pendingOf st).push (lo,n,pw)).toList (lo+n);rw[Array.toList_push];exact Chain.append.mpr ⟨lo,M.ch,rfl,M.rn,rfl⟩
theorem A3{L:gW}{f:Nat×Nat×Nat->Nat×Nat×Nat}(hf: ∀x,(f x).1=x.1/\(f x).2.1=x.2.1): ∀{l:List (Nat×Nat×Nat)} {a b:Nat} (i:Nat),Chain lt L a l b->Chain lt L a (l.modify i f) b
 |[],a,b,i,h=>by cases i<;>exact h
 |(s,n,x)::r,a,b,0,h=>by
  obtain⟨h1,h2,h3⟩:=h;have e:=hf (s,n,x);show Chain lt L a (f (s,n,x)::r) b;rcases hq:f (s,n,x) with⟨s',n',x'⟩
  rw[hq] at e;obtain⟨rfl,rfl⟩:=e;exact⟨h1,h2,h3⟩
 |(s,n,x)::r,a,b,i+1,h=>by
  obtain⟨h1,h2,h3⟩:=h;exact⟨h1,h2,A3 hf i h3⟩
theorem Mid2.pw{lo n pw i:Nat}{st:iA}{p:jL}(M:Mid2 it lt κ N lo n st p):Mid2 it lt κ N lo n (setPending st ((pendingOf st).modify i fun x=>(x.fst,x.2.fst,pw))) p:=by
 refine⟨⟨M.R.arr,M.R.kind,M.R.ok,M.R.size,M.R.perm⟩,?_,M.le,M.fx,M.rn⟩;show Chain lt p.toList 0 ((pendingOf st).modify i fun x=>(x.fst,x.2.fst,pw)).toList lo;rw[Array.toList_modify];exact A3 (f:=fun x=>(x.fst,x.2.fst,pw)) (fun x=>⟨rfl,rfl⟩) i M.ch
theorem Gi(W:Wk lt)(H:Ask prog w A E G it κ N lt)(h2:1<=N){st:iA}{p:jL}(R:Rp it κ N st p)(e0:pendingOf st= #[])(fx0: ∀k,k<N->P p k=k){Q:Unit->SortSt->Prop}
  (h: ∀b7 p',Rp it κ N b7 p'->p'.toList.Pairwise (SL lt)->Q () b7):wpI (model prog w) A E G sortRuns' Q st:=by
 rw[sortRuns'_eq];refine gd (kI ?_);dsimp only;have hz:(arrOf st).size=N:=by rw[R.arr,Bo,R.size]
 rw[hz];generalize hmr:minRun' N N 0=mr;have m0:Mid it lt κ N 0 st p:=⟨R,by rw[e0];rfl,mB _,fun k _ k2=>fx0 k k2⟩
 refine gd (iz (iB (I:=fun x c b7=> ∃lo p',c=(none,lo)/\x<=lo/\Mid it lt κ N lo b7 p') (Q:=fun c b7=> ∃p',c=(none,N)/\Mid it lt κ N N b7 p') ?step ?fin ⟨0,p,rfl,ig _,m0⟩) ?post)
 case fin=>
  rintro c b7 ⟨lo,p',rfl,hx,M⟩;have:=M.le;have:lo=N:=by omega
  subst this;exact⟨p',rfl,M⟩
 case step=>
  rintro x c b7 _ hx ⟨lo,p',rfl,hlo,M⟩;dsimp only;by_cases fj:lo>=N
  ·rw[gq fj];have:=M.le;have:lo=N:=by omega
   subst this;exact gh ⟨p',rfl,M⟩
  ·rw[gv fj];refine gd (El W H (by omega) (by omega) M.R M.fx fun n i3 p2 R2 e2 n1 n2 f2 fx2 rg2 y7=>?_);dsimp only;by_cases u6:n<mr
   ·rw[gq u6];refine gd (mY (gd (Je W H n1 (by omega) (by omega) R2 fx2 rg2 y7 fun j8 p3 R3 e3 f3 fx3 rg3 bO=>?_)));simp only[uu,hZ,iJ];have M3:Mid2 it lt κ N lo (min (N-lo) mr) j8 p3:=Mid2.of M R3 (e3.trans e2) (by omega) (by omega) (fun k hk=>(f3 k hk).trans (f2 k hk)) fx3 rg3 bO;have hn1:1<=min (N-lo) mr:=by omega
    generalize min (N-lo) mr=n' at*;refine gd (kI ?_)
    cases hb:(pendingOf j8).back? with
    |none=>
     dsimp only;exact gd (ju (gh ⟨lo+n',p3,rfl,by omega,M3.push⟩))
    |some x1=>
     obtain⟨s1,m1,y1⟩:=x1;dsimp only;generalize power' N (2*s1+m1) (2*s1+m1+m1+n') N=pw;refine gd (iz (iB (I:=fun x c o9=>c=(none,())/\ ∃p4,Mid2 it lt κ N lo n' o9 p4) (Q:=fun c o9=>c=(none,())/\ ∃p4,Mid2 it lt κ N lo n' o9 p4) ?_ (fun _ _ q=>q) ⟨rfl,p3,M3⟩) ?_)
     ·rintro y c o9 _ _ ⟨rfl,p4,M4⟩;refine gd (kI ?_);by_cases h1:(pendingOf o9).size>1
      ·rw[gq h1]
       cases hc:(pendingOf o9)[(pendingOf o9).size-2]? with
       |none=>dsimp only;exact gh ⟨rfl,p4,M4⟩
       |some z=>
        obtain⟨z1,z2,ay⟩:=z;dsimp only;by_cases ho:ay<=pw
        ·rw[gq ho];exact gh ⟨rfl,p4,M4⟩
        ·rw[gv ho];refine gd (rS W H M4.R M4.ch (by have:=M4.le;omega) (by omega) fun aZ p5 R5 fQ _ du=>?_);simp only[uu,hZ,iJ];refine gh ⟨rfl,p5,R5,fQ,M4.le,?_,vn M4.rn (ig _) du⟩;have:=DX (p:=p4) (p':=p5) (lo:=lo) (n:=n') (by rw[R5.size,M4.R.size]) du (by rw[M4.R.size];exact M4.fx);rw[R5.size] at this;exact this
      ·rw[gv h1];dsimp only;exact gh ⟨rfl,p4,M4⟩
     ·rintro c o9 ⟨rfl,p4,M4⟩;dsimp only;exact gd (ju (gd (ju (gh ⟨lo+n',p4,rfl,by omega,(M4.pw).push⟩))))
   ·rw[gv u6];have M3:Mid2 it lt κ N lo n i3 p2:=Mid2.of M R2 e2 n1 (by omega) f2 fx2 rg2 y7;have hn1:=n1;generalize n=n' at*;generalize i3=j8 at*;generalize p2=p3 at*;refine gd (kI ?_)
    cases hb:(pendingOf j8).back? with
    |none=>
     dsimp only;exact gd (ju (gh ⟨lo+n',p3,rfl,by omega,M3.push⟩))
    |some x1=>
     obtain⟨s1,m1,y1⟩:=x1;dsimp only;generalize power' N (2*s1+m1) (2*s1+m1+m1+n') N=pw;refine gd (iz (iB (I:=fun x c o9=>c=(none,())/\ ∃p4,Mid2 it lt κ N lo n' o9 p4) (Q:=fun c o9=>c=(none,())/\ ∃p4,Mid2 it lt κ N lo n' o9 p4) ?_ (fun _ _ q=>q) ⟨rfl,p3,M3⟩) ?_)
     ·rintro y c o9 _ _ ⟨rfl,p4,M4⟩;refine gd (kI ?_);by_cases h1:(pendingOf o9).size>1
      ·rw[gq h1]
       cases hc:(pendingOf o9)[(pendingOf o9).size-2]? with
       |none=>dsimp only;exact gh ⟨rfl,p4,M4⟩
       |some z=>
        obtain⟨z1,z2,ay⟩:=z;dsimp only;by_cases ho:ay<=pw
        ·rw[gq ho];exact gh ⟨rfl,p4,M4⟩
        ·rw[gv ho];refine gd (rS W H M4.R M4.ch (by have:=M4.le;omega) (by omega) fun aZ p5 R5 fQ _ du=>?_);simp only[uu,hZ,iJ];refine gh ⟨rfl,p5,R5,fQ,M4.le,?_,vn M4.rn (ig _) du⟩;have:=DX (p:=p4) (p':=p5) (lo:=lo) (n:=n') (by rw[R5.size,M4.R.size]) du (by rw[M4.R.size];exact M4.fx);rw[R5.size] at this;exact this
      ·rw[gv h1];dsimp only;exact gh ⟨rfl,p4,M4⟩
     ·rintro c o9 ⟨rfl,p4,M4⟩;dsimp only;exact gd (ju (gd (ju (gh ⟨lo+n',p4,rfl,by omega,(M4.pw).push⟩))))
 case post=>
  rintro c b7 ⟨p',rfl,M⟩;dsimp only;refine gd (iz (iB (I:=fun x c i3=> ∃p2,c=(none,())/\Mid it lt κ N N i3 p2/\(pendingOf i3).size<=max 1 (N-x)) (Q:=fun c i3=> ∃p2,c=(none,())/\Mid it lt κ N N i3 p2/\(pendingOf i3).size<=1) ?step2 ?fin2 ⟨p',rfl,M,?init⟩) ?post2)
  case init=>
   have:=M.ch.le;simp only[ma] at this;omega
  case fin2=>
   rintro c i3 ⟨p2,rfl,M2,hs⟩;exact⟨p2,rfl,M2,by omega⟩
  case post2=>
   rintro c i3 ⟨p2,rfl,M2,hs⟩;refine gh (h i3 p2 M2.R ?_);have ch:=M2.ch;have hl:p2.toList.length=N:=by simp[M2.R.size]
   match hq:(pendingOf i3).toList,ch with
   |[],ch=>have:0=N:=ch;omega
   |[(s,n,pw)],ch=>
    obtain⟨rfl,r,e⟩:=ch;have e:0+n=N:=e;have:seg p2.toList 0 n=p2.toList:=by unfold seg;rw[uE,qp (by omega)]
    have q:=r.2.1
    rwa [this] at q
   |_::_::_,ch=>
    have:(pendingOf i3).toList.length<=1:=by simpa using hs
    rw[hq] at this;simp at this
  case step2=>
   rintro x c i3 _ hx ⟨p2,rfl,M2,hs⟩;refine gd (kI ?_);by_cases h1:(pendingOf i3).size<=1
   ·rw[gq h1];exact gh ⟨p2,rfl,M2,h1⟩
   ·rw[gv h1];refine gd (rS W H M2.R M2.ch (ig _) ?_ fun j8 p3 R3 ch3 sz3 dr3=>?_)
    ·exact yi (Nat.add_le_add_right (Kj (m:=(pendingOf i3).size-2) (by omega) (ig _)) 1) (by omega)
    ·simp only[uu,hZ,iJ];exact gh ⟨p3,rfl,⟨R3,ch3,ig _,fun k k1 k2=>by omega⟩,by omega⟩
end
end TS
namespace PX
open PySem PySem.Spec PyProof.Rows L2 PySem.SeqAt
open PySem.AutoSeq1 (wpAny_loadPart')
open PySem.MeetsSeq PySem.MeetsSeq2 PySem.MeetsSeq3
def jN(op:CmpOp)(i j:Int):Bool:=match op with
 | .Lt=>decide (i<j)| .LtE=>decide (i<=j)| .Gt=>decide (i>j)|_=>decide (i>=j)
def DV(op:CmpOp):Prop:=op= .Lt\/op= .LtE\/op= .Gt\/op= .GtE
def KG(op:CmpOp)(A:gB)(s:gi)(y x:gp)(b:Bool):Prop:= ∀(prog:gC) (w:gy) (E:gU) (Q:gU),Q (.bool b) s->wpAny (model prog w) A (richCompare op y x) Q E s
def wt(op:CmpOp)(A:gB)(s:gi)(fin:Bool):List (Value×Value)->Bool->Prop
 |[],r=>r=fin
 |(y,x)::hU,r=> ∃e,EqAt A s y x e/\(if e=true then wt op A s fin hU r else KG op A s y x r)
theorem Gv(l b:fZ)(items c8:jI)(n n2:Nat)(dd t4:Option Addr)(sl m9:oj)(r:Bool):
  Meets (Builtin.«tuple.__lt__» ⟨[.ref l,.ref b],[]⟩) (fun A R s=>s.heap.get? l=some {cls:= .type "tuple",dict:=dd,data:= .seq items n,slots:=sl}/\s.heap.get? b=some {cls:= .type "tuple",dict:=t4,data:= .seq c8 n2,slots:=m9}/\
   wt .Lt A.in1 s (jN .Lt items.size c8.size) (items.toList.zip c8.toList) r/\R (.ok (.ret (.bool r))) s):=
 .of_wp fun prog w A R s h=>by
  obtain⟨hp,g,d,tk,os⟩:=s;obtain⟨hl,hb,hx,h⟩:=h;have f2:=yh
  wp_walk using wpAny_loadPart' hl,wpAny_loadPart' hb,yg _ (fun hU b s'=>b.1=none/\s'=⟨hp,g,d,tk,os⟩/\wt .Lt A.in1 ⟨hp,g,d,tk,os⟩ (jN .Lt items.size c8.size) hU r) _
  case turn=>
   rintro⟨y,x⟩ hU b s' ⟨r9,rfl,e,he,hx⟩;refine gk (he prog w _ _ ?_)
   cases e with
   |true=>
    simp only[hV] at hx
    wp_walk
    exact⟨rfl,rfl,hx⟩
   |false=>
    simp only[hZ,iJ] at hx;have bV:=hx prog w
    wp_walk using bV
    exact⟨_,rfl,by simpa using h⟩
  case fin=>
   rintro⟨b1,b2⟩ s' ⟨r9,rfl,hx⟩;simp only at r9;subst r9;have hx:r=jN .Lt items.size c8.size:=hx;rw[hx] at h
   wp_walk
   exact⟨_,rfl,by simpa[Builtin.Tuple.tupleCompareSizes,jN] using h⟩
  case h=>exact⟨rfl,rfl,hx⟩
theorem Gw(l b:fZ)(items c8:jI)(n n2:Nat)(dd t4:Option Addr)(sl m9:oj)(r:Bool):
  Meets (Builtin.«tuple.__le__» ⟨[.ref l,.ref b],[]⟩) (fun A R s=>s.heap.get? l=some {cls:= .type "tuple",dict:=dd,data:= .seq items n,slots:=sl}/\s.heap.get? b=some {cls:= .type "tuple",dict:=t4,data:= .seq c8 n2,slots:=m9}/\
   wt .LtE A.in1 s (jN .LtE items.size c8.size) (items.toList.zip c8.toList) r/\R (.ok (.ret (.bool r))) s):=
 .of_wp fun prog w A R s h=>by
  obtain⟨hp,g,d,tk,os⟩:=s;obtain⟨hl,hb,hx,h⟩:=h;have f2:=yh
  wp_walk using wpAny_loadPart' hl,wpAny_loadPart' hb,yg _ (fun hU b s'=>b.1=none/\s'=⟨hp,g,d,tk,os⟩/\wt .LtE A.in1 ⟨hp,g,d,tk,os⟩ (jN .LtE items.size c8.size) hU r) _
  case turn=>
   rintro⟨y,x⟩ hU b s' ⟨r9,rfl,e,he,hx⟩;refine gk (he prog w _ _ ?_)
   cases e with
   |true=>
    simp only[hV] at hx
    wp_walk
    exact⟨rfl,rfl,hx⟩
   |false=>
    simp only[hZ,iJ] at hx;have bV:=hx prog w
    wp_walk using bV
    exact⟨_,rfl,by simpa using h⟩
  case fin=>
   rintro⟨b1,b2⟩ s' ⟨r9,rfl,hx⟩;simp only at r9;subst r9;have hx:r=jN .LtE items.size c8.size:=hx;rw[hx] at h
   wp_walk
   exact⟨_,rfl,by simpa[Builtin.Tuple.tupleCompareSizes,jN] using h⟩
  case h=>exact⟨rfl,rfl,hx⟩
theorem Gx(l b:fZ)(items c8:jI)(n n2:Nat)(dd t4:Option Addr)(sl m9:oj)(r:Bool):
  Meets (Builtin.«tuple.__gt__» ⟨[.ref l,.ref b],[]⟩) (fun A R s=>s.heap.get? l=some {cls:= .type "tuple",dict:=dd,data:= .seq items n,slots:=sl}/\s.heap.get? b=some {cls:= .type "tuple",dict:=t4,data:= .seq c8 n2,slots:=m9}/\
   wt .Gt A.in1 s (jN .Gt items.size c8.size) (items.toList.zip c8.toList) r/\R (.ok (.ret (.bool r))) s):=
 .of_wp fun prog w A R s h=>by
  obtain⟨hp,g,d,tk,os⟩:=s;obtain⟨hl,hb,hx,h⟩:=h;have f2:=yh
  wp_walk using wpAny_loadPart' hl,wpAny_loadPart' hb,yg _ (fun hU b s'=>b.1=none/\s'=⟨hp,g,d,tk,os⟩/\wt .Gt A.in1 ⟨hp,g,d,tk,os⟩ (jN .Gt items.size c8.size) hU r) _
  case turn=>
   rintro⟨y,x⟩ hU b s' ⟨r9,rfl,e,he,hx⟩;refine gk (he prog w _ _ ?_)
   cases e with
   |true=>
    simp only[hV] at hx
    wp_walk
    exact⟨rfl,rfl,hx⟩
   |false=>
    simp only[hZ,iJ] at hx;have bV:=hx prog w
    wp_walk using bV
    exact⟨_,rfl,by simpa using h⟩
  case fin=>
   rintro⟨b1,b2⟩ s' ⟨r9,rfl,hx⟩;simp only at r9;subst r9;have hx:r=jN .Gt items.size c8.size:=hx;rw[hx] at h
   wp_walk
   exact⟨_,rfl,by simpa[Builtin.Tuple.tupleCompareSizes,jN] using h⟩
  case h=>exact⟨rfl,rfl,hx⟩
theorem Gy(l b:fZ)(items c8:jI)(n n2:Nat)(dd t4:Option Addr)(sl m9:oj)(r:Bool):
  Meets (Builtin.«tuple.__ge__» ⟨[.ref l,.ref b],[]⟩) (fun A R s=>s.heap.get? l=some {cls:= .type "tuple",dict:=dd,data:= .seq items n,slots:=sl}/\s.heap.get? b=some {cls:= .type "tuple",dict:=t4,data:= .seq c8 n2,slots:=m9}/\
   wt .GtE A.in1 s (jN .GtE items.size c8.size) (items.toList.zip c8.toList) r/\R (.ok (.ret (.bool r))) s):=
 .of_wp fun prog w A R s h=>by
  obtain⟨hp,g,d,tk,os⟩:=s;obtain⟨hl,hb,hx,h⟩:=h;have f2:=yh
  wp_walk using wpAny_loadPart' hl,wpAny_loadPart' hb,yg _ (fun hU b s'=>b.1=none/\s'=⟨hp,g,d,tk,os⟩/\wt .GtE A.in1 ⟨hp,g,d,tk,os⟩ (jN .GtE items.size c8.size) hU r) _
  case turn=>
   rintro⟨y,x⟩ hU b s' ⟨r9,rfl,e,he,hx⟩;refine gk (he prog w _ _ ?_)
   cases e with
   |true=>
    simp only[hV] at hx
    wp_walk
    exact⟨rfl,rfl,hx⟩
   |false=>
    simp only[hZ,iJ] at hx;have bV:=hx prog w
    wp_walk using bV
    exact⟨_,rfl,by simpa using h⟩
  case fin=>
   rintro⟨b1,b2⟩ s' ⟨r9,rfl,hx⟩;simp only at r9;subst r9;have hx:r=jN .GtE items.size c8.size:=hx;rw[hx] at h
   wp_walk
   exact⟨_,rfl,by simpa[Builtin.Tuple.tupleCompareSizes,jN] using h⟩
  case h=>exact⟨rfl,rfl,hx⟩
section
variable {A:gB}{s:gi}{l b:fZ}{items c8:jI}{r:Bool}
theorem GV(ho:DV op)(hl:s.heap.IsTuple l items)(hb:s.heap.IsTuple b c8)(hu:A.units<cLine)(hx:wt op A.in1 s (jN op items.size c8.size) (items.toList.zip c8.toList) r):KG op A s (.ref l) (.ref b) r:=fun prog w E Q h=>by
 obtain⟨⟨cls,dd,data,sl⟩,v7,hc,n,hd⟩:=id hl;obtain⟨⟨cC,t4,data2,m9⟩,n8,aL,n2,hd2⟩:=id hb;simp only at hc hd aL hd2;subst hc hd aL hd2;rcases ho with rfl|rfl|rfl|rfl
 ·exact yf (op:= .Lt) ⟨_,v7,rfl⟩ ⟨_,n8,rfl⟩ PySem.F.slot_tuple_lt PySem.F.entry_tuple_lt (PySem.F.args_tuple_lt_2 _ _) (Gv l b items c8 n n2 dd t4 sl m9 r) ⟨v7,n8,hx,show Value.bool r≠Value.notImplemented/\Q (.bool r) s from⟨(fun x=>nomatch x),h⟩⟩ hu
 ·exact yf (op:= .LtE) ⟨_,v7,rfl⟩ ⟨_,n8,rfl⟩ PySem.F.slot_tuple_le PySem.F.entry_tuple_le (PySem.F.args_tuple_le_2 _ _) (Gw l b items c8 n n2 dd t4 sl m9 r) ⟨v7,n8,hx,show Value.bool r≠Value.notImplemented/\Q (.bool r) s from⟨(fun x=>nomatch x),h⟩⟩ hu
 ·exact yf (op:= .Gt) ⟨_,v7,rfl⟩ ⟨_,n8,rfl⟩ PySem.F.slot_tuple_gt PySem.F.entry_tuple_gt (PySem.F.args_tuple_gt_2 _ _) (Gx l b items c8 n n2 dd t4 sl m9 r) ⟨v7,n8,hx,show Value.bool r≠Value.notImplemented/\Q (.bool r) s from⟨(fun x=>nomatch x),h⟩⟩ hu
 ·exact yf (op:= .GtE) ⟨_,v7,rfl⟩ ⟨_,n8,rfl⟩ PySem.F.slot_tuple_ge PySem.F.entry_tuple_ge (PySem.F.args_tuple_ge_2 _ _) (Gy l b items c8 n n2 dd t4 sl m9 r) ⟨v7,n8,hx,show Value.bool r≠Value.notImplemented/\Q (.bool r) s from⟨(fun x=>nomatch x),h⟩⟩ hu
end
mutual
def lr(op:CmpOp):D->D->Option Bool
 | .int i,.int j=>some (jN op i j)
 | .tup l,.tup m=>nU op l m
 |_,_=>none
def nU(op:CmpOp):List D->List D->Option Bool
 |[],m=>some (jN op 0 m.length)
 |x::l,[]=>some (jN op ((x::l).length) 0)
 |x::l,y::m=>if D.eqb x y=true then nU op l m else lr op x y
end
theorem nQ(op:CmpOp)(a b k:Int):jN op (a+k) (b+k)=jN op a b:=by
 cases op<;>simp[jN]
section
variable {X:Cx}{pins:gO}{σ:L2.St}{H:Hp}{s:gi}
theorem Ap(ho:DV op):KG op A s (.int i t) (.int j u) (jN op i j):=fun prog w E Q h=>by
 rcases ho with rfl|rfl|rfl|rfl
 ·exact(PyProof.Rows.lt_int h:wpAny (model prog w) A (compareOp .Lt _ _) Q E s)
 ·exact(PyProof.Rows.le_int h:wpAny (model prog w) A (compareOp .LtE _ _) Q E s)
 ·exact(PyProof.Rows.gt_int h:wpAny (model prog w) A (compareOp .Gt _ _) Q E s)
 ·exact(PyProof.Rows.ge_int h:wpAny (model prog w) A (compareOp .GtE _ _) Q E s)
theorem GW(ho:DV op)(I:Inv X pins σ H s): ∀(n:Nat) (d e:D) (v u:V) (a b:gp) (O O':AP') (A:gB) (r:Bool),iT X.K H O d v->iT X.K H O' e u->RelV v a->RelV u b->d.dep<=n->e.dep<20000->A.units+n<cLine->lr op d e=some r->KG op A s a b r:=by
 intro n
 induction n with
 |zero=>
  intro d e v u a b O O' A r hd he ra rb hn o6 hA hc
  cases d with
  |int i=>
   cases e with
   |int j=>
    have:=gP hd;subst this;have:=gP he;subst this;obtain⟨t,rfl⟩:=ra;obtain⟨t',rfl⟩:=rb;rw[lr] at hc;rw[<-iw hc];exact Ap ho
   |_=>rw[lr] at hc<;>first|cases hc|(intros;simp_all)
  |tup l=>rw[D.dep] at hn;omega
  |_=>rw[lr] at hc<;>first|cases hc|(intros;simp_all)
 |succ n ih=>
  intro d e v u a b O O' A r hd he ra rb hn o6 hA hc
  cases d with
  |int i=>
   cases e with
   |int j=>
    have:=gP hd;subst this;have:=gP he;subst this;obtain⟨t,rfl⟩:=ra;obtain⟨t',rfl⟩:=rb;rw[lr] at hc;rw[<-iw hc];exact Ap ho
   |_=>rw[lr] at hc<;>first|cases hc|(intros;simp_all)
  |tup l=>
   cases e with
   |tup m=>
    rw[lr] at hc;rw[D.dep] at hn o6;obtain⟨p,xs,rfl,q,r1⟩:=kQ hd;obtain⟨p2,ys,rfl,q2,r2⟩:=kQ he;cases ra;cases rb;obtain⟨its,v1,pl,_⟩:=I.tuple q;obtain⟨d6,v2,f6,_⟩:=I.tuple q2;have n6:A.in1.units=A.units+1:=rfl
    have key: ∀(l m:List D) (xs ys:List V) (its d6:hJ) (k:Int),D.depL l+1<=n+1->D.depL m<20000->RepL X.K H O l xs->RepL X.K H O' m ys->Vals xs its->Vals ys d6->nU op l m=some r->wt op A.in1 s (jN op (its.length+k) (d6.length+k)) (its.zip d6) r:=by
     intro l
     induction l with
     |nil=>
      intro m xs ys its d6 k af ak r1 r2 v1 v2 hc;rw[RepL] at r1;subst r1;cases v1;rw[nU] at hc;have e1:=r2.length;have e2:=v2.length;show r=_;rw[nQ,<-iw hc]
      congr 1
      omega
     |cons x l ihl=>
      intro m xs ys its d6 k af ak r1 r2 v1 v2 hc;rw[RepL] at r1;obtain⟨vx,xr,rfl,g1,g2⟩:=r1
      cases v1 with
      |cons a1 a2=>
       cases m with
       |nil=>
        rw[RepL] at r2;subst r2;cases v2;rw[nU] at hc;have e1:=g2.length;have e2:=a2.length;rw[List.zip_nil_right];show r=_;rw[nQ,<-iw hc]
        congr 1
        simp only[lX];omega
       |cons y m=>
        rw[RepL] at r2;obtain⟨vy,yr,rfl,g3,g4⟩:=r2
        cases v2 with
        |cons b1 b2=>
         rw[nU] at hc;rw[D.depL] at af ak;rw[List.zip_cons_cons];refine⟨D.eqb x y,CQ I n x y vx vy _ _ O O' A.in1 (.inl g1) (.inl g3) a1 b1 (by omega) (by omega) (by rw[n6];omega),?_⟩
         cases hq:D.eqb x y with
         |true=>
          rw[hq,gq rfl] at hc;rw[gq rfl];have:=ihl m xr yr _ _ (k+1) (by omega) (by omega) g2 g4 a2 b2 hc;simp only[lX];have e: ∀a:Nat,(((a+1:Nat):Int)+k)=(a:Int)+(k+1):=fun a=>by omega
          rw[e,e];exact this
         |false=>
          rw[hq,gv iU] at hc;rw[gv iU];exact ih x y vx vy _ _ O O' A.in1 r (.inl g1) (.inl g3) a1 b1 (by omega) (by omega) (by rw[n6];omega) hc
    have:=key l m xs ys its d6 0 (by omega) (by omega) r1 r2 v1 v2 hc;refine GV ho pl f6 (by omega) ?_;simpa using this
   |_=>rw[lr] at hc<;>first|cases hc|(intros;simp_all)
  |_=>rw[lr] at hc<;>first|cases hc|(intros;simp_all)
def lh(op:CmpOp)(d e:D):Option (D×Bool):=if d.dep<=50/\e.dep<=50 then(lr op d e).map fun b=>(.bl b,false) else none
theorem kL(ho:DV op)(hu:X.A.units+60<cLine):OpR X (compareOp op) (rD X.K (lh op)):=by
 intro pins s σ H x y v u Q I rx ry h;obtain⟨O,d,e,z,np,h1,h2,hg,G⟩:=h;unfold lh at hg;split at hg
 ·rename_i hd;obtain⟨r,hr,rfl⟩:=hW hg;have:=GW ho I 50 d e x y v u O O X.A r h1 h2 rx ry hd.1 (by omega) (by omega) hr X.prog X.w X.xe (EP X pins σ Q) ⟨.bl r,H,I,rfl,G.bl⟩;rcases ho with rfl|rfl|rfl|rfl<;>exact this
 ·cases hg
end
open TS
section
variable {prog:gC}{w:gy}{A:gB}{E:gU}{s:gi}
def ng(h:gz)(a:fZ)(vs:hJ):Heap:=((h.update a (Obj.mapSeq fun _=> #[])).push (seqObj "tuple" vs.toArray 0)).push (seqObj "list" #[] 0)
def ET(vs:hJ)(i:Nat):Keyed:=(vs.getD i Value.none,vs.getD i Value.none)
theorem pV{a:fZ}{vs:hJ}{n:Nat}{P:PySem.Fin->Shared->Prop}{κ:SortKind}{lt:kO}(ho:s.heap.get? a=some (seqObj "list" vs.toArray n))(hz:vs.length<=sizeLine)(W:Wk lt)
  (hk:2<=vs.length->wpAny (model prog w) A (keyKind' vs.toArray) (fun κ' s'=>s'={s with heap:=ng s.heap a vs}/\κ'=κ) (fun _ _=>False) {s with heap:=ng s.heap a vs})
  (ask:2<=vs.length->Ask prog w A E (fun s'=>s'={s with heap:=ng s.heap a vs}) (ET vs) κ vs.length lt)
  (h: ∀p:List Nat,p.Perm (List.range vs.length)->p.Pairwise (SL lt)->P (.done (.ret .none)) {s with heap:=(ng s.heap a vs).update a (Obj.mapSeq fun _=>(p.map fun i=>vs.getD i Value.none).toArray)}):
  wpAny (model prog w) A (Builtin.«list.sort» ⟨[.ref a],[]⟩) P E s:=by
 rw[list_sort_plain];have ha:a<s.heap.objs.size:=iC ho;refine gk (Bn ho rfl (gk (qc ho rfl ?_ (by rw[iK];exact hz) (mB _))));obtain⟨e1,v7⟩: ∃e1,(s.heap.update a (Obj.mapSeq fun _=>(#[]:Array Value))).get? a=some (seqObj "list" #[] e1):=⟨_,rl ho fun _=> #[]⟩
 refine gk (uD v7 rfl (gk (Bx ?_ (by show vs.length<=_;exact hz))));refine gk (ye ?_ (mB _));refine mX ?_;have dQ:(ng s.heap a vs).get? a=some (seqObj "list" #[] e1):=iM _ (iM _ v7);show wpAny (model prog w) A _ P E {s with heap:=ng s.heap a vs};dsimp only;by_cases h2:vs.toArray.size<2
 ·rw[gq h2,gq h2];refine gk (gF ?_);rw[Bv];refine gk (gF ?_);dsimp only;refine gk (uD dQ rfl (gk (qc dQ rfl ?_ (mB _) ?_)))
  ·simp only[rL,hZ,iJ];refine gF ?_;have dr:vs.length<2:=by simpa using h2
   have:=h (List.range vs.length) (rA _) (by
    rw[Ei];intro i j hi hj k6;simp at hi hj;omega)
   have e:((vs.toArray.zip vs.toArray).map (·.2))=((List.range vs.length).map fun i=>vs.getD i Value.none).toArray:=by
    apply Array.ext
    ·simp
    ·intro i h1 h3;have hi:i<vs.length:=by simpa using h1
     simp[hi]
   rw[e];exact this
  ·rw[Bo,Array.size_zip];simp;omega
 ·rw[gv h2,gv h2];have dr:2<=vs.length:=by simpa using h2
  refine gk (lM (hk dr) (fun κ' s' hκ=>?_) fun _ _ x=>x.elim);obtain⟨rfl,rfl⟩:=hκ
  have R:Rp (ET vs) κ' vs.length (SortSt.mk' κ' (vs.toArray.zip vs.toArray) #[] 7 none) (Array.range vs.length):=by
   refine⟨?_,rfl,rfl,by simp,Bm _⟩;show vs.toArray.zip vs.toArray=_;apply Array.ext
   ·simp
   ·intro i h1 h3;have hi:i<vs.length:=by simpa using h1
    simp[ET,hi]
  refine gk (lM (Gi (lt:=lt) W (ask dr) (by omega) R rfl (fun k hk=>by simp[TS.P,hk]) (Q:=fun _ b7=> ∃p',Rp (ET vs) κ' vs.length b7 p'/\p'.toList.Pairwise (SL lt)) (fun b7 p' R' hp=>⟨p',R',hp⟩) _ rfl) ?_ fun _ _ e=>e);rintro⟨⟨⟩,b7⟩ s' ⟨rfl,p',R',hp⟩;dsimp only;have bj:failedOf b7=none:=R'.ok
  have out:(arrOf b7).map (·.2)=(p'.toList.map fun i=>vs.getD i Value.none).toArray:=by
   rw[R'.arr,Array.map_map];apply Array.toList_inj.mp;simp[ET]
  have pl:p'.toList.length=vs.length:=by simp[R'.size]
  refine gk (uD dQ rfl (gk (qc dQ rfl ?_ (mB _) ?_)))
  ·rw[bj];simp only[rL,hZ,iJ];rw[out];refine gF (h p'.toList ?_ hp);have:=KJ.mp R'.perm;simpa using this
  ·rw[out,iK,jF,pl];omega
end
mutual
def cT:D->D->Ordering
 | .int i,.int j=>if i<j then .lt else if i=j then .eq else .gt
 | .int _,_=> .lt
 | .tup _,.int _=> .gt
 | .tup l,.tup m=>cL l m
 | .tup _,_=> .lt
 |_,.int _=> .gt
 |_,.tup _=> .gt
 |_,_=> .eq
def cL:List D->List D->Ordering
 |[],[]=> .eq
 |[],_::_=> .lt
 |_::_,[]=> .gt
 |x::l,y::m=>match cT x y with
  | .lt=> .lt
  | .gt=> .gt
  | .eq=>cL l m
end
mutual
theorem D9: ∀x:D,cT x x= .eq
 | .int i=>by simp[cT]
 | .tup l=>by rw[cT];exact Eb l
 | .non=>by simp[cT]
 | .bl _=>by simp[cT]
 | .str _=>by simp[cT]
 | .lst _=>by simp[cT]
 | .oth _ _ _=>by simp[cT]
theorem Eb: ∀l:List D,cL l l= .eq
 |[]=>by simp[cL]
 |x::l=>by rw[cL,D9 x];exact Eb l
end
mutual
theorem kU: ∀x y:D,cT y x=(cT x y).swap
 | .int i,.int j=>by
  rw[cT,cT];by_cases h1:i<j
  ·rw[gq h1,gv (by omega),gv (by omega)];rfl
  ·rw[gv h1];by_cases h2:i=j
   ·rw[gq h2,gv (by omega),gq h2.symm];rfl
   ·rw[gv h2,gq (by omega)];rfl
 | .tup l,.tup m=>by rw[cT,cT];exact Ea l m
 | .int _,.tup _=>by simp[cT]
 | .int _,.non=>by simp[cT]
 | .int _,.bl _=>by simp[cT]
 | .int _,.str _=>by simp[cT]
 | .int _,.lst _=>by simp[cT]
 | .int _,.oth _ _ _=>by simp[cT]
 | .tup _,.int _=>by simp[cT]
 | .tup _,.non=>by simp[cT]
 | .tup _,.bl _=>by simp[cT]
 | .tup _,.str _=>by simp[cT]
 | .tup _,.lst _=>by simp[cT]
 | .tup _,.oth _ _ _=>by simp[cT]
 | .non,y=>by cases y<;>simp[cT]
 | .bl _,y=>by cases y<;>simp[cT]
 | .str _,y=>by cases y<;>simp[cT]
 | .lst _,y=>by cases y<;>simp[cT]
 | .oth _ _ _,y=>by cases y<;>simp[cT]
theorem Ea: ∀l m:List D,cL m l=(cL l m).swap
 |[],[]=>by simp[cL]
 |[],_::_=>by simp[cL]
 |_::_,[]=>by simp[cL]
 |x::l,y::m=>by
  rw[cL,cL,kU x y];cases h:cT x y<;>simp[Ordering.swap]
  exact Ea l m
end
theorem K8(h1:cT x y≠ .gt)(h2:cT y x≠ .gt):cT x y= .eq:=by
 rw[kU x y] at h2
 cases h:cT x y with
 |lt=>rw[h] at h2;exact absurd rfl h2
 |eq=>rfl
 |gt=>exact absurd h h1
mutual
theorem oQ: ∀x y z:D,cT x y≠ .gt->cT y z≠ .gt->cT x z≠ .gt
 | .int i,y,z,h1,h2=>by
  cases z with
  |int k=>
   cases y with
   |int j=>
    rw[cT] at h1 h2 ⊢
    have a:i<=j:=by
     by_cases a:i<j
     ·omega
     ·rw[gv a] at h1;by_cases b:i=j
      ·omega
      ·rw[gv b] at h1;exact absurd rfl h1
    have b:j<=k:=by
     by_cases a:j<k
     ·omega
     ·rw[gv a] at h2;by_cases b:j=k
      ·omega
      ·rw[gv b] at h2;exact absurd rfl h2
    by_cases c:i<k
    ·rw[gq c];simp
    ·rw[gv c,gq (by omega)];simp
   |_=>simp[cT] at h2
  |_=>simp[cT]
 | .tup l,y,z,h1,h2=>by
  cases y with
  |int j=>simp[cT] at h1
  |tup m=>
   cases z with
   |int k=>simp[cT] at h2
   |tup n=>rw[cT] at h1 h2 ⊢;exact A5 l m n h1 h2
   |_=>simp[cT]
  |_=>cases z<;>simp_all [cT]
 | .non,y,z,h1,h2=>by cases y<;>cases z<;>simp_all [cT]
 | .bl _,y,z,h1,h2=>by cases y<;>cases z<;>simp_all [cT]
 | .str _,y,z,h1,h2=>by cases y<;>cases z<;>simp_all [cT]
 | .lst _,y,z,h1,h2=>by cases y<;>cases z<;>simp_all [cT]
 | .oth _ _ _,y,z,h1,h2=>by cases y<;>cases z<;>simp_all [cT]
 termination_by x y z=>sizeOf x+sizeOf y+sizeOf z
theorem A5: ∀l m n:List D,cL l m≠ .gt->cL m n≠ .gt->cL l n≠ .gt
 |[],m,n,_,_=>by cases n<;>simp[cL]
 |x::l,[],n,h1,_=>by simp[cL] at h1
 |x::l,y::m,[],_,h2=>by simp[cL] at h2
 |x::l,y::m,z::n,h1,h2=>by
  have a1:cT x y≠ .gt:=fun h=>by rw[cL,h] at h1;exact h1 rfl
  have a2:cT y z≠ .gt:=fun h=>by rw[cL,h] at h2;exact h2 rfl
  have a3:=oQ x y z a1 a2;rw[cL]
  cases hxz:cT x z with
  |lt=>simp
  |gt=>exact absurd hxz a3
  |eq=>
   have zx:cT z x≠ .gt:=by rw[kU x z,hxz];simp[Ordering.swap]
   have exy:cT x y= .eq:=K8 a1 (oQ y z x a2 zx);have eyz:cT y z= .eq:=K8 a2 (oQ z x y zx a1);rw[cL,exy] at h1;rw[cL,eyz] at h2;exact A5 l m n h1 h2
 termination_by l m n=>sizeOf l+sizeOf m+sizeOf n
end
def ltT(x y:D):Bool:=cT x y== .lt
theorem Cv:ltT x y=true↔cT x y= .lt:=by simp[ltT]
theorem lT:ltT x y=false↔cT x y≠ .lt:=by simp[ltT]
theorem Ln(f:Nat->D):Wk fun i j=>ltT (f i) (f j):=by
 have key: ∀x y z:D,ltT x z=true->ltT x y=true\/ltT y z=true:=fun x y z h=>by
  cases h1:ltT x y with
  |true=>exact .inl rfl
  |false=>
   cases h2:ltT y z with
   |true=>exact .inr rfl
   |false=>
    exfalso
    have yx:cT y x≠ .gt:=by
     rw[kU x y];intro e;rw[lT] at h1
     cases hc:cT x y with
     |lt=>exact h1 hc
     |eq=>rw[hc] at e;cases e
     |gt=>rw[hc] at e;cases e
    have zy:cT z y≠ .gt:=by
     rw[kU y z];intro e;rw[lT] at h2
     cases hc:cT y z with
     |lt=>exact h2 hc
     |eq=>rw[hc] at e;cases e
     |gt=>rw[hc] at e;cases e
    have:=oQ z y x zy yx;rw[kU x z,Cv.mp h] at this;exact this rfl
 refine⟨fun i=>by rw[lT,D9];simp,fun i j k h1 h2=>?_,fun i j k h=>key _ _ _ h⟩;rcases key (f i) (f k) (f j) h1 with h|h
 ·exact h
 ·
  rw[Cv] at h h2;rw[kU,h] at h2;cases h2
mutual
/-- ints,and tuples of such -/
def D.pr:D->Bool
 | .int _=>true
 | .tup l=>D.prL l
 |_=>false
def D.prL:List D->Bool
 |[]=>true
 |x::l=>D.pr x&&D.prL l
end
mutual
theorem Iw: ∀x y:D,D.pr x=true->D.pr y=true->D.eqb x y=(cT x y== .eq)
 | .int i,.int j,_,_=>by
  rw[D.eqb,cT];by_cases h:i=j
  ·subst h;simp
  ·rw[gv h];by_cases h2:i<j<;>simp[h,h2]
 | .int _,.tup _,_,_=>by simp[D.eqb,cT]
 | .tup _,.int _,_,_=>by simp[D.eqb,cT]
 | .tup l,.tup m,h1,h2=>by rw[D.eqb,cT];rw[D.pr] at h1 h2;exact D2 l m h1 h2
 | .non,_,h,_=>by simp[D.pr] at h
 | .bl _,_,h,_=>by simp[D.pr] at h
 | .str _,_,h,_=>by simp[D.pr] at h
 | .lst _,_,h,_=>by simp[D.pr] at h
 | .oth _ _ _,_,h,_=>by simp[D.pr] at h
 |_,.non,_,h=>by simp[D.pr] at h
 |_,.bl _,_,h=>by simp[D.pr] at h
 |_,.str _,_,h=>by simp[D.pr] at h
 |_,.lst _,_,h=>by simp[D.pr] at h
 |_,.oth _ _ _,_,h=>by simp[D.pr] at h
theorem D2: ∀l m:List D,D.prL l=true->D.prL m=true->D.eqbL l m=(cL l m== .eq)
 |[],[],_,_=>by simp[D.eqbL,cL]
 |[],_::_,_,_=>by simp[D.eqbL,cL]
 |_::_,[],_,_=>by simp[D.eqbL,cL]
 |x::l,y::m,h1,h2=>by
  rw[D.prL,lE] at h1 h2;rw[D.eqbL,cL,Iw x y h1.1 h2.1,D2 l m h1.2 h2.2];cases cT x y<;>simp
end
mutual
theorem zA: ∀x y:D,D.pr x=true->D.pr y=true-> ∀b,lr .Lt x y=some b->b=ltT x y
 | .int i,.int j,_,_,b,h=>by
  rw[lr] at h;rw[<-iw h,ltT,cT,jN];by_cases h1:i<j
  ·simp[h1]
  ·rw[gv h1];by_cases h2:i=j<;>simp[h1,h2]
 | .int _,.tup _,_,_,b,h=>by simp[lr] at h
 | .tup _,.int _,_,_,b,h=>by simp[lr] at h
 | .tup l,.tup m,h1,h2,b,h=>by
  rw[lr] at h;rw[D.pr] at h1 h2;rw[ltT,cT];exact D6 l m h1 h2 b h
 | .non,_,h,_,_,_=>by simp[D.pr] at h
 | .bl _,_,h,_,_,_=>by simp[D.pr] at h
 | .str _,_,h,_,_,_=>by simp[D.pr] at h
 | .lst _,_,h,_,_,_=>by simp[D.pr] at h
 |_,.non,_,h,_,_=>by simp[D.pr] at h
 |_,.bl _,_,h,_,_=>by simp[D.pr] at h
 |_,.str _,_,h,_,_=>by simp[D.pr] at h
 |_,.lst _,_,h,_,_=>by simp[D.pr] at h
theorem D6: ∀l m:List D,D.prL l=true->D.prL m=true-> ∀b,nU .Lt l m=some b->b=(cL l m== .lt)
 |[],[],_,_,b,h=>by rw[nU] at h;rw[<-iw h];simp[jN,cL]
 |[],_::_,_,_,b,h=>by rw[nU] at h;rw[<-iw h];simp[jN,cL]<;>omega
 |_::_,[],_,_,b,h=>by rw[nU] at h;rw[<-iw h];simp[jN,cL]<;>omega
 |x::l,y::m,h1,h2,b,h=>by
  rw[D.prL,lE] at h1 h2;rw[nU,Iw x y h1.1 h2.1] at h;rw[cL]
  cases hc:cT x y with
  |eq=>rw[hc] at h;simp at h;exact D6 l m h1.2 h2.2 b h
  |lt=>rw[hc] at h;simp at h;have:=zA x y h1.1 h2.1 b h;rw[this,ltT,hc]
  |gt=>rw[hc] at h;simp at h;have:=zA x y h1.1 h2.1 b h;rw[this,ltT,hc]
end
section
variable {α:Type}(lt:α->α->Bool)
def pJ(x:α):List α->List α
 |[]=>[x]
 |y::l=>if lt y x=true then y::pJ x l else x::y::l
def kc:List α->List α
 |[]=>[]
 |x::l=>pJ lt x (kc l)
theorem nB(x:α): ∀l:List α,(pJ lt x l).Perm (x::l)
 |[]=>rA _
 |y::l=>by
  rw[pJ];split
  ·exact((nB x l).cons y).trans (List.Perm.swap x y l)
  ·exact rA _
theorem jM: ∀l:List α,(kc lt l).Perm l
 |[]=>rA _
 |x::l=>(nB lt x _).trans ((jM l).cons x)
theorem AL{β:Type}(bH:β->β->Bool)(f:α->β)(x:α): ∀l:List α,(∀y∈l,bH (f y) (f x)=lt y x)->pJ bH (f x) (l.map f)=(pJ lt x l).map f
 |[],_=>rfl
 |y::l,h=>by
  rw[ic,pJ,pJ,h y jg];split
  ·rw[ic,AL bH f x l fun z hz=>h z (jf _ hz)]
  ·rfl
theorem xa{β:Type}(bH:β->β->Bool)(f:α->β): ∀l:List α,(∀x∈l,∀y∈l,bH (f y) (f x)=lt y x)->kc bH (l.map f)=(kc lt l).map f
 |[],_=>rfl
 |x::l,h=>by
  rw[ic,kc,kc,xa bH f l fun a ha b hb=>h a (jf _ ha) b (jf _ hb)];exact AL lt bH f x _ fun y hy=>h x jg y (jf _ ((jM lt l).mem_iff.mp hy))
end
theorem DW{lt:kO}(W:Wk lt){x:Nat}: ∀{l:gW},l.Pairwise (SL lt)->(∀y∈l,x<y)->(pJ lt x l).Pairwise (SL lt)
 |[],_,_=>ym _ _
 |y::l,h,hx=>by
  rw[nY] at h;rw[pJ]
  cases hl:lt y x with
  |true=>
   rw[gq rfl,nY];refine⟨fun z hz=>?_,DW W h.2 fun z hz=>hx z (jf _ hz)⟩;rcases kb.mp ((nB lt x l).mem_iff.mp hz) with rfl|hz
   ·exact .inl hl
   ·exact h.1 z hz
  |false=>
   rw[gv iU,nY];have first:SL lt x y:= .inr ⟨hl,hx y jg⟩;refine⟨fun z hz=>?_,nY.mpr h⟩;rcases kb.mp hz with rfl|hz
   ·exact first
   ·exact SL.trans W first (h.1 z hz)
theorem Af{lt:kO}(W:Wk lt): ∀{l:gW},l.Pairwise (· < ·)->(kc lt l).Pairwise (SL lt)
 |[],_=>List.Pairwise.nil
 |x::l,h=>by
  rw[nY] at h;exact DW W (Af W h.2) fun y hy=>h.1 y ((jM lt l).mem_iff.mp hy)
theorem Ae(W:Wk lt)(hp:p.Perm (List.range n))(hs:p.Pairwise (SL lt)):p=kc lt (List.range n):=by
 refine List.Perm.eq_of_pairwise (fun x y _ _ h1 h2=>(SL.asym W h1 h2).elim) hs (Af W KH) (hp.trans (jM lt _).symm)
theorem Eu{ds:List D}{p:gW}(hp:p.Perm (List.range ds.length))(hs:p.Pairwise (SL fun i j=>ltT (ds.getD i .non) (ds.getD j .non))):p.map (fun i=>ds.getD i .non)=kc ltT ds:=by
 rw[Ae (Ln fun i=>ds.getD i .non) hp hs,<-xa _ ltT (fun i=>ds.getD i .non) _ fun x _ y _=>rfl]
 congr 1
 apply rG;intro i;by_cases hi:i<ds.length
 ·simp[hi]
 ·simp[hi]
def jJ:D->Option Nat
 | .int _=>some 0
 | .tup (.int _::_)=>some 1
 | .tup (.tup _::_)=>some 2
 |_=>none
def DQ:Nat->SortKind
 |0=>oneType'
 |1=>tuples' true
 |_=>tuples' false
structure SortsBy(k:Nat)(l:List D):Prop where
 hd: ∀x∈l,jJ x=some k
 pr: ∀x∈l,D.pr x=true
 dp: ∀x∈l,x.dep<=50
 cm: ∀x∈l,∀y∈l,(lr .Lt x y).isSome=true
def rX(l:List D):Bool:=l.length<=1||match l with
 |[]=>true
 |x::_=>(jJ x).isSome&&(l.all fun y=>jJ y==jJ x&&D.pr y&&decide (y.dep<=50))&&l.all fun y=>l.all fun z=>(lr .Lt y z).isSome
theorem Ew(h:rX l=true):l.length<=1\/ ∃k,SortsBy k l:=by
 unfold rX at h;rw[Bl] at h;rcases h with h|h
 ·left;simpa using h
 ·right
  cases l with
  |nil=>exact⟨0,fun x hx=>absurd hx kP,fun x hx=>absurd hx kP,fun x hx=>absurd hx kP,fun x hx=>absurd hx kP⟩
  |cons x m=>
   simp only[lE,nH,decide_eq_true_eq] at h;obtain⟨⟨h1,h2⟩,h3⟩:=h;obtain⟨k,hk⟩:=Fh.mp h1;refine⟨k,fun y hy=>?_,fun y hy=>(h2 y hy).1.2,fun y hy=>(h2 y hy).2,fun y hy z hz=>h3 y hy z hz⟩;have:=(h2 y hy).1.1;rw[hk] at this;simpa using this
section
variable {X:Cx}{pins:gO}{σ:L2.St}{H:Hp}{s:gi}
theorem pe(v:Vals xs its)(hi:i<its.length):RelV (xs.getD i .non) (its.getD i Value.none):=by
 have e:=v.length;have hx:xs[i]?=some xs[i]:=iu (by omega);obtain⟨w,w1,w2⟩:=v.get hx;have h1:xs.getD i .non=xs[i]:=by simp[show i<xs.length by omega]
 have h2:its.getD i Value.none=w:=by
  rw[iu hi] at w1;have:=iw w1;simp[hi,this]
 rw[h1,h2];exact w2
theorem pq(r:RepL X.K H O ds xs)(hi:i<ds.length):Rep X.K H O (ds.getD i .non) (xs.getD i .non):=by
 have e:=r.length;have hd:ds[i]?=some ds[i]:=iu hi;obtain⟨v,v1,v2⟩:=r.get hd;have h1:ds.getD i .non=ds[i]:=by simp[hi]
 have h2:xs.getD i .non=v:=by
  rw[iu (by omega)] at v1;have:=iw v1;simp[show i<xs.length by omega,this]
 rw[h1,h2];exact v2
theorem vK{ds:List D}{i:Nat}(hi:i<ds.length):ds.getD i .non∈ds:=by simp[hi]
theorem AI(I:Inv X pins σ H s){A:gB}{b:Bool}{O O':AP'}(hA:A.units+60<cLine){r:Bool}{Q:Bool->Shared->Prop}(hQ:Q r s): ∀(l m:List D) (xs ys:List V) (its d6:hJ) (k:Int) (i:Nat),D.depL l<=50->D.depL m<=50->
  ((b&&i==0)=true-> ∀x y l' m',l=x::l'->m=y::m'->(∃a,x= .int a)/\ ∃c,y= .int c)->RepL X.K H O l xs->RepL X.K H O' m ys->Vals xs its->Vals ys d6->nU .Lt l m=some r->
  ∀fin:Bool,fin=jN .Lt (its.length+k) (d6.length+k)->PySem.W.KatLex X.prog X.w A b fin Q (its.zip d6) i s
 |[],m,xs,ys,its,d6,k,i,_,_,_,r1,r2,v1,v2,hc,fin,hf=>by
  rw[RepL] at r1;subst r1;cases v1;rw[nU] at hc;have e1:=r2.length;have e2:=v2.length;show Q fin s;rw[hf,nQ];rw[<-iw hc] at hQ;have:jN .Lt ((([]:List Value).length:Nat):Int) (d6.length:Int)=jN .Lt 0 (m.length:Int):=by congr 1;omega
  rw[this];exact hQ
 |x::l,[],xs,ys,its,d6,k,i,_,_,_,r1,r2,v1,v2,hc,fin,hf=>by
  rw[RepL] at r2;subst r2;cases v2;rw[nU] at hc;have e1:=r1.length;have e2:=v1.length;rw[List.zip_nil_right];show Q fin s;rw[hf,nQ];rw[<-iw hc] at hQ;have:jN .Lt (its.length:Int) ((([]:List Value).length:Nat):Int)=jN .Lt (((x::l).length:Nat):Int) 0:=by congr 1;omega
  rw[this];exact hQ
 |x::l,y::m,xs,ys,its,d6,k,i,af,ak,hb,r1,r2,v1,v2,hc,fin,hf=>by
  rw[RepL] at r1 r2;obtain⟨vx,xr,rfl,g1,g2⟩:=r1;obtain⟨vy,yr,rfl,g3,g4⟩:=r2
  cases v1 with
  |cons a1 a2=>
   cases v2 with
   |cons b1 b2=>
    rw[nU] at hc;rw[D.depL] at af ak;rw[List.zip_cons_cons];refine PySem.W.kat_cons (CQ I 50 x y vx vy _ _ O O' A (.inl g1) (.inl g3) a1 b1 (by omega) (by omega) (by omega) X.prog X.w _ _ ?_)
    cases hq:D.eqb x y with
    |true=>
     rw[hq,gq rfl] at hc;refine PySem.W.kat_yes (AI I hA hQ l m xr yr _ _ (k+1) (i+1) (by omega) (by omega) (fun h=>by simp at h) g2 g4 a2 b2 hc fin ?_);rw[hf];simp only[lX];have e: ∀a:Nat,(((a+1:Nat):Int)+k)=(a:Int)+(k+1):=fun a=>by omega
     rw[e,e]
    |false=>
     rw[hq,gv iU] at hc;refine PySem.W.kat_no ?_
     cases hbi:(b&&i==0) with
     |true=>
      obtain⟨⟨a,rfl⟩,c,rfl⟩:=hb hbi x y l m rfl rfl;have:=g1.int;subst this;have:=g3.int;subst this;obtain⟨t,rfl⟩:=a1;obtain⟨t',rfl⟩:=b1;rw[lr] at hc;rw[<-iw hc] at hQ;exact oneLt_int hQ
     |false=>
      exact PySem.W.kat_one _ _ (GW (.inl rfl) I 50 x y vx vy _ _ O O' A r (.inl g1) (.inl g3) a1 b1 (by omega) (by omega) (by omega) hc X.prog X.w _ _ hQ)
theorem OD(I:Inv X pins σ H s){O:AP'}{ds:List D}{xs:List V}{its:hJ}{A:gB}{E:gU}(hA:A.units+60<cLine)(rr:RepL X.K H O ds xs)(v:Vals xs its){k:Nat}(B:SortsBy k ds):
  Ask X.prog X.w A E (fun s'=>s'=s) (ET its) (DQ k) its.length (fun i j=>ltT (ds.getD i .non) (ds.getD j .non)):=by
 intro i j hi hj s' bj E';subst bj;have e1:=rr.length;have e2:=v.length;have mi:ds.getD i .non∈ds:=vK (by omega);have mj:ds.getD j .non∈ds:=vK (by omega);have ri:=pq rr (i:=i) (by omega);have rj:=pq rr (i:=j) (by omega);have vi:=pe v hi;have vj:=pe v hj;obtain⟨b,hb⟩:=Fh.mp (B.cm _ mi _ mj);have u6:=zA _ _ (B.pr _ mi) (B.pr _ mj) b hb;have aV:=B.hd _ mi;have aU:=B.hd _ mj;have di:=B.dp _ mi;have dj:=B.dp _ mj;show wpAny _ _ (keyLt' (DQ k) (its.getD i Value.none) (its.getD j Value.none)) _ _ _;dsimp only;rw[<-u6];generalize ds.getD i .non=x at*;generalize ds.getD j .non=y at*;generalize xs.getD i .non=vx at*;generalize xs.getD j .non=vy at*;generalize its.getD i Value.none=a at*;generalize its.getD j Value.none=c at*
 have tups: ∀(l m:List D) (bb:Bool),x= .tup l->y= .tup m->(bb=true-> ∀x y l' m',l=x::l'->m=y::m'->(∃a,x= .int a)/\ ∃c,y= .int c)->wpAny (model X.prog X.w) A (keyLt' (tuples' bb) a c) (fun b' v5=>v5=s'/\b'=b) E' s':=fun l m bb hl hm hh=>by
  subst hl hm;obtain⟨p,us,rfl,q,r1⟩:=ri.tup;obtain⟨p2,ws,rfl,q2,r2⟩:=rj.tup;cases vi;cases vj;obtain⟨dG,w1,⟨o,ho,hc,n,hd⟩,_⟩:=I.tuple q.sq;obtain⟨is2,w2,⟨o2,n8,aL,n2,hd2⟩,_⟩:=I.tuple q2.sq;rw[lr] at hb;rw[D.dep] at di dj;refine PySem.W.kat_lt ho hd n8 hd2 ?_;have:=AI I (b:=bb) hA (Q:=fun b' v5=>v5=s'/\b'=b) ⟨rfl,rfl⟩ l m us ws dG is2 0 0 (by omega) (by omega) (fun h=>hh (by simpa using h)) r1 r2 w1 w2 hb (decide (dG.toArray.size<is2.toArray.size)) (by simp[jN]);simpa using this
 match k,aV,aU with
 |0,aV,aU=>
  cases x with
  |int ix=>
   cases y with
   |int iy=>
    have:=ri.int;subst this;have:=rj.int;subst this;obtain⟨t,rfl⟩:=vi;obtain⟨t',rfl⟩:=vj;rw[lr] at hb;rw[<-iw hb];show wpAny _ _ (keyLt' oneType' _ _) _ _ _;rw[keyLt'_oneType];exact oneLt_int ⟨rfl,rfl⟩
   |tup m=>cases m with
    |nil=>simp[jJ] at aU
    |cons z m=>cases z<;>simp[jJ] at aU
   |_=>simp[jJ] at aU
  |tup m=>cases m with
   |nil=>simp[jJ] at aV
   |cons z m=>cases z<;>simp[jJ] at aV
  |_=>simp[jJ] at aV
 |1,aV,aU=>
  cases x with
  |tup l=>
   cases y with
   |tup m=>
    refine tups l m true rfl rfl fun _ x y l' m' hl hm=>?_;subst hl hm;refine⟨?_,?_⟩
    ·cases x with
     |int a=>exact⟨a,rfl⟩
     |_=>simp[jJ] at aV
    ·cases y with
     |int a=>exact⟨a,rfl⟩
     |_=>simp[jJ] at aU
   |_=>simp[jJ] at aU
  |_=>simp[jJ] at aV
 |(n+2),aV,aU=>
  cases x with
  |tup l=>
   cases y with
   |tup m=>exact tups l m false rfl rfl fun h=>absurd h iU
   |_=>simp[jJ] at aU
  |_=>simp[jJ] at aV
end
open PySem.W
section
variable {X:Cx}{pins:gO}{σ:L2.St}{H:Hp}{s:gi}
theorem vT(I:Inv X pins σ H s){O:AP'}{T:gp}(P:D->Prop)(hP: ∀x v u,P x->Rep X.K H O x v->RelV v u->Looks (model X.prog X.w) s.heap (typeOf u) T): ∀{ds:List D} {xs:List V} {its:hJ},RepL X.K H O ds xs->Vals xs its->
  (∀d∈ds,∃x l,d= .tup (x::l)/\P x)-> ∃fs,KatTups s.heap its fs/\fs.length=its.length/\ ∀f∈fs,Looks (model X.prog X.w) s.heap (typeOf f) T
 |[],xs,its,r,v,_=>by
  rw[RepL] at r;subst r;cases v;exact⟨[],KatTups.nil,rfl,fun f hf=>absurd hf kP⟩
 |d::ds,xs,its,r,v,h=>by
  rw[RepL] at r;obtain⟨vx,xr,rfl,g1,g2⟩:=r
  cases v with
  |cons a1 a2=>
   obtain⟨fs,k1,k2,k3⟩:=vT I P hP g2 a2 fun d hd=>h d (jf _ hd);obtain⟨x,l,rfl,px⟩:=h d jg;obtain⟨p,us,rfl,q,r1⟩:=g1.tup;cases a1;obtain⟨dG,w1,⟨o,ho,hc,n,hd⟩,_⟩:=I.tuple q.sq;rw[RepL] at r1;obtain⟨vy,yr,rfl,g3,g4⟩:=r1
   cases w1 with
   |cons b1 b2=>
    rename_i f fr;refine⟨f::fs,KatTups.cons ho hc hd (by simp) k1,by simp[k2],fun g hg=>?_⟩;rcases kb.mp hg with rfl|hg
    ·exact hP x vy _ px g3 b1
    ·exact k3 g hg
theorem MS(I:Inv X pins σ H s){O:AP'}{ds:List D}{xs:List V}{its:hJ}{A:gB}(rr:RepL X.K H O ds xs)(v:Vals xs its){k:Nat}(B:SortsBy k ds)(h2:2<=its.length):
  wpAny (model X.prog X.w) A (keyKind' its.toArray) (fun κ' s'=>s'=s/\κ'=DQ k) (fun _ _=>False) s:=by
 have e1:=rr.length;have e2:=v.length
 match k,B with
 |0,B=>
  refine kas_kind (T:= .type "int") h2 (fun u hu=>?_) rfl rfl ⟨rfl,rfl⟩;obtain⟨i,hi,e⟩:=uF hu;have ri:=pq rr (i:=i) (by omega);have vi:=pe v hi;have hd:=B.hd _ (vK (ds:=ds) (i:=i) (by omega));have:its.getD i Value.none=u:=by simp[hi,e]
  rw[this] at vi
  cases hx:ds.getD i .non with
  |int a=>
   rw[hx] at ri;have:=ri.int;rw[this] at vi;obtain⟨t,rfl⟩:=vi;exact Looks.of_pure rfl
  |tup l=>
   rw[hx] at hd
   cases l with
   |nil=>simp[jJ] at hd
   |cons z m=>cases z<;>simp[jJ] at hd
  |_=>rw[hx] at hd;simp[jJ] at hd
 |1,B=>
  obtain⟨fs,f1,f2,f3⟩:=vT I (T:= .type "int") (fun x=> ∃a,x= .int a) (fun x vv u px rx rv=>by
   obtain⟨a,rfl⟩:=px;have:=rx.int;subst this;obtain⟨t,rfl⟩:=rv
   exact Looks.of_pure rfl) rr v fun d hd=>by
    have:=B.hd d hd
    cases d with
    |tup l=>
     cases l with
     |nil=>simp[jJ] at this
     |cons z m=>
      cases z with
      |int a=>exact⟨_,m,rfl,a,rfl⟩
      |_=>simp[jJ] at this
    |_=>simp[jJ] at this
  exact kat_kind f1 (by omega) f3 rfl ⟨rfl,rfl⟩
 |(n+2),B=>
  obtain⟨fs,f1,f2,f3⟩:=vT I (T:= .type "tuple") (fun x=> ∃a,x= .tup a) (fun x vv u px rx rv=>by
   obtain⟨a,rfl⟩:=px;obtain⟨p,us,rfl,q,r1⟩:=rx.tup;cases rv;obtain⟨dG,w1,⟨o,ho,hc,n,hd⟩,_⟩:=I.tuple q.sq;have:Looks (model X.prog X.w) s.heap (typeOf (.ref p)) o.cls:=(Looks.ld ho).andThen .now
   rw[hc] at this;exact this) rr v fun d hd=>by
    have:=B.hd d hd
    cases d with
    |tup l=>
     cases l with
     |nil=>simp[jJ] at this
     |cons z m=>
      cases z with
      |tup a=>exact⟨_,m,rfl,a,rfl⟩
      |_=>simp[jJ] at this
    |_=>simp[jJ] at this
  exact kat_kind f1 (by omega) f3 rfl ⟨rfl,rfl⟩
def jS(l:List D):Option (D×Bool):=if rX l=true/\l.length<=sizeLine then some (.lst (kc ltT l),true) else none
def mK(d:D):Option (D×Bool):=(xb d).bind jS
theorem zZ{xs:List V}{its:hJ}(v:Vals xs its): ∀(p:gW),(∀i∈p,i<its.length)->Vals (p.map fun i=>xs.getD i .non) (p.map fun i=>its.getD i Value.none)
 |[],_=> .nil
 |i::p,h=> .cons (pe v (h i jg)) (zZ v p fun j hj=>h j (jf _ hj))
theorem An{O:AP'}{ds:List D}{xs:List V}(r:RepL X.K H O ds xs): ∀(p:gW),(∀i∈p,i<ds.length)->RepL X.K H O (p.map fun i=>ds.getD i .non) (p.map fun i=>xs.getD i .non)
 |[],_=>RepL.nil
 |i::p,h=>RepL.cons (pq r (h i jg)) (An r p fun j hj=>h j (jf _ hj))
theorem Cb{ds:List D}{n:Nat}(hl:n=ds.length)(h1:ds.length<=1){p:gW}(hp:p.Perm (List.range n)):p.map (fun i=>ds.getD i .non)=kc ltT ds:=by
 subst hl
 match ds,h1,hp with
 |[],_,hp=>
  have:p=[]:=by simpa using hp.length_eq
  subst this;rfl
 |[d],_,hp=>
  have hl:p.length=1:=by simpa using hp.length_eq
  match p,hl,hp with
  |[i],_,hp=>
   have:i=0:=by have:=hp.mem_iff.mp (nZ.mpr rfl);simpa using this
   subst this;rfl
theorem ph(hu:X.A.units+62<cLine)(I:Inv X pins σ H s){O:AP'}{ds:List D}{xs:List V}{its:hJ}{x:gp}{Q:VK}{z:D×Bool}(rr:RepL X.K H O ds xs)(v:Vals xs its)(hg:jS ds=some z)(G:Gen X.K H O z Q)
  (hc: ∀(Q':List Value->Shared->Prop) (E':gU) (A':gB),A'.handled=X.A.handled->(∀(h':gz) (tk:Nat),(∀b o,s.heap.get? b=some o->h'.get? b=some o)->Q' its {s with heap:=h',toks:=tk})->wpAny (model X.prog X.w) A' (collect x) Q' E' s):
  wpAny (model X.prog X.w) X.A (call (.builtin "sorted") [x]) (EP X pins σ Q) X.xe s:=by
 unfold jS at hg;obtain⟨⟨hok,hz⟩,rfl⟩:=gR hg;have e1:=rr.length;have e2:=v.length;refine Calls.call_function_entry kind_sorted plain_sorted entry_sorted (args_sorted1 _) ?_;unfold Builtin.«sorted»;refine gk (m:=checkCount "sorted" 1 1 _) (gF ?_);refine gk (hc _ _ _ rfl fun h1 tk k1=>?_);refine gk (ye ?_ (by omega));have ho:(h1.push (seqObj "list" its.toArray 0)).get? h1.objs.size=some (seqObj "list" its.toArray 0):=jx _ rfl;have I1:Inv X pins σ H {s with heap:=h1,toks:=tk}:=I.kept k1
 have keep: ∀b o,h1.get? b=some o->(ng (h1.push (seqObj "list" its.toArray 0)) h1.objs.size its).get? b=some o:=fun b o e'=>by
  have hb:b≠h1.objs.size:=iF (iC e');refine iM _ (iM _ ?_);rw[Bk _ _ _ _ hb];exact iM _ e'
 have I2:Inv X pins σ H {s with heap:=ng (h1.push (seqObj "list" its.toArray 0)) h1.objs.size its,toks:=tk}:=I1.kept keep;have bt: ∀i∈List.range its.length,i<its.length:=fun i hi=>by simpa using hi
 refine gk (mX (pM (s:={s with heap:=h1.push (seqObj "list" its.toArray 0),toks:=tk}) slot_list_sort ⟨_,ho,rfl⟩ entry_list_sort ?body (args_list_sort _)))
 case body=>
  have fin: ∀p:List Nat,p.Perm (List.range its.length)->p.map (fun i=>ds.getD i .non)=kc ltT ds->EP X pins σ Q (.ref h1.objs.size) {s with heap:=(ng (h1.push (seqObj "list" its.toArray 0)) h1.objs.size its).update h1.objs.size (Obj.mapSeq fun _=>(p.map fun i=>its.getD i Value.none).toArray),toks:=tk}:=fun p hp hs=>by
   have pi: ∀i∈p,i<its.length:=fun i hi=>by simpa using hp.mem_iff.mp hi
   have ob: ∃n,(ng (h1.push (seqObj "list" its.toArray 0)) h1.objs.size its).get? h1.objs.size=some (seqObj "list" #[] n):=by
    obtain⟨e1,v7⟩: ∃e1,((h1.push (seqObj "list" its.toArray 0)).update h1.objs.size (Obj.mapSeq fun _=>(#[]:Array Value))).get? h1.objs.size=some (seqObj "list" #[] e1):=⟨_,rl ho fun _=> #[]⟩
    exact⟨e1,iM _ (iM _ v7)⟩
   obtain⟨n,ob⟩:=ob;obtain⟨c2,aL⟩: ∃c2,((ng (h1.push (seqObj "list" its.toArray 0)) h1.objs.size its).update h1.objs.size (Obj.mapSeq fun _=>(p.map fun i=>its.getD i Value.none).toArray)).get? h1.objs.size=some (seqObj "list" (p.map fun i=>its.getD i Value.none).toArray c2):=⟨_,rl ob fun _=>(p.map fun i=>its.getD i Value.none).toArray⟩
   have keep2: ∀b o,h1.get? b=some o->((ng (h1.push (seqObj "list" its.toArray 0)) h1.objs.size its).update h1.objs.size (Obj.mapSeq fun _=>(p.map fun i=>its.getD i Value.none).toArray)).get? b=some o:=fun b o e'=>by
    rw[Bk _ _ _ _ (iF (iC e'))];exact keep b o e'
   have pl:p.length=its.length:=by simpa using hp.length_eq
   refine⟨.ref h1.objs.size,_,I1.laid (t':=tk) keep2 (ig _) (show ObjOk X.prog X.w _ _ _ (.lst (p.map fun i=>xs.getD i .non)) from⟨by rw[jF];omega,_,c2,zZ v p pi,aL⟩),rfl,?_⟩;refine G.lst I1.fresh ?_;rw[<-hs];exact An rr p fun i hi=>by have:=pi i hi;omega
  rcases Ew hok with hlen|⟨k,B⟩
  ·refine pV (κ:=general') (lt:=fun _ _=>false) (s:={s with heap:=h1.push (seqObj "list" its.toArray 0),toks:=tk}) ho (by omega) (Wk.mk (fun _=>rfl) (fun _ _ _ h=>absurd h iU) (fun _ _ _ h=>absurd h iU)) (fun h=>by omega) (fun h=>by omega) fun p hp _=>⟨_,rfl,gF ⟨_,rfl,fin p hp ?_⟩⟩
   exact Cb (by omega) hlen hp
  ·refine pV (κ:=DQ k) (lt:=fun i j=>ltT (ds.getD i .non) (ds.getD j .non)) (s:={s with heap:=h1.push (seqObj "list" its.toArray 0),toks:=tk}) ho (by omega) (Ln _) (fun h=>MS I2 rr v B h) (fun _=>OD (A:=X.A.in1.in1) I2 (by show X.A.units+1+1+60<cLine;omega) rr v B) fun p hp hs=>⟨_,rfl,gF ⟨_,rfl,fin p hp (Eu (by rw[show ds.length=its.length by omega];exact hp) hs)⟩⟩
theorem lS(hu:X.A.units+62<cLine):iY X (.builtin "sorted") (rDn X.K (g1 mK)):=mS fun pins s σ H x u Q O d z I ru np hd hg G=>by
 obtain⟨l,hl,hg⟩:=fY hg
 have hz:l.length<=sizeLine:=by
  unfold jS at hg;exact(gR hg).1.2
 cases d with
 |lst m=>
  cases hl;obtain⟨p,xs,rfl,q,r⟩:=jm hd;cases ru;obtain⟨its,v,pl,_⟩:=I.list q;have e1:=r.length;have e2:=v.length;obtain⟨o,ho,hc,n,hd⟩:=pl.isList;refine ph hu I r v hg G fun Q' E' A' _ hQ=>Bj p (.inl rfl) ho hc hd (fun h' k=>by simpa using hQ h' s.toks k) (by rw[iK];omega)
 |tup m=>
  cases hl;obtain⟨p,xs,rfl,q,r⟩:=kQ hd;cases ru;obtain⟨its,v,⟨o,ho,hc,n,hd⟩,_⟩:=I.tuple q;have e1:=r.length;have e2:=v.length;refine ph hu I r v hg G fun Q' E' A' _ hQ=>Bj p (.inr rfl) ho hc hd (fun h' k=>by simpa using hQ h' s.toks k) (by rw[iK];omega)
 |_=>cases hl
theorem Fd:bootBuiltins "sorted"=some (.builtin "sorted"):=by decide+kernel
end
theorem lC:bootBuiltins "isinstance"=some (.builtin "isinstance"):=by decide+kernel
structure Tx(mg:jy):Prop where
 n_len:mg "len"=none
 n_abs:mg "abs"=none
 n_int:mg "int"=none
 n_tuple:mg "tuple"=none
 n_list:mg "list"=none
 n_range:mg "range"=none
 n_isinstance:mg "isinstance"=none
 n_bool:mg "bool"=none
 n_max:mg "max"=none
 n_min:mg "min"=none
 n_all:mg "all"=none
 n_any:mg "any"=none
 n_sorted:mg "sorted"=none
 n_enumerate:mg "enumerate"=none
 n_zip:mg "zip"=none
 n_set:mg "set"=none
theorem Kq{P:gC}{w:gy}{K:gA}{mg:jy}{base:gz}{f:fZ}{fd:kE}{ps:gG}{k:Nat}:FnOk P w K mg base CX0 k f fd ps (spF K fun _=>none) where
 len:=fun vs H Q E h=>by
  obtain⟨T,args,r,outs,_,e,_⟩:=h;cases e
 run:=fun A outer s H args us vs Q E _ _ _ _ h=>by
  obtain⟨T,args,r,outs,_,e,_⟩:=h;cases e
theorem xh{K:gA}{H:Hp}{O:AP'}: ∀ns:List Int,RepL K H O (ns.map .int) (ns.map V.int)
 |[]=>RepL.nil
 |n::ns=>RepL.cons Rep.mkInt (xh ns)
section
variable {X:Cx}{a b c:gm}{fa fb fc:FO}{pos:Pos}{op op':CmpOp}
end
def vIs(x:V)(c:Bool):Bool:=match x with
 | .bl b=>b==c
 |_=>false
def gIs:D->D->Option (D×Bool)
 | .bl b,.bl c=>some (.bl (b==c),false)
 |_,.bl _=>some (.bl false,false)
 | .non,.non=>some (.bl true,false)
 |_,.non=>some (.bl false,false)
 |_,_=>none
section
variable {X:Cx}
theorem Jh(rx:RelV x v)(c:Bool):plainIs v (.bool c)=true/\(v== .bool c)=vIs x c:=by
 cases x<;>first
  |(cases rx;exact⟨rfl,rfl⟩)
  |(obtain⟨t,rfl⟩:=rx;exact⟨rfl,rfl⟩)
  |(rename_i b;cases rx;refine⟨rfl,?_⟩;cases b<;>cases c<;>rfl)
theorem HH:OpR X (compareOp .Is) (fun x y H Q=> ∃c,y= .bl c/\Q (.bl (vIs x c)) H):=by
 intro pins s σ H x y v u Q I rx ry h;obtain⟨c,rfl,q⟩:=h;cases ry;obtain⟨h1,h2⟩:=Jh rx c;exact wpAny_is_plain h1 (Ip I q (by rw[h2]))
theorem uX{K H}(h:iT K H O (.bl b) v):v= .bl b:=h.elim (fun h=>h.bl) fun⟨_,_,h⟩=>h.elim
theorem rT{K H}(h:iT K H O .non v):v= .non:=h.elim (fun h=>h.non) fun⟨_,_,h⟩=>h.elim
theorem Gr{K H}(h:iT K H O d v)(nb: ∀b,d≠ .bl b)(c:Bool):vIs v c=false:=by
 cases d with
 |bl b=>exact absurd rfl (nb b)
 |non=>rw[rT h];rfl
 |int i=>rw[gP h];rfl
 |str x=>
   rcases h with h|⟨a,_,h⟩
   ·rw[h.str];rfl
   ·exact h.elim
 |tup l=>
   rcases h with h|⟨a,_,h⟩
   ·rw[Rep] at h;obtain⟨a,xs,rfl,_⟩:=h;rfl
   ·exact h.elim
 |lst l=>
   rcases h with h|⟨a,rfl,h⟩
   ·rw[Rep] at h;obtain⟨a,xs,rfl,_⟩:=h;rfl
   ·rfl
 |oth _ _ _=>
   rcases h with h|⟨a,rfl,h⟩
   ·rw[Rep] at h;obtain⟨a,xs,rfl,_⟩:=h;rfl
   ·rfl
theorem zY{K H}(h:iT K H O d v)(nb:d≠ .non):v≠ .non:=by
 cases d with
 |bl b=>rw[uX h];intro z;cases z
 |non=>exact absurd rfl nb
 |int i=>rw[gP h];intro z;cases z
 |str x=>
   rcases h with h|⟨a,_,h⟩
   ·rw[h.str];intro z;cases z
   ·exact h.elim
 |tup l=>
   rcases h with h|⟨a,_,h⟩
   ·rw[Rep] at h;obtain⟨a,xs,rfl,_⟩:=h;intro z;cases z
   ·exact h.elim
 |lst l=>
   rcases h with h|⟨a,rfl,h⟩
   ·rw[Rep] at h;obtain⟨a,xs,rfl,_⟩:=h;intro z;cases z
   ·intro z;cases z
 |oth _ _ _=>
   rcases h with h|⟨a,rfl,h⟩
   ·rw[Rep] at h;obtain⟨a,xs,rfl,_⟩:=h;intro z;cases z
   ·intro z;cases z
theorem MC:OpR X (compareOp .Is) (rD X.K gIs):=by
 intro pins s σ H x y v u Q I rx ry h;obtain⟨O,d,e,z,np,h1,h2,hg,G⟩:=h
 cases e with
 |bl c=>
  have hy:=uX h2;by_cases hb: ∃b,d= .bl b
  ·obtain⟨b,rfl⟩:=hb;cases hg;refine HH pins s σ H x y v u Q I rx ry ⟨c,hy,?_⟩;rw[uX h1];exact G.bl
  ·have nb: ∀b,d≠ .bl b:=fun b z=>hb ⟨b,z⟩;have hz:z=(.bl false,false):=by cases d<;>first|exact absurd rfl (nb _)|(cases hg;rfl)
   subst hz;refine HH pins s σ H x y v u Q I rx ry ⟨c,hy,?_⟩;rw[Gr h1 nb c];exact G.bl
 |non=>
  have hy:=rT h2;by_cases hb:d= .non
  ·subst hb;cases hg;refine HG pins s σ H x y v u Q I rx ry ⟨hy,?_⟩;rw[rT h1];exact G.bl
  ·have hz:z=(.bl false,false):=by cases d<;>first|exact absurd rfl hb|(cases hg;rfl)
   subst hz;refine HG pins s σ H x y v u Q I rx ry ⟨hy,?_⟩;rw[kx (zY h1 hb)];exact G.bl
 |_=>cases d<;>cases hg
end
end PX
namespace HT
open PySem PySem.Spec PyProof.Rows L2
section
variable {prog:gC}{w:gy}{A:gB}{E:gU}{s:gi}
theorem CF{t sl:fZ}{items:jI}{vl vu:gp}{lo hi:Option Int}{Q:gU}(ht:IsTup s.heap t items)(hs:s.heap.IsSliceOf sl vl vu .none)(pl:IsPart vl lo)(pu:IsPart vu hi)
  (hw:sIx items.size 0 lo=0/\sIx items.size items.size hi=items.size)(h:Q (.ref t) s):wpAny (model prog w) A (getItem (.ref t) (.ref sl)) Q E s:=by
 obtain⟨os,bY,bK,dg⟩:=id hs;have fI:s.TypeIs (.ref sl) "slice":=⟨os,bY,bK⟩
 unfold getItem
 try with_reducible refine mX ?_
 first|refine gk (gF ?_)|skip
 refine gk (wpAny_sequenceKey ht.typeIs (by decide) ?_)
 refine gk (sT (name:=Str.ofString "__getitem__") ht.typeIs wu
  (pM wu ht.typeIs F5 ?_ (args_tuple_getitem _ _)))
 show wpAny _ _ (Builtin.Tuple.tupleItemsOf (.ref t)>>=_) _ _ s;refine gk (tupleItemsOf_ ht ?_);refine gk (rO fI ?_);rw[gq (by decide)];refine gk (nh hs pl pu ?_);rw[hw.1,hw.2];show wpAny _ _ (if((((0:Nat):Int)==0&&(1:Int)==1&&(items.size-0)==items.size)=true) then _ else _) _ _ s;rw[gq (by simp)];refine gk (m:=Builtin.Tuple.tupleIsExact _) ?_;unfold Builtin.Tuple.tupleIsExact;refine gk (rO ht.typeIs ?_);refine gF ?_;rw[gq (by decide)];refine gk (qz ?_)
 first
  |exact gk (gF ⟨_,rfl,gF h⟩)
  |exact gF ⟨_,rfl,gF h⟩
  |exact gk (gF (gF ⟨_,rfl,gF h⟩))
  |(refine gk ?_;trace_state;done)
end
end HT
namespace PX
open PySem PySem.Spec PyProof.Rows L2 PySem.SeqAt
def zu(l:List D)(lo hi:Option Int):List D:=(l.drop (HT.sIx l.length 0 lo)).take (HT.sIx l.length l.length hi-HT.sIx l.length 0 lo)
def gSl(lo hi:Option Int):D->Option (D×Bool)
 | .tup l=>some (.tup (zu l lo hi),false)
 | .lst l=>some (.lst (zu l lo hi),true)
 |_=>none
def Qi(K:gA):V->Option Int->Option Int->Hp->VK->Prop:=fun x lo hi H Q=> ∃(O:AP') (d:D) (z:D×Bool),(∀p,¬Ow (H p)-> ¬O p)/\iT K H O d x/\gSl lo hi d=some z/\Gen K H O z Q
theorem RepL.cut{K H}(r:RepL K H O l xs)(lo hi:Option Int):RepL K H O (zu l lo hi) (AY xs lo hi):=by
 unfold zu AY;rw[r.length];exact(r.drop _).take _
section
variable {X:Cx}
theorem Ag{pins:gO}{s:gi}{σ:L2.St}{H:Hp}{a:fZ}{v vl vu:gp}{lo hi:Option Int}{sl:fZ}{Q:VK}{O:AP'}{l:List D}{xs:List V}(I:Inv X pins σ H s)(rx:RelV (.ref a) v)(hs:s.heap.IsSliceOf sl vl vu .none)(pl:IsPart vl lo)(pu:IsPart vu hi)
  (q:SqL X.K H a xs)(r:RepL X.K H O l xs)(G:Gen X.K H O (.lst (zu l lo hi),true) Q): ∃T id,typeLookup (.type T) "__getitem__"=pure (some (.builtin id))/\s.TypeIs v T/\wpAny (model X.prog X.w) X.A (getItem v (.ref sl)) (EP X pins σ Q) X.xe s:=
 Jm pins s σ H (.ref a) v vl vu lo hi sl Q I rx hs pl pu ⟨a,xs,rfl,q,fun p hp=>G.lst hp (r.cut lo hi)⟩
theorem Pp:SlR X (Qi X.K):=by
 intro pins s σ H x v vl vu lo hi sl Q I rx hs pl pu h;obtain⟨O,d,z,np,hd,hg,G⟩:=h
 cases d with
 |tup l=>
  cases hg;rcases hd with hd|⟨a,_,h⟩
  ·obtain⟨a,xs,rfl,q,r⟩:=hd.tup;by_cases hw:HT.sIx xs.length 0 lo=0/\HT.sIx xs.length xs.length hi=xs.length
   ·cases rx;obtain⟨its,rv,ht,hz⟩:=I.tuple q.sq;have hlen:its.toArray.size=xs.length:=by rw[iK];exact rv.length.symm
    refine⟨"tuple",_,wu.lookup,ht.typeIs,?_⟩;refine HT.CF ht hs pl pu (by rw[hlen];exact hw) ⟨.ref a,H,I,rfl,?_⟩
    have e:zu l lo hi=l:=by
     unfold zu;rw[<-r.length,hw.1,hw.2];simp[r.length]
    rw[e] at G;exact G (.ref a) H (fun _ _ e=>e) hd
   ·exact Lx pins s σ H (.ref a) v vl vu lo hi sl Q I rx hs pl pu ⟨a,xs,rfl,q.sq,hw,fun p hp=>G.tup hp (np p (nOw hp)) (r.cut lo hi)⟩
  ·exact h.elim
 |lst l=>
  cases hg;rcases hd with hd|⟨a,rfl,h⟩
  ·obtain⟨a,xs,rfl,q,r⟩:=hd.lst;exact Ag I rx hs pl pu q.sq r G
  ·obtain⟨xs,e,r⟩:=h;exact Ag I rx hs pl pu (.inl (.inl e)) r G
 |_=>cases hg
end
def vW(fa fh:FO):F:=fun δ=>(fa δ).bind fun p=>(fh p.2).bind fun q=>match res q.2 q.1 with
 |some (.int i)=>(res q.2 p.1).bind fun x=>(gSl none (some i) x).bind fun z=>some (z,q.2)
 |_=>none
section
variable {X:Cx}{a lo hi:gm}{fa fl fh:FO}{pos p2:Pos}
theorem Jy(ha:PO X a fa)(hl:PO X hi fh):PX X (.Subscript a (.Slice none (some hi) none p2) pos) (vW fa fh):=
 PX.imp (Hu Pp ha JR (JQ hl)) fun σ H Q hw=>by
  obtain⟨δ,T,rr,δ',E,e,k⟩:=hw;unfold vW at e;obtain⟨⟨o1,δ1⟩,h1,e⟩:=fY e;obtain⟨⟨o2,δ2⟩,h2,e⟩:=fY e;dsimp only at e;split at e
  ·rename_i i hi;obtain⟨x,hx,e⟩:=fY e;obtain⟨z,hz,e⟩:=fY e;obtain⟨rfl,rfl⟩:=gH e;refine⟨δ,T,o1,δ1,E,h1,fun v H1 P1=>⟨δ1,Bc T o1 v,o2,δ2,P1.er E,h2,fun u H2 P2=>?_⟩⟩;have B:=Ops.cons E P1 (Ops.cons (P1.er E) P2 (Ops.nil (P2.er (P1.er E))));exact⟨i,gP (B.view (j:=1) rfl rfl hi),_,x,z,fun p hp=>B.np hp,B.view (j:=0) rfl rfl hx,hz,B.done k⟩
  ·cases e
end
end PX
namespace L2
open PySem PySem.Spec PyProof.Rows
section
variable {X:Cx}
end
end L2
namespace PX
open PySem PySem.Spec PyProof.Rows L2 PySem.SeqAt
section
variable {K:gA}{A:ir}{d:fZ}{T:AP'}{σ σ1:L2.St}{δ δ1:Dn}{acc:List D}{H H1:Hp}
end
section
variable {X:Cx}{A:ir}{d:fZ}{elt:gm}{f:F}
end
section
variable {X:Cx}{elt:gm}{c:pK}{hU:pL}{scope:iq}{pos pos' p:Pos}{N':gG}{caps:gW}{k:Nat}{fi:FIt}{tg:Tg}{ti:FT}{fb:FB}
end
end PX
namespace HT
open PySem PySem.Spec PyProof.Rows L2
section
variable {prog:gC}{w:gy}{A:gB}{E:gU}{s:gi}
end
end HT
namespace L2
open PySem PySem.Spec PyProof.Rows
section
variable {X:Cx}{e st:gm}{te ts:TE}{pos p2:Pos}
end
end L2
namespace PX
open PySem PySem.Spec PyProof.Rows L2 PySem.SeqAt
section
variable {X:Cx}{a st:gm}{fa fs:FO}{pos p2:Pos}
end
section
variable {es:iL}{env:Env}
end
end PX
namespace TT
open PySem
def S:Nat->Nat
 |0=>0
 |n+1=>5*S n+1
def ls(mask:Nat)(h:Int):Nat->Nat×Nat
 |0=>(SetTable.bits h%(mask+1),SetTable.bits h)
 |k+1=>SetTable.leap mask (ls mask h k).1 (ls mask h k).2
def at_(mask:Nat)(h:Int)(k t:Nat):SetTable.Probe:=⟨(ls mask h k).1+t,SetTable.runEnd mask (ls mask h k).1-(ls mask h k).1-t,(ls mask h k).1,(ls mask h k).2,none⟩
open PyProof.Rows PySem.SeqAt
section
variable {prog:gC}{w:gy}{A:gB}{E:gU}{s:gi}
end
section
variable {prog:gC}{w:gy}{A:gB}{R:Result->Shared->Prop}{I:fZ}{fp wr:iW}{G:Array GenState->Array GenState->Prop}{n:Nat}{P:Nat->Value->Prop}{St:Nat->Shared->Prop}
end
section
variable {prog:gC}{w:gy}{A:gB}{E:gU}{s:gi}
end
structure DRaw(h:gz)(d:fZ)(es:Array DictEntry)(ep:Nat):Prop where
 at_: ∃o,h.get? d=some o/\o.ExactDict/\o.data= .dict es ep
theorem DRaw.stay{d es ep}(x:DRaw h d es ep)(k: ∀o,h.get? d=some o->h'.get? d=some o):DRaw h' d es ep:=let⟨o,h1,r⟩:=x.at_;⟨o,k _ h1,r⟩
section
variable {prog:gC}{w:gy}{A:gB}{E:gU}{s:gi}
theorem DRaw.typeIs{d es ep}(x:DRaw s.heap d es ep):s.TypeIs (.ref d) "dict":=let⟨o,h1,r,_⟩:=x.at_;⟨o,h1,r.1⟩
theorem DU(hd:(d==sysModules)=false)(hm:DRaw s.heap d es ep)
  (hQ:Q (.ref s.heap.objs.size) {s with heap:=s.heap.push {cls:= .type "dict_keyiterator",data:= .fields #[.ref d,.int 0 0,.int es.size 0,.int ep 0]}}):wpAny (model prog w) A (pyIter (.ref d)) Q E s:=by
 have hT:=hm.typeIs;obtain⟨o,ho,hc,hdat⟩:=hm.at_;refine wpAny_pyIter_slot hT FC (pM FC hT PySem.F.entry_dict_iter ?_ (PySem.F.args_dict_iter_1 _));unfold Builtin.«dict.__iter__»;refine gk ?_;unfold Builtin.Dict.dictSlotNone;refine gk (wpAny_notOrdered_dict hT ?_);change wpAny _ _ (pure (Value.ref d)) _ _ s;refine gF ?_;change wpAny _ _ (Builtin.Dict.showsAll d>>=_) _ _ s;unfold Builtin.Dict.showsAll;rw[gv (by rw[hd];exact iU)];refine gk (gF ?_);refine gk (Bi ho hdat ?_);refine gk (Bh ho hdat ?_);refine gk (mD (gF ⟨_,rfl,"dict_keyiterator",_,⟨_,jx _ rfl,rfl⟩,wR.lookup,?_⟩));simpa[rawInt] using hQ
theorem vH{it d:fZ}{i ep:Nat}{es:Array DictEntry}{e:DictEntry}{Q:Fl}(hit:s.heap.IsKeyIter it d i es.size ep)(hm:DRaw s.heap d es ep)(hx:es[i]?=some e)
  (hQ: ∀h',h'.IsKeyIter it d (i+1) es.size ep->Heap.SameBut it s.heap h'->Q (some e.key) {s with heap:=h'}):wpAny (model prog w) A (pyNext (.ref it)) Q E s:=by
 obtain⟨o,ho,hc,hd⟩:=id hit;obtain⟨od,cY,l5,dh⟩:=hm.at_;unfold pyNext;refine gk (sM (sT (name:=Str.ofString "__next__") hit.typeIs wR (pM wR hit.typeIs FA ?_ (Fy _))));refine gk (gF ?_);refine gk ?_;refine gk ?_;refine gk (yd hit.typeIs (gF ?_));refine gk (wpAny_fieldsOf ho hd ?_);have bX:Builtin.Dict_items.ownsTuple "dict_keyiterator"=false:=by decide
 simp only[bX,hZ,iJ];change wpAny _ _ (if(Value.ref d==Value.none)=true then _ else _) _ _ s;rw[gv (show ¬((Value.ref d==Value.none)=true) from iU)];refine gk (gF ?_);refine gk (Bi cY dh ?_);rw[gv (by simp)];refine gk (gF ?_);refine gk (Bh cY dh ?_);rw[gv (by simp)];refine gF ?_;simp only[show ¬((i:Int)<0) from by omega,iJ,uO,hx];refine gk ?_;refine gk (yd hit.typeIs (gF ?_));refine gk (Fx hit.typeIs ?_);change wpAny _ _ (setField (.ref it) 1 (rawInt ((i:Int)+1))>>=_) _ _ s;refine gk (yt ho hd (by simp) ?_)
 have bu:(s.heap.update it (Obj.mapFields (·.setIfInBounds 1 (rawInt ((i:Int)+1))))).IsKeyIter it d (i+1) es.size ep:=
  ⟨_,uN _ ho (FK (yq hd _)),(Obj.cls_mapFields ..).trans hc,by rw[yq hd];simp[rawInt]⟩
 refine gk (mX ?_);refine gk (Fx (s:={s with heap:=s.heap.update it (Obj.mapFields (·.setIfInBounds 1 (rawInt ((i:Int)+1))))}) bu.typeIs ?_);change wpAny _ _ (pure e.key) _ _ _;exact gF (gF ⟨_,rfl,gF (hQ _ bu (uv ..))⟩)
theorem wF(hh:A.handled=none)(hit:s.heap.IsKeyIter it d es.size es.size ep)(hm:DRaw s.heap d es ep)
  (hQ: ∀h',Heap.ExtBut it s.heap h'->Q none {s with heap:=h'}):wpAny (model prog w) A (pyNext (.ref it)) Q E s:=by
 obtain⟨o,ho,hc,hd⟩:=id hit;obtain⟨od,cY,l5,dh⟩:=hm.at_;unfold pyNext;refine gk (sM (sT (name:=Str.ofString "__next__") hit.typeIs wR (pM wR hit.typeIs FA ?_ (Fy _))));refine gk (gF ?_);refine gk ?_;refine gk ?_;refine gk (yd hit.typeIs (gF ?_));refine gk (wpAny_fieldsOf ho hd ?_);have bX:Builtin.Dict_items.ownsTuple "dict_keyiterator"=false:=by decide
 simp only[bX,hZ,iJ];change wpAny _ _ (if(Value.ref d==Value.none)=true then _ else _) _ _ s;rw[gv (show ¬((Value.ref d==Value.none)=true) from iU)];refine gk (gF ?_);refine gk (Bi cY dh ?_);rw[gv (by simp)];refine gk (gF ?_);refine gk (Bh cY dh ?_);rw[gv (by simp)];refine gF ?_;simp only[show ¬((es.size:Int)<0) from by omega,iJ,uO,Array.getElem?_eq_none (ig es.size)];refine gk ?_;refine gk (yd hit.typeIs (gF ?_));change wpAny _ _ (setField (.ref it) 0 .none>>=_) _ _ s;refine gk (yt ho hd (by simp) ?_);change wpAny _ _ (newExc (.type "StopIteration") []>>=_) _ _ _;refine gk ?_;simp only[newExc,newTuple];refine gk (mD ?_ (by size_fits));refine gk (m:=firstArgMember _ _) (Bz (a:=Value.none) (by first|rfl|(simp only[firstArgMember];rfl)) ?_);refine mD ?_ (by size_fits);simp only[raiseNew];refine gk (wpAny_handled ?_);rw[show A.in1.handled=none from hh];refine gk (gF (wpAny_throw ?_));refine gk (Bw (T:="StopIteration") (b:=true) ⟨_,jx _ rfl,rfl⟩ isSubtype_stop ?_);exact gF (hQ _ (((uv ..).extBut.push _).push _))
theorem Be(hh:A.handled=none)(I d:fZ)(t8:I≠d)(es:Array DictEntry)(ep:Nat):Walks prog w A I [I,d] [I] es.size (fun i v=> ∃e,es[i]?=some e/\v=e.key) (fun i h=>h.IsKeyIter I d i es.size ep/\DRaw h d es ep) where
 sub:=fun b hb=>by simp at hb;simp[hb]
 frame:=fun _ _ _ st hk=>⟨st.1.at fun o e=>hk I (by simp) o e,st.2.stay fun o e=>hk d (by simp) o e⟩
 item:=fun i s Q E hi st hQ=>by
  have hg:es[i]?=some es[i]:=Bp hi;refine vH st.1 st.2 hg fun h' bu bj=>?_;exact hQ _ h' s.toks ⟨_,hg,rfl⟩ ⟨bu,st.2.stay fun o e=>bj.extBut d o (fun h=>t8 h.symm) e⟩ fun b o hb e=>bj.extBut b o (fun h=>hb (by simp[h])) e
 done:=fun s Q E st hQ=>wF hh st.1 st.2 fun h' he'=>hQ h' s.toks fun b o hb e=>he' b o (fun h=>hb (by simp[h])) e
 self:=fun _ _ _ _ st hQ=>wpAny_pyIter_keyiter st.1 hQ
theorem II(hd:(a==sysModules)=false)(hh:A.handled=none)(S:DRaw s.heap a es n)(hn:es.size<=sizeLine) 
  (hQ: ∀h' tk,(∀b o,s.heap.get? b=some o->h'.get? b=some o)->Q (es.toList.map (·.key)) {s with heap:=h',toks:=tk}):wpAny (model prog w) A (collect (.ref a)) Q E s:=by
 have cp:a<s.heap.objs.size:=let⟨_,h1,_⟩:=S.at_;iC h1;have eT:a≠s.heap.objs.size:=iF cp;have hna1:a≠s.heap.objs.size+1:=iF (uL cp);have hss:s.heap.objs.size≠s.heap.objs.size+1:=iF (rH _);unfold collect;refine gk (wpAny_runValue (rF PySem.F.entry_proto_collect ?_));rw[uH PySem.F.plain_proto_collect _];show wpAny _ A.in1 (newList []>>=fun l=>again (.builtin "list.__iadd__" ⟨[l,.ref a],[]⟩)) _ _ s;refine gk (mD ?_);refine gF ⟨yw Fw _,rF PySem.F.entry_list_iadd ?_⟩;rw[uH Fw _];show wpAny _ A.in1 (Builtin.List.listExtendWith (.ref s.heap.objs.size) (.ref a) (.ref s.heap.objs.size)) _ _ _;generalize hl0:({cls:= .type "list",data:= .seq ([]:List Value).toArray}:Obj)=l0;have S1:DRaw (s.heap.push l0) a es n:=S.stay fun o e=>iM _ e;unfold Builtin.List.listExtendWith;refine gk (rO (T:="dict") (s:={s with heap:=s.heap.push l0}) S1.typeIs ?_);have h1:Builtin.List.listSameRef (.ref s.heap.objs.size) (.ref a)=false:=by simp only[Builtin.List.listSameRef,beq_eq_false_iff_ne];exact eT.symm
 have h2:(Value.type "dict"==Value.type "list")=false:=by decide
 have h3:(Value.type "dict"==Value.type "tuple")=false:=by decide
 simp only[h1,h2,h3,Bool.or_false,hZ,iJ];refine gk (DU (s:={s with heap:=s.heap.push l0}) hd S1 ?_);obtain⟨h2,eZ⟩: ∃h2,h2=(s.heap.push l0).push {cls:= .type "dict_keyiterator",data:= .fields #[.ref a,.int 0 0,.int es.size 0,.int n 0]}:=⟨_,rfl⟩
 have it2:h2.IsKeyIter (s.heap.push l0).objs.size a 0 es.size n:=by rw[eZ];exact⟨_,jx _ rfl,rfl,rfl⟩
 have k2: ∀b o,(s.heap.push l0).get? b=some o->h2.get? b=some o:=fun b o e=>by rw[eZ];exact iM _ e
 rw[<-eZ];have sz1:(s.heap.push l0).objs.size=s.heap.objs.size+1:=qv _ _;have S2:DRaw h2 a es n:=S1.stay fun o e=>k2 _ _ e;refine gk (mX ?_);unfold Builtin.List.listLengthHint;refine gk (wpAny_specialOf (T:="dict") (s:={s with heap:=h2}) S2.typeIs PySem.F.slot_dict_len.lookup ?_);generalize hid:("dict.__len__":String)=id0;dsimp only;rw[show splitId id0=some ("dict","__len__") from by subst hid;decide+kernel];dsimp only;refine gk (Bw (T:="dict") (s:={s with heap:=h2}) (b:=true) S2.typeIs (by rw[isSubtype_type];kernel_rfl) ?_);simp only[uu,hZ,iJ];change wpAny _ _ (if _=true then _ else _) _ _ _;rw[gq (by subst hid;decide+kernel)];refine gk (rO (T:="dict") (s:={s with heap:=h2}) S2.typeIs ?_);dsimp only;refine gF ?_;change wpAny _ _ (if _=true then _ else _) _ _ _;rw[gq (by decide+kernel)];refine gk (qz ?_);have hS₁:h2.get? s.heap.objs.size=some l0:=k2 _ _ (jx _ (by subst hl0;rfl));subst hl0;refine gk ?_;show wpAny _ A.in1 (updateSeq s.heap.objs.size (·.push .none)>>=fun _=>updateSeq s.heap.objs.size (·.pop)) _ _ _;refine gk (wpAny_updateSeq (s:={s with heap:=h2}) hS₁ rfl ?_);have hS₂:=uN (Obj.mapSeq (·.push Value.none)) hS₁ rfl;refine wpAny_updateSeq hS₂ rfl ?_;have hS₃:=uN (Obj.mapSeq (·.pop)) hS₂ rfl
 have oth: ∀b o,b≠s.heap.objs.size->h2.get? b=some o->((h2.update s.heap.objs.size (Obj.mapSeq (·.push Value.none))).update s.heap.objs.size (Obj.mapSeq (·.pop))).get? b=some o:=
  fun b o hb e=>(yA _ _ (lN hb)).trans ((yA _ _ (lN hb)).trans e)
 have W:=(Be (prog:=prog) (w:=w) (A:=A.in1) (by show A.handled=none;exact hh) (s.heap.objs.size+1) a hna1.symm es n).toS;rw[sz1] at it2;refine gF ⟨yw PySem.F.plain_extend_loop _,?_⟩;rw[sz1];refine codeAny_extend_loopS W hn s.heap.objs.size (by simp only[kb,kP,nW,not_or];exact⟨hss,eT.symm⟩) _ es.size 0 _ _ _ rfl (mB _) ?_ hS₃ (ItemsOf.nil _) fun s' l6 c' hm dq o7=>?_
 ·refine⟨?_,S2.stay fun o e=>oth a o eT e⟩;obtain⟨o,g1,g2⟩:=it2;exact⟨o,oth _ o hss.symm g1,g2⟩
 show wpAny _ A (load s.heap.objs.size>>=_) _ _ s';refine gk (wpAny_load dq ?_);obtain⟨h',g',d',tk',eG⟩:=s';have eg:g'=s.gens:=hm.gens;have ed:d'=s.drawn:=hm.drawn;have eo:eG=s.os:=hm.os;subst eg;subst ed;subst eo
 have eacc:l6.toList=es.toList.map (·.key):=by
  obtain⟨a1,a2⟩:=o7;apply List.ext_getElem
  ·rw[jF,ma,ma,a1]
  ·intro j g1 g2;have gj:l6[j]?=some l6.toList[j]:=by rw[<-rM];exact iu g1
   obtain⟨e,he,hv⟩:=a2 j _ gj;rw[hv];rw[jF,ma] at g2;rw[List.getElem_map];rw[<-rM,iu (by rw[ma];exact g2)] at he;cases he;rfl
 refine gF ?_;show Q l6.toList _;rw[eacc];refine hQ h' tk' fun b o e=>?_;have hb:=iC e;exact hm.heap b o (by simp only[kb,kP,nW,not_or];exact⟨iF hb,iF (uL hb)⟩) (oth b o (iF hb) (k2 _ _ (iM _ e)))
end
end TT
namespace PX
open PySem PySem.Spec PyProof.Rows L2 PySem.SeqAt TS
section
variable {X:Cx}{pins:gO}{σ:L2.St}{H:Hp}{s:gi}
end
theorem wB{α β:Type}(f:α->β){zs m:List β}(h:zs.Perm m): ∀l:List α,m=l.map f-> ∃l':List α,l'.Perm l/\zs=l'.map f:=by
 induction h with
 |nil=>
  intro l e;have:l=[]:=by simpa using e.symm
  subst this;exact⟨[],.refl _,rfl⟩
 |cons x _ ih=>
  intro l e
  cases l with
  |nil=>simp at e
  |cons y l=>
   simp only[ic,List.cons.injEq] at e;obtain⟨l',p,q⟩:=ih l e.2;exact⟨y::l',p.cons y,by rw[q,e.1];rfl⟩
 |swap x y l0=>
  intro l e
  cases l with
  |nil=>simp at e
  |cons a l=>
   cases l with
   |nil=>simp at e
   |cons b l=>
    simp only[ic,List.cons.injEq] at e;exact⟨b::a::l,.swap a b l,by rw[e.1,e.2.1,e.2.2];rfl⟩
 |trans _ _ ih1 ih2=>
  intro l e;obtain⟨l1,p1,q1⟩:=ih2 l e;obtain⟨l2,p2,q2⟩:=ih1 l1 q1;exact⟨l2,p2.trans p1,q2⟩
abbrev hv(p:D×V):Int×V:=(D.hash p.1,p.2)
section
variable {X:Cx}{pins:gO}{σ:L2.St}{H:Hp}{s:gi}
end
theorem AK{x:D}: ∀{l:List D},l.Pairwise (fun a b=>ltT b a=false)->(pJ ltT x l).Pairwise (fun a b=>ltT b a=false)
 |[],_=>ym _ _
 |y::l,h=>by
  rw[nY] at h;have W:=Ln fun i:Nat=>match i with|0=>x|1=>y|_=>x
  rw[pJ]
  cases hl:ltT y x with
  |true=>
   rw[gq rfl,nY];refine⟨fun z hz=>?_,AK h.2⟩;rcases kb.mp ((nB ltT x l).mem_iff.mp hz) with rfl|hz
   ·rw[Cv] at hl;rw[lT,kU,hl];simp
   ·exact h.1 z hz
  |false=>
   rw[gv iU,nY];refine⟨fun z hz=>?_,nY.mpr h⟩;rcases kb.mp hz with rfl|hz
   ·exact hl
   ·have h1:=h.1 z hz;rw[lT] at h1 hl ⊢;have a1:cT x y≠ .gt:=by rw[kU y x];cases hc:cT y x<;>simp_all
    have a2:cT y z≠ .gt:=by rw[kU z y];cases hc:cT z y<;>simp_all
    have a3:=oQ x y z a1 a2;rw[kU x z];cases hc:cT x z<;>simp_all
theorem wZ: ∀l:List D,(kc ltT l).Pairwise (fun a b=>ltT b a=false)
 |[]=> .nil
 |x::l=>by rw[kc];exact AK (wZ l)
section
variable {X:Cx}
end
def wG:D->Option Key
 | .int i=>some (.inl i)
 | .str x=>some (.inr x)
 |_=>none
def AG:List D->Option (List Key)
 |[]=>some []
 |d::l=>(wG d).bind fun k=>(AG l).map (k:: ·)
def sm:D->Option (List Key)
 | .tup l=>AG l
 |_=>none
theorem ny(h:wG d=some k):d=iG k:=by
 cases d<;>simp[wG] at h<;>subst h<;>rfl
theorem AF: ∀{l:List D} {ks:List Key},AG l=some ks->l=ks.map iG
 |[],ks,h=>by cases h;rfl
 |d::l,ks,h=>by
  rw[AG] at h;obtain⟨k,h1,h⟩:=fY h;obtain⟨m,h2,rfl⟩:=hW h;rw[ny h1,AF h2];rfl
theorem qO(h:sm d=some ks):d= .tup (ks.map iG):=by
 cases d with
 |tup l=>rw[AF (show AG l=some ks from h)]
 |_=>cases h
theorem qW(a b:Key):D.eqb (iG a) (iG b)=decide (a=b):=by
 cases a with
 |inl i=>cases b with
  |inl j=>simp only[iG,D.eqb,HY]
  |inr y=>simp only[iG,D.eqb,HX]
 |inr x=>cases b with
  |inl j=>simp only[iG,D.eqb,HW]
  |inr y=>simp only[iG,D.eqb,HV];rfl
theorem pG: ∀a b:List Key,D.eqbL (a.map iG) (b.map iG)=decide (a=b)
 |[],[]=>by simp[D.eqbL]
 |[],_::_=>by simp[D.eqbL]
 |_::_,[]=>by simp[D.eqbL]
 |x::a,y::b=>by
  simp only[ic];rw[D.eqbL,qW,pG a b];simp only[List.cons.injEq,Bool.decide_and]
def kN:List D->List D->D->Option D
 |k'::ks,v::vs,k=>if D.eqb k' k=true then some v else kN ks vs k
 |_,_,_=>none
def pQ:List D->List D->D->D->List D
 |k'::ks,v::vs,k,w=>(if D.eqb k' k=true then w else v)::pQ ks vs k w
 |_,vs,_,_=>vs
def pI(ks vs:List D)(k w:D):List D×List D:=if ks.any (D.eqb · k)=true then(ks,pQ ks vs k w) else(ks++[k],vs++[w])
def qQ(ks:List D)(k:D):Bool:=((wG k).isSome&&ks.all fun x=>(wG x).isSome)||((sm k).isSome&&ks.all fun x=>(sm x).isSome)
section
variable {K:gA}{H:Hp}{O:AP'}
theorem Ao(h:Rep K H O (iG k) v):v=kV k:=by
 cases k with
 |inl i=>exact Rep.int h
 |inr x=>exact Rep.str h
theorem xi: ∀{ks:List Key} {vs:List V},RepL K H O (ks.map iG) vs->vs=ks.map kV
 |[],vs,h=>by rw[qw,RepL] at h;exact h
 |k::ks,vs,h=>by
  rw[ic,RepL] at h;obtain⟨v,r,rfl,h1,h2⟩:=h;rw[Ao h1,xi h2];rfl
theorem oZ(hk:wG d=some k)(h:iT K H O d v):v=kV k:=by
 rw[ny hk] at h;rcases h with h|⟨a,rfl,h⟩
 ·exact Ao h
 ·cases k<;>exact h.elim
theorem oY(hk:sm d=some ks)(h:iT K H O d v): ∃b,v= .ref b/\H b=some (.tup (ks.map kV)):=by
 rw[qO hk] at h;rcases h with h|⟨a,rfl,h⟩
 ·obtain⟨b,xs,rfl,q,r⟩:=h.tup;rw[xi r] at q;exact⟨b,rfl,q.1⟩
 ·exact h.elim
theorem HQ{k:Key}: ∀{kvs:List (Key×V)} {vs:List D},RepL K H O vs (kvs.map (·.2))->(∀d,kN (kvs.map fun p=>iG p.1) vs (iG k)=some d-> ∃v,oh kvs k=some v/\Rep K H O d v)/\(kN (kvs.map fun p=>iG p.1) vs (iG k)=none->oh kvs k=none)
 |[],vs,_=>⟨fun d h=>by cases vs<;>simp[kN] at h,fun _=>rfl⟩
 |(k',v)::kvs,[],h=>by rw[ic,RepL] at h;cases h
 |(k',v)::kvs,d'::vs,h=>by
  rw[ic,RepL] at h;obtain⟨w,r,e,h1,h2⟩:=h;obtain⟨rfl,rfl⟩:=rB e;obtain⟨i1,i2⟩:=HQ (k:=k) h2;simp only[ic,kN,qW];by_cases hk:k'=k
  ·simp only[hk,decide_true,hV];exact⟨fun d h=>by cases h;exact⟨v,ox (p:=(k,v)) rfl,h1⟩,fun h=>by cases h⟩
  ·simp only[hk,decide_false,hZ,iJ];refine⟨fun d h=>?_,fun h=>?_⟩
   ·obtain⟨u,h3,h4⟩:=i1 d h;exact⟨u,by rw[ml (p:=(k',v)) hk];exact h3,h4⟩
   ·rw[ml (p:=(k',v)) hk];exact i2 h
theorem HP{k:List Key}: ∀{kvs:List (List Key×V)} {vs:List D},RepL K H O vs (kvs.map (·.2))->(∀d,kN (kvs.map fun p=> .tup (p.1.map iG)) vs (.tup (k.map iG))=some d-> ∃v,oh kvs k=some v/\Rep K H O d v)/\(kN (kvs.map fun p=> .tup (p.1.map iG)) vs (.tup (k.map iG))=none->oh kvs k=none)
 |[],vs,_=>⟨fun d h=>by cases vs<;>simp[kN] at h,fun _=>rfl⟩
 |(k',v)::kvs,[],h=>by rw[ic,RepL] at h;cases h
 |(k',v)::kvs,d'::vs,h=>by
  rw[ic,RepL] at h;obtain⟨w,r,e,h1,h2⟩:=h;obtain⟨rfl,rfl⟩:=rB e;obtain⟨i1,i2⟩:=HP (k:=k) h2;simp only[ic,kN,D.eqb,pG];by_cases hk:k'=k
  ·simp only[hk,decide_true,hV];exact⟨fun d h=>by cases h;exact⟨v,ox (p:=(k,v)) rfl,h1⟩,fun h=>by cases h⟩
  ·simp only[hk,decide_false,hZ,iJ];refine⟨fun d h=>?_,fun h=>?_⟩
   ·obtain⟨u,h3,h4⟩:=i1 d h;exact⟨u,by rw[ml (p:=(k',v)) hk];exact h3,h4⟩
   ·rw[ml (p:=(k',v)) hk];exact i2 h
end
section
variable {P:gC}{w:gy}{H H':Hp}{h:gz}{a:fZ}
theorem Ld(x:ObjOk P w H h a (.dT [])):ObjOk P w H' h a (.dK []):=by
 obtain⟨z,y,xs,r,o,es,ep,h1,h2,h3,h4,h5⟩:=x;cases r
 have:es= #[]:=by
  have:es.toList=[]:=by simpa using h4
  exact Nz.mp this
 subst this;refine⟨z,y,[],.nil,o,#[],ep,h1,h2,h3,?_,?_,qb⟩
 ·first|exact fun e he=>by simp at he|(intro;simp)
 ·first|exact .nil|trivial|simp[Pairs]
theorem Le(x:ObjOk P w H h a (.dK [])):ObjOk P w H' h a (.dT []):=by
 obtain⟨z,y,vs,r,o,es,ep,h1,h2,h3,h4,h5,h6⟩:=x;cases r
 have:es= #[]:=by
  have hl:es.toList.length=0:=by
   first
    |simpa using h5.length
    |simpa using(rP h5)
    |(
      cases he:es.toList with
      |nil=>rfl
      |cons e l=>rw[he] at h5;cases h5)
  exact Nz.mp (Lg.mp hl)
 subst this;exact⟨z,y,[],.nil,o,#[],ep,h1,h2,h3,rfl,qb⟩
end
section
variable {X:Cx}{pins:gO}{σ:L2.St}{H:Hp}{s:gi}
theorem EV{A:gB}{E:gU}(I:Inv X pins σ H s){H':Hp}{a:fZ}{k:Key}{u:gp}{Q:gU}(x:ObjOk X.prog X.w H' s.heap a (.dK []))(ry:RelV (kV k) u)(neg:Bool)(h: ∀s',Inv X pins σ H s'->Q (.bool neg) s'):
  wpAny (model X.prog X.w) A (compareOp (if neg=true then .NotIn else .In) u (.ref a)) Q E s:=by
 obtain⟨z,hd,vs,rel,dd⟩:=x;cases rel
 cases neg with
 |false=>exact wpAny_in_of (xt ry) hd dd.mapOf (h _ (I.tok _))
 |true=>exact wpAny_notIn_of (xt ry) hd dd.mapOf (h _ (I.tok _))
theorem EU{A:gB}{E:gU}(hu:A.units+1<cLine)(I:Inv X pins σ H s){H':Hp}{a b:fZ}{k:List Key}{Q:gU}(x:ObjOk X.prog X.w H' s.heap a (.dT []))(eb:H b=some (.tup (k.map kV)))(neg:Bool)(h: ∀s',Inv X pins σ H s'->Q (.bool neg) s'):
  wpAny (model X.prog X.w) A (compareOp (if neg=true then .NotIn else .In) (.ref b) (.ref a)) Q E s:=by
 obtain⟨z,hd,xs,r,o,es,ep,h1,h2,h3,h4,h5⟩:=x;cases r;have dd:s.heap.DictOfH (tupleKind (jz X.prog X.w)) a []:=⟨o,es,ep,h1,h2,h3,h4,(fun x (hx:x∈[])=>by simp at hx),h5⟩
 cases neg with
 |false=>exact wpAny_in_heap (uK hu) (sj I.hok eb) hd dd (h _ (I.tok _))
 |true=>exact wpAny_notIn_heap (uK hu) (sj I.hok eb) hd dd (h _ (I.tok _))
theorem qP(h:qQ ks k=true):(∃κ,wG k=some κ/\ ∀x∈ks,∃c,wG x=some c)\/(∃τ,sm k=some τ/\ ∀x∈ks,∃c,sm x=some c):=by
 unfold qQ at h;rw[Bl,lE,lE,nH,nH] at h;rcases h with⟨h1,h2⟩|⟨h1,h2⟩
 ·exact .inl ⟨_,(Fh.mp h1).choose_spec,fun x hx=>Fh.mp (h2 x hx)⟩
 ·exact .inr ⟨_,(Fh.mp h1).choose_spec,fun x hx=>Fh.mp (h2 x hx)⟩
theorem Dj{ks:List Key}{c:Key}(h:wG (.tup (ks.map iG))=some c):False:=by cases h
theorem AH(h:sm (iG k)=some c):False:=by cases k<;>cases h
theorem OA(hu:A.units+1<cLine)(I:Inv X pins σ H s)(q:OthB X.K (H a) .dct ks vs us)(r:RepL X.K H O vs us)(hk:qQ ks k=true)(vk:iT X.K H O k y)(ry:RelV y u)(neg:Bool)
  (h: ∀s',Inv X pins σ H s'->Q (.bool (xor neg (kN ks vs k).isSome)) s'):wpAny (model X.prog X.w) A (compareOp (if neg=true then .NotIn else .In) u (.ref a)) Q E s:=by
 have nil: ∀vs:List D,kN [] vs k=none:=fun vs=>by cases vs<;>rfl
 rcases q with⟨kvs,e,rfl,rfl⟩|⟨kvs,e,rfl,rfl⟩
 ·rcases qP hk with⟨κ,h1,_⟩|⟨τ,h1,h2⟩
  ·have:=oZ h1 vk;subst this;have aG:=ny h1;subst aG;obtain⟨l1,l2⟩:=HQ (k:=κ) r
   have ho:(oh kvs κ).isSome=(kN (kvs.map fun p=>iG p.1) vs (iG κ)).isSome:=by
    cases hl:kN (kvs.map fun p=>iG p.1) vs (iG κ) with
    |none=>rw[l2 hl];rfl
    |some d=>obtain⟨v,h3,_⟩:=l1 d hl;rw[h3];rfl
   rw[<-ho] at h
   cases neg with
   |false=>exact OB hu I (DGet.k e) ry fun s' I'=>by simpa using h s' I'
   |true=>exact D5 hu I (DGet.k e) ry fun s' I'=>by simpa using h s' I'
  ·have cq:kvs=[]:=by
    cases kvs with
    |nil=>rfl
    |cons p kvs=>obtain⟨c,hc⟩:=h2 (iG p.1) (by simp);exact(AH hc).elim
   subst cq;obtain⟨b,rfl,eb⟩:=oY h1 vk;cases ry;rw[qw,nil] at h;exact EU hu I (Le (H':=H) (I.hok a _ e)) eb neg fun s' I'=>by simpa using h s' I'
 ·rcases qP hk with⟨κ,h1,h2⟩|⟨τ,h1,_⟩
  ·have cq:kvs=[]:=by
    cases kvs with
    |nil=>rfl
    |cons p kvs=>obtain⟨c,hc⟩:=h2 (.tup (p.1.map iG)) (by simp);exact(Dj hc).elim
   subst cq;have:=oZ h1 vk;subst this;rw[qw,nil] at h;exact EV I (Ld (H':=H) (I.hok a _ e)) ry neg fun s' I'=>by simpa using h s' I'
  ·obtain⟨b,rfl,eb⟩:=oY h1 vk;have aG:=qO h1;subst aG;obtain⟨l1,l2⟩:=HP (k:=τ) r
   have ho:(oh kvs τ).isSome=(kN (kvs.map fun p=> .tup (p.1.map iG)) vs (.tup (τ.map iG))).isSome:=by
    cases hl:kN (kvs.map fun p=> .tup (p.1.map iG)) vs (.tup (τ.map iG)) with
    |none=>rw[l2 hl];rfl
    |some d=>obtain⟨v,h3,_⟩:=l1 d hl;rw[h3];rfl
   rw[<-ho] at h
   cases neg with
   |false=>exact OB hu I (DGet.t e eb) ry fun s' I'=>by simpa using h s' I'
   |true=>exact D5 hu I (DGet.t e eb) ry fun s' I'=>by simpa using h s' I'
end
section
variable {X:Cx}
def Iu:F:=fun δ=>some ((.oth .dct [] [],true),δ)
theorem JC{pos:Pos}:PX X (.Dict [] [] pos) Iu:=PX.imp Hx fun σ H Q hw=>by
 obtain⟨δ,T,rr,δ',E,e,k⟩:=hw;cases e;intro p hp;have B:=Ops.nil E;exact(B.done k) p _ hp (kJ hp) ⟨[],.inl ⟨[],gQ,rfl,rfl⟩,RepL.nil⟩
end
section
variable {K:gA}{T:AP'}{σ:L2.St}{δ:Dn}{H:Hp}{i:Nat}{d0 d':D}{a:fZ}{o:HO}
theorem OwnI.writeG{j:Nat}{b:fZ}(hd:δ[i]?=some (some (d0,true)))(h:OwnI σ (δ.set i (some (d',true))) j b):OwnI σ δ j b:=by
 obtain⟨e,h1,h2⟩:=h;rcases jZ h1 with⟨rfl,_,_⟩|⟨_,q⟩
 ·exact⟨_,hd,h2⟩
 ·exact⟨e,q,h2⟩
theorem ER.writeG(E:ER K H T σ δ)(hd:δ[i]?=some (some (d0,true)))(hs:σ[i]?=some (some (.ref a)))(r:OwnOk K (upd H a o) (fun b=>OwnA σ δ b\/T b) d' a):
  ER K (upd H a o) T σ (δ.set i (some (d',true)))/\Keep σ δ H (δ.set i (some (d',true))) (upd H a o):=by
 have hi:i<δ.length:=(rk.mp hd).1;have oa:OwnA σ δ a:=⟨i,_,hd,hs⟩
 have aa: ∀b,OwnA σ (δ.set i (some (d',true))) b->OwnA σ δ b:=fun b ⟨j,e,h1,h2⟩=>by
  obtain⟨e',q1,q2⟩:=OwnI.writeG hd ⟨e,h1,h2⟩;exact⟨j,e',q1,q2⟩
 have kp: ∀b u,H b=some u-> ¬(OwnA σ δ b\/T b)->upd H a o b=some u:=fun b u e n=>by rw[gK (by intro z;subst z;exact n (.inl oa))];exact e
 have dm: ∀b,H b≠none->upd H a o b≠none:=fun b z=>by
  by_cases hb:b=a
  ·subst hb;rw[gQ];simp
  ·rw[gK hb];exact z
 have sub: ∀b,(OwnA σ (δ.set i (some (d',true))) b\/T b)->OwnA σ δ b\/T b:=fun b z=>z.imp (aa b) id;refine⟨⟨by rw[oq];exact E.len,fun j e hj=>?_,fun j e hj=>?_,fun j k e f b hj hk h1 h2=>?_,fun b z=>E.nT b (aa b z),fun b z=>by have ne:b≠a:=fun e=>E.nT a oa (e▸z);rw[gK ne];exact E.dom b z⟩,⟨fun b u e n=>by rw[gK (by intro z;subst z;exact n oa)];exact e,fun j b z=>OwnI.writeG hd z,dm⟩⟩
 ·rcases jZ hj with⟨_,_,q⟩|⟨_,q⟩
  ·cases q
  ·obtain⟨w,w1,w2⟩:=E.val j e q;exact⟨w,w1,Rep.mono kp (fun b _ z=>sub b z) w2⟩
 ·rcases jZ hj with⟨rfl,_,q⟩|⟨ne,q⟩
  ·cases q;exact⟨a,hs,r.mono (fun _ _ e _=>e) (fun b _ z=>sub b z) fun _ e=>e⟩
  ·obtain⟨b,w1,w2⟩:=E.own j e q;refine⟨b,w1,w2.mono kp (fun b _ z=>sub b z) fun u eo=>?_⟩;rw[gK]
   ·exact eo
   ·intro z;subst z;exact ne (E.inj i j _ _ _ hd q hs w1)
 ·obtain⟨e1,q1,q2⟩:=OwnI.writeG hd ⟨e,hj,h1⟩;obtain⟨e2,q3,q4⟩:=OwnI.writeG hd ⟨f,hk,h2⟩;exact E.inj j k e1 e2 b q1 q3 q2 q4
end
section
variable {X:Cx}{pins:gO}{σ:L2.St}{H:Hp}{s:gi}{a:fZ}
theorem LH(I:Inv X pins σ H s)(e:H a=some (.dT [])):Inv X pins σ (upd H a (.dK [])) s:=by
 have:=um (t':=s.toks) (h':=s.heap) I (by rw[e];exact True.intro) (BE a s.heap) (by obtain⟨z,y,xs,r,o,es,ep,h1,_⟩:=(show ObjOk X.prog X.w H s.heap a (.dT []) from I.hok a _ e);exact⟨o,h1⟩) (Ld (H':=upd H a (.dK [])) (I.hok a _ e));exact this
theorem LG(I:Inv X pins σ H s)(e:H a=some (.dK [])):Inv X pins σ (upd H a (.dT [])) s:=by
 have:=um (t':=s.toks) (h':=s.heap) I (by rw[e];exact True.intro) (BE a s.heap) (by obtain⟨z,y,xs,r,o,es,ep,h1,_⟩:=(show ObjOk X.prog X.w H s.heap a (.dK []) from I.hok a _ e);exact⟨o,h1⟩) (Le (H':=upd H a (.dT [])) (I.hok a _ e));exact this
def N1:KD:=fun o i v H Q=> ∃a,o= .ref a/\((∃H',DPut H a i v H'/\Q H')\/(∃κ,H a=some (.dT [])/\i=kV κ/\Q (upd H a (.dK [(κ,v)])))\/
 (∃τ b,H a=some (.dK [])/\i= .ref b/\H b=some (.tup (τ.map kV))/\Q (upd H a (.dT [(τ,v)]))))
theorem GN(hu:X.A.units+1<cLine):Nt X N1:=by
 intro pins s σ H o i v ov iv u Q I ro ri rv h;obtain⟨a,rfl,h⟩:=h;cases ro;rcases h with⟨H',g,q⟩|⟨κ,e,rfl,q⟩|⟨τ,b,e,rfl,eb,q⟩
 ·exact sA hu I g ri rv fun s' I'=>⟨H',I',q⟩
 ·refine sA hu (LH I e) (DPut.k (k:=κ) (v:=v) gQ (by rw[je];decide)) ri rv fun s' I'=>⟨_,I',?_⟩
  rw[Di];exact q
 ·have hb:b≠a:=K6 eb e (fun z=>nomatch z);refine sA hu (LG I e) (DPut.t (k:=τ) (v:=v) (b:=b) gQ (by rw[gK hb];exact eb) (by rw[je];decide)) ri rv fun s' I'=>⟨_,I',?_⟩
  rw[Di];exact q
end
section
variable {K:gA}{H:Hp}{O:AP'}
theorem GS{k:Key}{w:D}{v:V}(hw:Rep K H O w v): ∀{kvs:List (Key×V)} {vs:List D},RepL K H O vs (kvs.map (·.2))->RepL K H O (pQ (kvs.map fun p=>iG p.1) vs (iG k) w) ((kvs.map fun kv=>if kv.1=k then(kv.1,v) else kv).map (·.2))
 |[],vs,h=>by cases vs<;>simpa[pQ] using h
 |(k',u)::kvs,[],h=>by rw[ic,RepL] at h;cases h
 |(k',u)::kvs,d'::vs,h=>by
  rw[ic,RepL] at h;obtain⟨x,r,e,h1,h2⟩:=h;obtain⟨rfl,rfl⟩:=rB e;simp only[ic,pQ,qW];refine RepL.cons ?_ (GS hw h2);by_cases hk:k'=k
  ·simp only[hk,decide_true,hV];exact hw
  ·simp only[hk,decide_false,hZ,iJ];exact h1
theorem GR{k:List Key}{w:D}{v:V}(hw:Rep K H O w v): ∀{kvs:List (List Key×V)} {vs:List D},RepL K H O vs (kvs.map (·.2))->RepL K H O (pQ (kvs.map fun p=> .tup (p.1.map iG)) vs (.tup (k.map iG)) w) ((kvs.map fun kv=>if kv.1=k then(kv.1,v) else kv).map (·.2))
 |[],vs,h=>by cases vs<;>simpa[pQ] using h
 |(k',u)::kvs,[],h=>by rw[ic,RepL] at h;cases h
 |(k',u)::kvs,d'::vs,h=>by
  rw[ic,RepL] at h;obtain⟨x,r,e,h1,h2⟩:=h;obtain⟨rfl,rfl⟩:=rB e;simp only[ic,pQ,D.eqb,pG];refine RepL.cons ?_ (GR hw h2);by_cases hk:k'=k
  ·simp only[hk,decide_true,hV];exact hw
  ·simp only[hk,decide_false,hZ,iJ];exact h1
theorem KW(hw:Rep K H O w v)(h:RepL K H O vs (kvs.map (·.2))):
  (pI (kvs.map fun p=>iG p.1) vs (iG k) w).1=(oi kvs k v).map (fun p=>iG p.1)/\RepL K H O (pI (kvs.map fun p=>iG p.1) vs (iG k) w).2 ((oi kvs k v).map (·.2)):=by
 have ha:(kvs.map fun p=>iG p.1).any (D.eqb · (iG k))=kvs.any fun kv=>decide (kv.1=k):=by
  rw[List.any_map];congr 1;funext p;exact qW _ _
 unfold pI oi;rw[ha];split
 ·refine⟨?_,GS hw h⟩;rw[jP];apply qm;intro p _;simp only[Function.comp];split<;>rfl
 ·exact⟨by simp,by rw[sL];exact h.append (RepL.one hw)⟩
theorem KU{k:List Key}{w:D}{v:V}(hw:Rep K H O w v){kvs:List (List Key×V)}{vs:List D}(h:RepL K H O vs (kvs.map (·.2))):
  (pI (kvs.map fun p=> .tup (p.1.map iG)) vs (.tup (k.map iG)) w).1=(oi kvs k v).map (fun p=> .tup (p.1.map iG))/\RepL K H O (pI (kvs.map fun p=> .tup (p.1.map iG)) vs (.tup (k.map iG)) w).2 ((oi kvs k v).map (·.2)):=by
 have ha:(kvs.map fun p=>D.tup (p.1.map iG)).any (D.eqb · (.tup (k.map iG)))=kvs.any fun kv=>decide (kv.1=k):=by
  rw[List.any_map];congr 1;funext p;simp only[Function.comp,D.eqb,pG]
 unfold pI oi;rw[ha];split
 ·refine⟨?_,GR hw h⟩;rw[jP];apply qm;intro p _;simp only[Function.comp];split<;>rfl
 ·exact⟨by simp,by rw[sL];exact h.append (RepL.one hw)⟩
end
def tj(i:Nat)(f:F)(g:FO):FS:=fun δ=>(f δ).bind fun p=>match p.2[i]? with
 |some (some _)=>(g p.2).bind fun q=>match res q.2 q.1,q.2[i]? with
  |some k,some (some (.oth .dct ks vs,true))=>if qQ ks k=true/\ks.length<10000 then some (.nx (q.2.set i (some (.oth .dct (pI ks vs k p.1.1).1 (pI ks vs k p.1.1).2,true)))) else none
  |_,_=>none
 |_=>none
section
variable {X:Cx}{e ix:gm}{f:F}{fo:FO}{pos b8 apos f9:Pos}{i:Nat}{x:Str}{A L:ir}{H0:Hp}
theorem G9{d9:Pos}(hu:X.A.units+1<cLine)(hv:PO X (.Name x b8) (gf i))(he:PX X e f)(hi:PO X ix fo)
  (ha: ∀v,assign (.Subscript (.Name x b8) ix d9) X.env v=(do
   let ov <-holding [v] (eval (.Name x b8) X.env)
   let iv <-holding [v,ov] (eval ix X.env)
   standAt d9
   holding [v,ov,iv] (setItem ov iv v)
   release [v,ov,iv] []))
  (hs:swapsWithSole [.Subscript (.Name x b8) ix d9] e pos.line X.env=pure false)(hw:swappedStores [.Subscript (.Name x b8) ix d9] e X.env=pure none)
  (h1:(assignEach [.Subscript (.Name x b8) ix d9] X.env).map (·.2)=[assign (.Subscript (.Name x b8) ix d9) X.env]):
  PSX X A L H0 (.Assign [.Subscript (.Name x b8) ix d9] e pos) (tj i f fo):=PS.imp' (Hh he (Hr hv hi (GN hu) ha) hs hw h1) fun D σ H hw=>by
 obtain⟨δ,T,out,E,fi,e,k⟩:=hw;obtain⟨⟨r,δ1⟩,h1,e⟩:=fY e;dsimp only at e;split at e
 case h_2=>cases e
 rename_i y0 h0;obtain⟨⟨o,δ2⟩,h2,e⟩:=fY e;dsimp only at e;split at e
 ·rename_i kk ks vs hk h3;obtain⟨⟨hok,hlen⟩,e⟩:=gR e;cases e;refine⟨δ,T,r,δ1,E,h1,fun v H1 P1=>⟨δ1,Tmp T r v,.slot i,δ1,P1.er E,by unfold gf;rw[h0],fun v2 H2 P2=>⟨δ1,Tmp T r v,o,δ2,P2.er (P1.er E),h2,fun v3 H3 P3=>?_⟩⟩⟩;have fW:PostO X.K T σ δ H (.val r) δ1 v H1:=P1;have B:=Ops.cons E fW (Ops.cons (P1.er E) P2 (Ops.cons (P2.er (P1.er E)) P3 (Ops.nil (P3.er (P2.er (P1.er E))))));have E3:ER X.K H3 T σ δ2:=B.er.mono (fun _ _ e _=>e) (fun b _ z=>B.tt b z) (fun a z=>B.er.dom a (B.tt a z));have hσ:σ[i]?=some (some v2):=P2.2.2;obtain⟨a,q1,us,q2,q3⟩:=E3.own i _ h3;rw[hσ] at q1;cases q1;have vk:=B.view (j:=2) rfl rfl hk;have rv:=B.rep E (j:=0) (r:=r) rfl rfl;have oa:OwnA σ δ2 a:=⟨i,_,h3,hσ⟩
  have kp: ∀(ho:HO) b u,H3 b=some u-> ¬(OwnA σ δ2 b\/T b)->upd H3 a ho b=some u:=fun ho b u e n=>by rw[gK (by intro z;subst z;exact n (.inl oa))];exact e
  have ks10:10000<sizeLine:=by rw[je];decide
  have fin: ∀ho dw,OthB X.K (some ho) .dct (pI ks vs kk r.1).1 (pI ks vs kk r.1).2 dw->RepL X.K H3 (fun a=>OwnA σ δ2 a\/T a) (pI ks vs kk r.1).2 dw->D.nx σ (upd H3 a ho):=fun ho dw g1 g2=>by
   obtain⟨E4,K4⟩:=E3.writeG (o:=ho) (d':= .oth .dct (pI ks vs kk r.1).1 (pI ks vs kk r.1).2) h3 hσ ⟨dw,by rw[gQ];exact g1,RepL.mono (kp ho) (fun _ _ z=>z) g2⟩;exact k _ _ (B.keep.trans K4).sk E4
  refine⟨a,rfl,?_⟩;rcases q2 with⟨kvs,eH,rfl,rfl⟩|⟨kvs,eH,rfl,rfl⟩
  ·rw[jF] at hlen;rcases qP hok with⟨κ,g1,_⟩|⟨τ,g1,g2⟩
   ·have hy:=oZ g1 vk;have aG:=ny g1;subst aG;obtain⟨p1,p2⟩:=KW (k:=κ) rv q3;refine .inl ⟨_,by rw[hy];exact DPut.k eH (by omega),fin _ _ (.inl ⟨_,rfl,p1,rfl⟩) p2⟩
   ·have cq:kvs=[]:=by
     cases kvs with
     |nil=>rfl
     |cons p kvs=>obtain⟨c,hc⟩:=g2 (iG p.1) (by simp);exact(AH hc).elim
    subst cq;obtain⟨b,hy,eb⟩:=oY g1 vk;have aG:=qO g1;subst aG;obtain⟨p1,p2⟩:=KU (k:=τ) (kvs:=[]) rv q3;exact .inr (.inr ⟨τ,b,eH,hy,eb,fin _ _ (.inr ⟨[(τ,v)],rfl,p1,rfl⟩) p2⟩)
  ·rw[jF] at hlen;rcases qP hok with⟨κ,g1,g2⟩|⟨τ,g1,_⟩
   ·have cq:kvs=[]:=by
     cases kvs with
     |nil=>rfl
     |cons p kvs=>obtain⟨c,hc⟩:=g2 (.tup (p.1.map iG)) (by simp);exact(Dj hc).elim
    subst cq;have hy:=oZ g1 vk;have aG:=ny g1;subst aG;obtain⟨p1,p2⟩:=KW (k:=κ) (kvs:=[]) rv q3;exact .inr (.inl ⟨κ,eH,hy,fin _ _ (.inl ⟨[(κ,v)],rfl,p1,rfl⟩) p2⟩)
   ·obtain⟨b,hy,eb⟩:=oY g1 vk;have aG:=qO g1;subst aG;obtain⟨p1,p2⟩:=KU (k:=τ) rv q3;refine .inl ⟨_,by rw[hy];exact DPut.t eH eb (by omega),fin _ _ (.inr ⟨_,rfl,p1,rfl⟩) p2⟩
 ·cases e
end
section
variable {X:Cx}
theorem rV{P:gC}{w:gy}: ∀{es:List DictEntry} {vs:List (Key×Value)} {kvs:List (Key×V)},Pairs (jz P w) es vs->KV kvs vs->Vals (kvs.map fun p=>kV p.1) (es.map (·.key))
 |_,_,_,.nil,.nil=> .nil
 |_,_,_,.cons h1 h2 t,.cons r q=>by
  refine .cons ?_ (rV t q);dsimp only;rw[r.1];rcases iX (show vM _ _=true from h1) with⟨i,tk,e1,e2⟩|⟨x,tk,e1,e2⟩
  ·rw[e1,e2];exact⟨tk,rfl⟩
  ·rw[e1,e2];exact⟨tk,rfl⟩
theorem se{K:gA}{H:Hp}{O:AP'}: ∀(kvs:List (Key×V)),RepL K H O (kvs.map fun p=>iG p.1) (kvs.map fun p=>kV p.1)
 |[]=>RepL.nil
 |(k,v)::kvs=>by
  refine RepL.cons ?_ (se kvs)
  cases k with
  |inl i=>exact Rep.mkInt
  |inr x=>exact Rep.mkStr
theorem JB(hg:Gl X x)(hm:X.mg x=some (.int i t))(hd:(x==("__debug__":Str))=false):PX X (.Name x pos) (fC (.int i)):=PX.imp (DF (v:= .int i) hg hm ⟨t,rfl⟩ hd) fun σ H Q h=>by
 obtain⟨δ,T,r,δ',E,e,k⟩:=h;cases e;exact k _ _ (Post.val .refl E Rep.mkInt)
def vg:FS:=fun _=>none
theorem ED{A L:ir}{H0:Hp}{st:Stmt}:PSX X A L H0 st vg:=fun pins s σ H D I h=>by
 obtain⟨δ,T,out,E,fi,e,k⟩:=h;cases e
end
section
variable {X:Cx}{e:gm}{f:F}{pos b8 apos f9:Pos}{i:Nat}{x:Str}
end
structure PXs(X:Cx)(es:iL)(fs:List F):Prop where
 pa:PA X es (tA X.K (fs.map gc))
section
variable {X:Cx}{e:gm}{es:iL}{f:F}{fs:List F}{pos:Pos}
theorem Ju:PXs X [] []:=⟨za⟩
theorem G4(h:PX X e f)(hr:PXs X es fs)(hs:starEach (e::es) X.env=(false,eval e X.env)::starEach es X.env):PXs X (e::es) (f::fs):=⟨qI (PX.po h) hr.pa hs⟩
theorem Jz(h:PXs X es fs):PX X (.List es pos) (kF fs):=L7 h.pa
theorem Jx{x1}(h:PXs X es fs):PX X (.Tuple es x1 pos) (jh fs):=LU h.pa
theorem Hk{fe:FT}(h:PTX X e fe):PIf X [e] (tT X.K fe):=JT h
theorem Md{fe:FT}(h:PWX X e fe):PTX X e fe:=PW.pt h
end
structure QX(X:Cx)(e:gm)(f:F):Prop where
 h:PX X e f
structure QO(X:Cx)(e:gm)(f:FO):Prop where
 h:PX.PO X e f
structure QA(X:Cx)(es:iL)(fs:List FO):Prop where
 h:PA X es (tA X.K fs)
structure QL(X:Cx)(es:iL)(fs:List F):Prop where
 h:PXs X es fs
structure QT(X:Cx)(e:gm)(f:FT):Prop where
 h:PTX X e f
structure QW(X:Cx)(e:gm)(f:FT):Prop where
 h:PWX X e f
structure QG(X:Cx)(A:ir)(e:gm)(t:Tg):Prop where
 h:PGX X A e t
structure QI(X:Cx)(B:SB)(tg e:gm)(f:FIt):Prop where
 h:PIX X B tg e f
structure QF(X:Cx)(es:iL)(f:FT):Prop where
 h:PIf X es (tT X.K f)
structure QB(X:Cx)(A:ir)(d:fZ)(e:gm)(n:Nat)(f:FB):Prop where
 h:PB X (jt e n (.ref d) X.env) (tBx X.K A d f)
structure QS(X:Cx)(A L:ir)(H0:Hp)(st:Stmt)(f:FS):Prop where
 h:PSX X A L H0 st f
structure QQ(X:Cx)(A L:ir)(H0:Hp)(st:List Stmt)(f:FS):Prop where
 h:wO X A L H0 st f
structure QC(X:Cx)(v:gp)(g:List D->Option (D×Bool)):Prop where
 h:iY X v (rDn X.K g)
structure QP(X:Cx)(o:uo)(g:D->D->Option (D×Bool)):Prop where
 h:OpR X o (rD X.K g)
abbrev SE(X:Cx)(e:gm)(es:iL):Prop:=starEach (e::es) X.env=(false,eval e X.env)::starEach es X.env
abbrev BA(X:Cx)(p:Pos)(es:iL):Prop:=(backTo p (starEach es X.env)).any (·.1)=false
abbrev DB(x:Str):Prop:=(x==("__debug__":Str))=false
abbrev un(A:gB)(n:Nat):Prop:=A.units+n<cLine
structure ZZ where
 P:Program
 w:World
 K:PySem.W.Frag
 mg:Str->Option Value
 base:Heap
def Oz(Z:ZZ)(k:Nat)(x:Str)(ps:gG)(ev:EvF):Prop:= ∃f fd,FnOk Z.P Z.w Z.K Z.mg Z.base CX0 k f fd ps (spF Z.K ev)/\Z.mg x=some (.ref f)/\PySem.W.keepIn Z.K (.ref f)=true/\Binds Z.K fd ps []
theorem Oz.up{Z:ZZ}{k j:Nat}{x:Str}{ps:gG}{ev:EvF}(o:Oz Z k x ps ev)(h:k<=j:=by decide):Oz Z j x ps ev:=let⟨f,fd,a,b⟩:=o;⟨f,fd,a.mono h,b⟩
abbrev zX(X:Cx):ZZ:=⟨X.prog,X.w,X.K,X.mg,X.base⟩
def btT:List (Str×Value):=[("len",.builtin "len"),("abs",.builtin "abs"),("int",.type "int"),("tuple",.type "tuple"),("list",.type "list"),("bool",.type "bool"),("max",.builtin "max"),("min",.builtin "min"),("all",.builtin "all"),("any",.builtin "any"),("sorted",.builtin "sorted"),("set",.type "set")]
theorem btA{mg:jy}(T:Tx mg): ∀p∈btT,mg p.1=none/\bootBuiltins p.1=some p.2:=by
 have h: ∀p∈btT,bootBuiltins p.1=some p.2:=by decide+kernel
 intro p hp;refine⟨?_,h p hp⟩;have cX:p∈btT:=hp;unfold btT at cX;simp only[kb,kP,nW] at cX;rcases cX with rfl|rfl|rfl|rfl|rfl|rfl|rfl|rfl|rfl|rfl|rfl|rfl
 ·exact T.n_len
 ·exact T.n_abs
 ·exact T.n_int
 ·exact T.n_tuple
 ·exact T.n_list
 ·exact T.n_bool
 ·exact T.n_max
 ·exact T.n_min
 ·exact T.n_all
 ·exact T.n_any
 ·exact T.n_sorted
 ·exact T.n_set
theorem Cw{z:Str}{v:gp}: ∀{l:List (Str×Value)},l.lookup z=some v->(z,v)∈l
 |[],h=>by cases h
 |(y,u)::l,h=>by
  rw[lL] at h;split at h
  ·rename_i q;cases h;rw[qx q];exact .head _
  ·exact .tail _ (Cw h)
theorem btM{mg:jy}{z:Str}{v:gp}(T:Tx mg)(h:btT.lookup z=some v):mg z=none:=(btA T _ (Cw h)).1
theorem btN{z:Str}{v:gp}(h:btT.lookup z=some v):bootBuiltins z=some v:=(show ∀p∈btT,bootBuiltins p.1=some p.2 from by decide+kernel) _ (Cw h)
section
variable {X:Cx}{x z:Str}{e a b c st lo hi:gm}{es:iL}{fa fb fc fo fl fh:FO}{f g:F}{ft fu:FT}{p p2 p3 pos b8 apos:Pos}{A L:ir}{B:SB}{H0:Hp}{fs:List FO}{bM:List F}{i j k:Nat}{tg:gm}{S:Stmt}{Ss Ts:List Stmt}{u v:FS}
theorem xV(h1:X.N[i]?=some x:=by rfl)(h2:Vis X.env.scope x:=by first|exact Or.inl rfl|exact Or.inr (Or.inl rfl)|exact Or.inr (Or.inr rfl))(h3:DB x:=by decide)(h4:(x==("__classdict__":Str))=false:=by decide):QO X (.Name x pos) (gf i):=⟨Mp h1 h2 h3 h4⟩
theorem xW(h1:X.N[i]?=some x:=by rfl)(h2:Vis X.env.scope x:=by first|exact Or.inl rfl|exact Or.inr (Or.inl rfl)|exact Or.inr (Or.inr rfl))(h3:DB x:=by decide)(h4:(x==("__classdict__":Str))=false:=by decide):QX X (.Name x pos) (kW i):=⟨LR h1 h2 h3 h4⟩
theorem xO(h:QX X e f):QO X e (gc f):=⟨PX.po h.h⟩
theorem x1{j}:QX X (.Constant .none j pos) (fC .non):=⟨L5⟩
theorem x2{i j}:QX X (.Constant (.bool i) j pos) (fC (.bl i)):=⟨KS⟩
theorem x3{i j}:QX X (.Constant (.int i) j pos) (fC (.int i)):=⟨L9⟩
theorem x4{i j}:QX X (.Constant (.str i) j pos) (fC (.str i)):=⟨LW⟩
theorem x5{i:Int}(h: ∃t,X.mg x=some (.int i t))(g:Gl X x:=by rfl)(h3:DB x:=by decide):QX X (.Name x pos) (fC (.int i)):=let⟨_,h⟩:=h;⟨JB g h h3⟩
theorem x7:QX X (.Dict [] [] pos) Iu:=⟨JC⟩
theorem iQ{op:Operator}{g:D->D->Option (D×Bool)}(o:QP X (binaryOp op) g)(ha:QO X a fa)(hb:QO X b fb):QX X (.BinOp a op b pos) (gn g fa fb):=⟨Mb o.h ha.h hb.h⟩
theorem zP(ha:QO X a fa):QX X (.UnaryOp .USub a pos) (jw oI fa):=⟨L6 ha.h⟩
theorem Ek{op:CmpOp}{g:D->D->Option (D×Bool)}(o:QP X (compareOp op) g)(ha:QO X a fa)(hb:QO X b fb)(hm:behindInMarks op b=false:=by first|exact HJ _|with_unfolding_all rfl):QX X (.Compare a [op] [b] pos) (gn g fa fb):=⟨Ma o.h ha.h hb.h hm⟩
theorem tCmp{op:CmpOp}{g:D->D->Option (D×Bool)}(o:QP X (compareOp op) g)(ha:QO X a fa)(hb:QO X b fb)(hm:behindInMarks op b=false:=by first|exact HJ _|with_unfolding_all rfl):QT X (.Compare a [op] [b] pos) (fT (gn g fa fb)):=⟨JJ o.h ha.h hb.h hm⟩
theorem xBo{op}(ha:QX X a f):QX X (.BoolOp op [a] pos) f:=⟨JF ha.h⟩
theorem NG(ha:QX X a f)(hb:QX X (.BoolOp .And (b::es) pos) g):QX X (.BoolOp .And (a::b::es) pos) (E7 f g):=⟨Mc ha.h hb.h⟩
theorem wOr(ha:QT X a ft)(hb:QW X (.BoolOp .Or (b::es) pos) fu):QW X (.BoolOp .Or (a::b::es) pos) (qh ft fu):=⟨Me ha.h hb.h⟩
theorem Gq(ha:QT X a ft):QW X (.BoolOp .Or [a] pos) ft:=⟨JG ha.h⟩
theorem tW{op}(h:QW X (.BoolOp op es pos) ft):QT X (.BoolOp op es pos) ft:=⟨Md h.h⟩
theorem tNot(ha:QT X a ft):QT X (.UnaryOp .Not a pos) (mw ft):=⟨JI ha.h⟩
theorem Ac(h:QX X e f)(he: ∀whole,isTrue e X.env whole=(do let v <-whole;standAt e.pos;holding [v] (truthy v)):=by intro _;rfl):QT X e (fT f):=⟨JH h.h he⟩
theorem xIf(hc:QT X c ft)(ha:QX X a f)(hb:QX X b g):QX X (.IfExp c a b pos) (fIf ft f g):=⟨N5 hc.h ha.h hb.h⟩
theorem xIx(ha:QO X a fa)(hb:QO X b fb)(hs:zH b:=by exact fun _ _=>rfl):QX X (.Subscript a b pos) (gn gIx fa fb):=⟨N4 ha.h hb.h hs⟩
theorem NC(ha:QO X a fa)(hh:QO X hi fh):QX X (.Subscript a (.Slice none (some hi) none p2) pos) (vW fa fh):=⟨Jy ha.h hh.h⟩
theorem xL0:QL X [] []:=⟨Ju⟩
theorem xL(ha:QX X e f)(hr:QL X es bM)(hs:SE X e es:=by rfl):QL X (e::es) (f::bM):=⟨G4 ha.h hr.h hs⟩
theorem xA0:QA X [] []:=⟨za⟩
theorem xA(ha:QO X e fa)(hr:QA X es fs)(hs:SE X e es:=by rfl):QA X (e::es) (fa::fs):=⟨qI ha.h hr.h hs⟩
theorem mf{k}(h:QL X es bM):QX X (.Tuple es k pos) (jh bM):=⟨Jx h.h⟩
theorem nI(h:QL X es bM):QX X (.List es pos) (kF bM):=⟨Jz h.h⟩
theorem xB{id:String}{g:List D->Option (D×Bool)}(T:Tx X.mg)(hv:btT.lookup z=some (.builtin id))(hc:QC X (.builtin id) g)(ha:QA X (e::es) fs)(hg:Gl X z:=by rfl)(hn:z≠"__name__":=by decide)(i7:DB z:=by decide)(he:SE X e es:=by rfl)(g6:BA X pos es:=by rfl):QX X (.Call (.Name z p) (e::es) [] pos) (gL g fs):=⟨DA hc.h hg (btM T hv) (btN hv) ha.h hn i7 he g6⟩
theorem xT{id:String}{g:List D->Option (D×Bool)}(T:Tx X.mg)(hv:btT.lookup z=some (.type id))(hc:QC X (.type id) g)(ha:QA X (e::es) fs)(hg:Gl X z:=by rfl)(hn:z≠"__name__":=by decide)(i7:DB z:=by decide)(he:SE X e es:=by rfl)(g6:BA X pos es:=by rfl):QX X (.Call (.Name z p) (e::es) [] pos) (gL g fs):=⟨Jw hc.h hg (btM T hv) (btN hv) ha.h hn i7 he g6⟩
theorem xI{t:Ty}(T:Tx X.mg)(hz:btT.lookup z=some (.type t.n))(ha:QO X e fa)(hg:Gl X "isinstance":=by rfl)(aI:Gl X z:=by rfl)(hn:z≠"__name__":=by decide)(i7:DB z:=by decide)
  (s1:SE X e [.Name z p2]:=by rfl)(s2:SE X (.Name z p2) []:=by rfl)(g6:BA X pos [.Name z p2]:=by rfl):
  QX X (.Call (.Name "isinstance" p) [e,.Name z p2] [] pos) (jw (tR [t]) fa):=⟨L8 ha.h hg T.n_isinstance aI (btM T hz) (btN hz) hn i7 lC s1 s2 g6⟩
theorem xI2{t t':Ty}{z':Str}{p4:Pos}{kk}(T:Tx X.mg)(hz:btT.lookup z=some (.type t.n))(dJ:btT.lookup z'=some (.type t'.n))(ha:QO X e fa)(hg:Gl X "isinstance":=by rfl)(aI:Gl X z:=by rfl)(hn:z≠"__name__":=by decide)(i7:DB z:=by decide)(cu:Gl X z':=by rfl)(cf:z'≠"__name__":=by decide)(cA:DB z':=by decide)
  (s1:SE X e [.Tuple [.Name z p2,.Name z' p3] kk p4]:=by rfl)(s2:SE X (.Tuple [.Name z p2,.Name z' p3] kk p4) []:=by rfl)
  (s3:SE X (.Name z p2) [.Name z' p3]:=by rfl)(s4:SE X (.Name z' p3) []:=by rfl)
  (g6:BA X pos [.Tuple [.Name z p2,.Name z' p3] kk p4]:=by rfl):
  QX X (.Call (.Name "isinstance" p) [e,.Tuple [.Name z p2,.Name z' p3] kk p4] [] pos) (jw (tR [t,t']) fa):=⟨JA ha.h hg T.n_isinstance aI (btM T hz) (btN hz) hn i7 cu (btM T dJ) (btN dJ) cf cA lC s1 s2 s3 s4 g6⟩
theorem xU{k:Nat}{ps:gG}{ev:EvF}(O:Oz (zX X) k x ps ev)(hr:Room k X.A)(ha:QA X (e::es) fs)(hg:Gl X x:=by rfl)(i7:DB x:=by decide)
  (he:SE X e es:=by rfl)(g6:BA X pos es:=by rfl):QX X (.Call (.Name x p) (e::es) [] pos) (gD ev fs):=
 let⟨_,_,ok,hm,kp,bi⟩:=O;⟨Jv ok hr hg hm kp bi ha.h i7 he g6⟩
theorem Lj{T:String}{mk:List D->D}{o:Bool}(X0:Tx X.mg)(hv:btT.lookup z=some (.type T))(ha:QA X [a,b] [fa,fb])(hT:(T="list"/\mk= .lst/\o=true)\/(T="tuple"/\mk= .tup/\o=false):=by first|exact .inl ⟨rfl,rfl,rfl⟩|exact .inr ⟨rfl,rfl,rfl⟩)(hc:X.calm=true:=by rfl)(hg:Gl X z:=by rfl)(hn:z≠"__name__":=by decide)(i7:DB z:=by decide)(dU:Gl X "range":=by rfl)
  (s1:SE X (.Call (.Name "range" p2) [a,b] [] p3) []:=by rfl)(s2:SE X a [b]:=by rfl)
  (g6:BA X pos []:=by rfl)(br:BA X p3 [b]:=by rfl):
  QX X (.Call (.Name z p) [.Call (.Name "range" p2) [a,b] [] p3] [] pos) (gL (gRg mk o) [fa,fb]):=⟨LX hT hc hg (btM X0 hv) (btN hv) hn i7 dU X0.n_range ha.h s1 s2 g6 br⟩
theorem Jc(hv:QO X (.Name x b8) (gf i))(he:QX X e f)(g8:attributeBase (.Name x b8) "append" X.env (eval (.Name x b8) X.env)=eval (.Name x b8) X.env:=by rfl)
  (l4:((backTo pos (starEach [e] X.env)).all (fun x=>!x.1)&&(backToKw pos (keywordEach [] X.env)).all (fun x=>x.1.isSome)&&decide ([e].length+([]:List Keyword).length+(if([]:List Keyword).isEmpty then 0 else 1)<30))=true:=by rfl)
  (g7:(apos.endLine==pos.line)=true:=by rfl)(hs:SE X e []:=by rfl)(g0:BA X pos []:=by rfl):QX X (.Call (.Attribute (.Name x b8) "append" apos) [e] [] pos) (kn i f):=⟨EB hv.h he.h g8 l4 g7 hs g0⟩
theorem NF(hv:QO X (.Name x b8) (gf i))(he:QO X e fo)(g8:attributeBase (.Name x b8) "pop" X.env (eval (.Name x b8) X.env)=eval (.Name x b8) X.env:=by rfl)
  (l4:((backTo pos (starEach [e] X.env)).all (fun x=>!x.1)&&(backToKw pos (keywordEach [] X.env)).all (fun x=>x.1.isSome)&&decide ([e].length+([]:List Keyword).length+(if([]:List Keyword).isEmpty then 0 else 1)<30))=true:=by rfl)
  (g7:(apos.endLine==pos.line)=true:=by rfl)(hs:SE X e []:=by rfl)(g0:BA X pos []:=by rfl):QX X (.Call (.Attribute (.Name x b8) "pop" apos) [e] [] pos) (mv i fo):=⟨G6 hv.h he.h g8 l4 g7 hs g0⟩
theorem iR1(T:Tx X.mg)(ha:QA X [a] [fa])(hg:Gl X "range":=by rfl)(hs:starEach [a] X.env=[(false,eval a X.env)]:=by rfl):QI X B tg (.Call (.Name "range" p) [a] [] pos) (AJ fa):=⟨Ck hg T.n_range ha.h hs⟩
theorem iR2(T:Tx X.mg)(ha:QA X [a,b] [fa,fb])(hg:Gl X "range":=by rfl)(hs:starEach [a,b] X.env=[(false,eval a X.env),(false,eval b X.env)]:=by rfl)(m4:starEach [b] X.env=[(false,eval b X.env)]:=by rfl):QI X B tg (.Call (.Name "range" p) [a,b] [] pos) (zk fa fb):=⟨Cj hg T.n_range ha.h hs m4⟩
theorem iS(h:QX X e f):QI X B tg e (ky f):=⟨JS h.h⟩
theorem iSV(h:QO X e (gf i))(hb:B i:=by decide):QI X B tg e (vN (gf i)):=⟨Au h.h (yR hb)⟩
theorem iZV{elts:iL}{k1:Nat}{y8:Pos}(T:Tx X.mg)(ha:QO X a (gf i))(hb:QO X b (gf j))(b1:B i:=by decide)(b2:B j:=by decide)(hg:Gl X "zip":=by rfl)(hs:SE X a [b]:=by rfl)(m4:SE X b []:=by rfl)(g6:BA X pos [b]:=by rfl):
  QI X B (.Tuple elts k1 y8) (.Call (.Name "zip" p) [a,b] [] pos) (sv (gf i) (gf j)):=⟨Hj hg T.n_zip ha.h hb.h (yR b1) (yR b2) hs m4 g6⟩
theorem gN(hN:X.N.Nodup)(hi:X.N[i]?=some x:=by rfl)(hx:Loc X.env.scope x:=by first|exact Or.inl rfl|exact Or.inr rfl)(hf:X.fn x=true\/X.env.scope.names.lookup x=some .local:=by first|exact Or.inl rfl|exact Or.inr rfl)(ha:A i:=by decide):QG X A (.Name x pos) (gx i):=⟨Hn hN hi hx hf ha⟩
theorem gT{t1 t2:Tg}{k:Nat}(h1:QG X A a t1)(h2:QG X A b t2)(hc:X.calm=true:=by rfl)(q1:(assignEach [a,b] X.env).map (·.2)=assign a X.env::(assignEach [b] X.env).map (·.2):=by rfl)(q2:(assignEach [b] X.env).map (·.2)=assign b X.env::(assignEach [] X.env).map (·.2):=by rfl)
  (hn:(assignEach [a,b] X.env).length=2:=by rfl)(r8:(assignEach [a,b] X.env).findIdx? (·.1)=none:=by rfl):QG X A (.Tuple [a,b] k pos) (oy [t1,t2]):=⟨JW hc (xj h1.h (xj h2.h Ho q2) q1) hn rfl r8⟩
theorem f0:QF X [] jK:=⟨Hl⟩
theorem f1(h:QT X e ft):QF X [e] ft:=⟨Hk h.h⟩
theorem bE{gens:pL}{sc:iq}{d:fZ}{n:Nat}(he:QX X e f)(hn:gens[n+1]?=none:=by rfl):QB X A d (.ListComp e gens sc p) n (iP f):=⟨HA hn he.h⟩
theorem cOk{N P:gG}{sc scope:iq}{N':gG}{caps:gW}(S:FnScope N P sc)(h:zw N sc scope N' caps k=true:=by decide+kernel)(hN:X.N=N:=by rfl)(hs:X.env.scope=sc:=by rfl):CompOk X N' scope caps k:=Nh hN hs h
theorem xC{c:pK}{hU:pL}{elt:gm}{scope:iq}{fi:FIt}{tt:Tg}{ti:FT}{fb:FB}{caps:gW}{N':gG}(C:CompOk X N' scope caps k)(nd:N'.Nodup)(pi:QI X (fun i=>i∉caps) c.target c.iter fi)
  (ah: ∀(cl:jl) (C:fZ) (s3:gi) (H3:Hp) (fp:iW) (pins:gO),(X.comp N' scope cl C s3 H3 fp pins).N.Nodup->
   QG (X.comp N' scope cl C s3 H3 fp pins) (fun i=>caps.length<=i) c.target tt/\QF (X.comp N' scope cl C s3 H3 fp pins) c.ifs ti/\ ∀d,QB (X.comp N' scope cl C s3 H3 fp pins) (fun i=>caps.length<=i) d (.ListComp elt (c::hU) scope pos) 0 fb)
  (hc:X.calm=true:=by rfl)(ha:c.is_async=0:=by rfl)(s9: ∀g',hU[0]?=some g'->g'.is_async=0:=by intro g' h;cases h;try rfl)(hs: ∀x,foldedSetIterable c.iter X.env x=pure x:=by intro _;rfl):QX X (.ListComp elt (c::hU) scope pos) (iR caps k fi tt ti fb):=⟨JD C hc ha s9 hs pi.h fun cl C s3 H3 fp pins=>let⟨a,b,c⟩:=ah cl C s3 H3 fp pins nd;⟨a.h,b.h,fun d=>(c d).h⟩⟩
theorem sC{c:pK}{hU:pL}{elt:gm}{scope:iq}{fi:FIt}{tt:Tg}{ti:FT}{fb:FB}{caps:gW}{N':gG}{py d9:Pos}(hN:X.N.Nodup)(C:CompOk X N' scope caps k)(nd:N'.Nodup)(pi:QI X (fun i=>i∉caps) c.target c.iter fi)
  (ah: ∀(cl:jl) (C:fZ) (s3:gi) (H3:Hp) (fp:iW) (pins:gO),(X.comp N' scope cl C s3 H3 fp pins).N.Nodup->
   QG (X.comp N' scope cl C s3 H3 fp pins) (fun i=>caps.length<=i) c.target tt/\QF (X.comp N' scope cl C s3 H3 fp pins) c.ifs ti/\ ∀d,QB (X.comp N' scope cl C s3 H3 fp pins) (fun i=>caps.length<=i) d (.ListComp elt (c::hU) scope pos) 0 fb)
  (bg:swapsWith (.ListComp elt (c::hU) scope pos) (some (.Name x py)) d9.line X.env=pure true:=by rfl)(hi:X.N[i]?=some x:=by rfl)(hx:X.env.scope.names.lookup x=some .local:=by rfl)(hf:X.fn x=true:=by rfl)(hA:A i:=by decide)
  (hc:X.calm=true:=by rfl)(ha:c.is_async=0:=by rfl)(s9: ∀g',hU[0]?=some g'->g'.is_async=0:=by intro g' h;cases h;try rfl)(hs: ∀x,foldedSetIterable c.iter X.env x=pure x:=by intro _;rfl):QS X A L H0 (.Assign [.Name x py] (.ListComp elt (c::hU) scope pos) d9) (jc i (iR caps k fi tt ti fb)):=⟨Ha bg C hc ha s9 hs pi.h (DE hN hi (Or.inl hx) (Or.inl hf)) hA fun cl C s3 H3 fp pins=>let⟨a,b,c⟩:=ah cl C s3 H3 fp pins nd;⟨a.h,b.h,fun d=>(c d).h⟩⟩
theorem s0:QQ X A L H0 [] gZ:=⟨Hb⟩
theorem s1(h:QS X A L H0 S u)(hr:QQ X A L H0 Ss v):QQ X A L H0 (S::Ss) (gw u v):=⟨EF h.h hr.h⟩
theorem sX:QS X A L H0 S vg:=⟨ED⟩
theorem sR(h:QX X e f):QS X A L H0 (.Return (some e) pos) (kd f):=⟨JM h.h⟩
theorem sRV(hl: ¬L i)(h1:X.N[i]?=some x:=by rfl)(h2:Vis X.env.scope x:=by first|exact Or.inl rfl|exact Or.inr (Or.inl rfl)|exact Or.inr (Or.inr rfl))(h3:DB x:=by decide)(h4:(x==("__classdict__":Str))=false:=by decide):QS X A L H0 (.Return (some (.Name x p)) pos) (pk i):=⟨Cg h1 h2 h3 h4 hl⟩
theorem sE(h:QX X e f)(hs:swapsWith e none pos.line X.env=pure false:=by rfl):QS X A L H0 (.Expr e pos) (mn f):=⟨G8 h.h hs⟩
theorem sI(hc:QT X c ft)(ha:QQ X A L H0 Ss u)(hb:QQ X A L H0 Ts v):QS X A L H0 (.If c Ss Ts pos) (sIf ft u v):=⟨Mj hc.h ha.h hb.h⟩
theorem sW{n:Nat}(hc:QT X c ft)(hb:QQ X A L H0 Ss u)(hp:PassesOwn (model X.prog X.w) X.A X.env X.xe:=by exact PassesOwn.never):QS X A L H0 (.While c Ss [] pos) (lj ft u n):=⟨EC hp hc.h hb.h⟩
theorem sF{fi:FIt}{t:Tg}(hi:QI X (fun _=>False) tg e fi)(hg:QG X A tg t)(hb:QQ X A L H0 Ss u)(hp:PassesOwn (model X.prog X.w) X.A X.env X.xe:=by exact PassesOwn.never)(hc:X.calm=true:=by rfl)(hs: ∀x,foldedSetIterable e X.env x=pure x:=by intro _;rfl):QS X A L H0 (.For tg e Ss [] pos) (tN fi t u):=⟨JO hp hc hi.h hg.h hb.h hs⟩
theorem sS(hN:X.N.Nodup)(he:QX X e f)(hi:X.N[i]?=some x:=by rfl)(hx:Loc X.env.scope x:=by first|exact Or.inl rfl|exact Or.inr rfl)(hf:X.fn x=true\/X.env.scope.names.lookup x=some .local:=by first|exact Or.inl rfl|exact Or.inr rfl)(ha:A i:=by decide)(hs:swapsWith e (some (.Name x p)) pos.line X.env=pure false:=by rfl):QS X A L H0 (.Assign [.Name x p] e pos) (jc i f):=⟨JL hN hi hx he.h hs hf ha⟩
theorem sIx{d9:Pos}(hv:QO X (.Name x b8) (gf i))(he:QX X e f)(hi:QO X a fo)
  (ha: ∀v,assign (.Subscript (.Name x b8) a d9) X.env v=(do
   let ov <-holding [v] (eval (.Name x b8) X.env)
   let iv <-holding [v,ov] (eval a X.env)
   standAt d9
   holding [v,ov,iv] (setItem ov iv v)
   release [v,ov,iv] []):=by intro _;rfl)
  (hs:swapsWithSole [.Subscript (.Name x b8) a d9] e pos.line X.env=pure false:=by rfl)(hw:swappedStores [.Subscript (.Name x b8) a d9] e X.env=pure none:=by rfl)
  (h1:(assignEach [.Subscript (.Name x b8) a d9] X.env).map (·.2)=[assign (.Subscript (.Name x b8) a d9) X.env]:=by rfl):QS X A L H0 (.Assign [.Subscript (.Name x b8) a d9] e pos) (sd i f fo):=⟨EE hv.h he.h hi.h ha hs hw h1⟩
theorem sDP{d9:Pos}(hu:un X.A 1)(hv:QO X (.Name x b8) (gf i))(he:QX X e f)(hi:QO X a fo)
  (ha: ∀v,assign (.Subscript (.Name x b8) a d9) X.env v=(do
   let ov <-holding [v] (eval (.Name x b8) X.env)
   let iv <-holding [v,ov] (eval a X.env)
   standAt d9
   holding [v,ov,iv] (setItem ov iv v)
   release [v,ov,iv] []):=by intro _;rfl)
  (hs:swapsWithSole [.Subscript (.Name x b8) a d9] e pos.line X.env=pure false:=by rfl)(hw:swappedStores [.Subscript (.Name x b8) a d9] e X.env=pure none:=by rfl)
  (h1:(assignEach [.Subscript (.Name x b8) a d9] X.env).map (·.2)=[assign (.Subscript (.Name x b8) a d9) X.env]:=by rfl):QS X A L H0 (.Assign [.Subscript (.Name x b8) a d9] e pos) (tj i f fo):=⟨G9 hu hv.h he.h hi.h ha hs hw h1⟩
end
def Fz(K:gA)(mg:jy)(x:Str)(st:Stmt):Prop:= ∃f fd,mg x=some (.ref f)/\Fun K x x st f fd
theorem fz{K:gA}{h:gz}{mg:jy}{x:Str}{st:Stmt}{f:fZ}{oc:gp}{od an:Option Addr}{t7:oj}{kV doc pm c9 ct:gp}(X:K.In h)(G:h.Ns mainGlobals mg)(a:PySem.W.nsIn K mainGlobals x=some (some (.ref f)))
  (l:K.lookup f=some ⟨oc,od,.func (PySem.W.fnOf x x (nS st) (jD st) (gg st) .none kV doc pm an c9 ct),t7⟩)(c:PySem.W.codeIn K c9 x=true)(k:PySem.W.keepIn K (.ref f)=true):Fz K mg x st:=⟨f,_,PySem.W.mg_of X G a,Il l c k⟩
def BdA(x:Str)(st:Stmt)(ps:gG):Prop:= ∀(kV doc pm:gp) (an:Option Addr) (c9 ct:gp) (us:hJ),us.length=ps.length->bindArgs (PySem.W.fnOf x x (nS st) (jD st) (gg st) .none kV doc pm an c9 ct) ⟨us,[]⟩=pure (ps.zip us)
theorem scM{N P:gG}{sc:iq}(h1:sc.kind= .function:=by rfl)(h2:sc.isCoroutine=false:=by rfl)(h3:sc.isGenerator=false:=by rfl)(h4:N.Nodup:=by decide+kernel)(h5:N.take P.length=P:=by rfl)(h6: ∀x∈P,sc.names.lookup x=some .local\/sc.names.lookup x=some .cell:=by decide+kernel)(h7: ∀y∈sc.names,y.2≠ .free:=by decide+kernel):FnScope N P sc:=⟨h1,h2,h3,h4,h5,h6,h7⟩
def Bd(Z:ZZ)(k:Nat)(x:Str)(st:Stmt)(N ps:gG)(asg:gW)(fs:FS):Prop:= ∀(f:fZ) (c9:gp) (A:gB) (outer:List Env) (s:gi) (H:Hp) (E:XK) (L:ir),(∀i,L i->i<ps.length)->Room k (A.deeper (envOfC x (gg st) s.heap.objs.size f c9))->
 un (A.deeper (envOfC x (gg st) s.heap.objs.size f c9)) 60->un (A.deeper (envOfC x (gg st) s.heap.objs.size f c9)) 1->un (A.deeper (envOfC x (gg st) s.heap.objs.size f c9)) 62->un (A.deeper (envOfC x (gg st) s.heap.objs.size f c9)) 90->N.Nodup->
 QQ (my CX0 Z.P Z.w Z.K Z.mg Z.base N x (gg st) f c9 A outer s H E).nox (fun i=>i∈asg) L H (jD st) fs
theorem fnB{Z:ZZ}{k:Nat}{x:Str}{st:Stmt}{N ps:gG}{asg:gW}{fs:FS}{f:fZ}{fd:kE}(F:Fun Z.K x x st f fd)(S:FnScope N ps (gg st))(hb:Bd Z k x st N ps asg fs):FnOk Z.P Z.w Z.K Z.mg Z.base CX0 (k+1) f fd ps (spF Z.K (evF N.length ps.length asg fs)):=
 MZ F S fun c9 A outer s H E L hL hr=>by
  have:=hr.un;exact(hb f c9 A outer s H E L hL hr (by unfold un;omega) (by unfold un;omega) (by unfold un;omega) (by unfold un;omega) S.nd).h
theorem ozB{Z:ZZ}{k:Nat}{x:Str}{st:Stmt}{N ps:gG}{asg:gW}{fs:FS}(a:Fz Z.K Z.mg x st)(S:FnScope N ps (gg st))(b:BdA x st ps)(hb:Bd Z k x st N ps asg fs):Oz Z (k+1) x ps (evF N.length ps.length asg fs):=
 let⟨f,fd,m,F⟩:=a;⟨f,fd,fnB F S hb,m,F.kp,F.binds b⟩
theorem us0{P:List Value->Prop}(h:P []): ∀us:List Value,us.length=0->P us:=fun us e=>by cases us with|nil=>exact h|cons a l=>cases e
theorem us1{P:List Value->Prop}{n:Nat}(h: ∀a,∀us:List Value,us.length=n->P (a::us)): ∀us:List Value,us.length=n+1->P us:=fun us e=>by cases us with|nil=>cases e|cons a l=>exact h a l (Nat.succ.inj e)
theorem oz0{Z:ZZ}{x:Str}{st:Stmt}{ps:gG}(a:Fz Z.K Z.mg x st)(b:BdA x st ps):Oz Z 0 x ps (fun _=>none):=
 let⟨f,fd,m,F⟩:=a;⟨f,fd,Kq,m,F.kp,F.binds b⟩
theorem fzL{K:gA}{mg:jy}{x y:Str}{st:Stmt}{fa:fZ}(a:Fz K mg x st)(cJ:mg x=some (.ref fa))(b:BdA x st [y]): ∃fd,Fun K x x st fa fd/\ ∀(s:gi) (v:gp),BindsTo s fd ⟨[v],[]⟩ [(y,v)]:=by
 obtain⟨f,fd,m,F⟩:=a;have e:=cJ.symm.trans m;cases e;obtain⟨oc,od,kV,doc,pm,an,c9,ct,t7,e,_⟩:=F.ex;exact⟨fd,F,fun s v=>by subst e;exact .of_eq (b kV doc pm an c9 ct [v] rfl)⟩
theorem mgI{K:gA}{h:gz}{mg:jy}{x:Str}{i:Int}{t:Tok}(X:K.In h)(G:h.Ns mainGlobals mg)(a:PySem.W.nsIn K mainGlobals x=some (some (.int i t))): ∃t,mg x=some (.int i t):=⟨t,PySem.W.mg_of X G a⟩
theorem txK{K:gA}{h:gz}{mg:jy}(X:K.In h)(G:h.Ns mainGlobals mg)(z0:PySem.W.nsIn K mainGlobals "len"=some none)(z1:PySem.W.nsIn K mainGlobals "abs"=some none)(z2:PySem.W.nsIn K mainGlobals "int"=some none)(z3:PySem.W.nsIn K mainGlobals "tuple"=some none)(z4:PySem.W.nsIn K mainGlobals "list"=some none)(z5:PySem.W.nsIn K mainGlobals "range"=some none)(z6:PySem.W.nsIn K mainGlobals "isinstance"=some none)(z7:PySem.W.nsIn K mainGlobals "bool"=some none)(z8:PySem.W.nsIn K mainGlobals "max"=some none)(z9:PySem.W.nsIn K mainGlobals "min"=some none)(z10:PySem.W.nsIn K mainGlobals "all"=some none)(z11:PySem.W.nsIn K mainGlobals "any"=some none)(z12:PySem.W.nsIn K mainGlobals "sorted"=some none)(z13:PySem.W.nsIn K mainGlobals "enumerate"=some none)(z14:PySem.W.nsIn K mainGlobals "zip"=some none)(z15:PySem.W.nsIn K mainGlobals "set"=some none):Tx mg:=⟨lJ X G z0,lJ X G z1,lJ X G z2,lJ X G z3,lJ X G z4,lJ X G z5,lJ X G z6,lJ X G z7,lJ X G z8,lJ X G z9,lJ X G z10,lJ X G z11,lJ X G z12,lJ X G z13,lJ X G z14,lJ X G z15⟩
abbrev abI(i:Int):Int:=if i<0 then -i else i
section
variable {prog:gC}{w:gy}{A:gB}{E:gU}{s:gi}
theorem GH{a:fZ}{vs:hJ}{ns:gS}{n:Nat}{P:PySem.Fin->Shared->Prop}(ho:s.heap.get? a=some (seqObj "list" vs.toArray n))(hi:IntsAre vs ns)(h64:vs.length<64)
  (h: ∀h' tk out c,(∀b o,b≠a->s.heap.get? b=some o->h'.get? b=some o)->h'.get? a=some (seqObj "list" out c)->KskOut false (ns.map abI) vs out.toList->P (.done (.ret .none)) {s with heap:=h',toks:=tk}):
  wpAny (model prog w) A (ksk_tree a (.builtin "abs") false) P E s:=by
 have ha:a<s.heap.objs.size:=iC ho;have hlen:=hi.length;have hz: ∀k,k<=vs.length->k<=sizeLine:=fun k hk=>by rw[je];omega
 unfold ksk_tree;refine gk (Bn ho rfl (gk (qc ho rfl ?_ (hz _ (by simp)) (mB _))));obtain⟨e1,v7⟩: ∃e1,(s.heap.update a (Obj.mapSeq fun _=>(#[]:Array Value))).get? a=some (seqObj "list" #[] e1):=⟨_,rl ho fun _=> #[]⟩
 refine gk (uD v7 rfl (gk (Bx ?_ (hz _ (by simp)))));refine gk (ye ?_ (mB _));refine mX ?_
 let h1:=ng s.heap a vs
 let kS:Addr:=((s.heap.update a (Obj.mapSeq fun _=>(#[]:Array Value))).push (seqObj "tuple" vs.toArray 0)).objs.size
 have hk:kS=s.heap.objs.size+1:=by show _=_;simp only[kS];rw[size_push',Heap.size_update]
 have hka:a≠kS:=by rw[hk];exact iF (uL ha)
 have old: ∀b o,b≠a->s.heap.get? b=some o->h1.get? b=some o:=fun b o hb e=>iM _ (iM _ (by rw[Bk _ _ _ _ hb];exact e));have y6:h1.get? a=some (seqObj "list" #[] e1):=iM _ (iM _ v7);have aW:h1.get? kS=some (seqObj "list" #[] 0):=jx _ rfl;show wpAny (model prog w) A (ksk_rest a (.builtin "abs") false vs.toArray e1 (.ref kS)) P E {s with heap:=h1};unfold ksk_rest;refine gk (qz ?_);rw[List.forIn_toArray];refine gk (ksk_fold (fun i s'=> ∃h' tk kA e,s'={s with heap:=h',toks:=tk}/\(∀b o,b≠kS->h1.get? b=some o->h'.get? b=some o)/\h'.get? kS=some (seqObj "list" kA e)/\IntsAre kA.toList ((ns.map abI).take i)) vs 0 _ ⟨h1,s.toks,#[],0,rfl,fun _ _ _ e=>e,aW,.nil⟩ (fun j x s' hx hI=>?_) fun s' hI=>?_)
 ·obtain⟨h',tk,kA,e,rfl,k1,k2,k3⟩:=hI;have hj:j<vs.length:=(rk.mp hx).1;obtain⟨t,ht⟩:=hi.get j ns[j] (iu (by omega));rw[hx] at ht;cases ht
  have hsz:kA.size<=vs.length:=by
   have:=k3.length;rw[ma,pN] at this;omega
  refine gk (sM (call_abs_int fun u tk2=>?_));dsimp only;have s1:=uv h' kS (Obj.mapSeq (·.push (.int (abI ns[j]) u)));refine gk (qc (s:={s with heap:=h',toks:=tk2}) k2 rfl ?_ (hz _ hsz) (mE (Nat.le_of_eq (Array.size_push ..)) (by rw[je];omega)));refine gF ⟨rfl,_,_,kA.push (.int (abI ns[j]) u),_,rfl,fun b o hb e=>(s1.2 b hb).trans (k1 b o hb e),rl k2 _,?_⟩;rw[Bg,List.take_add_one,jd,iu (show j<ns.length by omega),Array.toList_push];rw[Bg] at k3;exact k3.append (.cons _ _ .nil)
 ·obtain⟨h',tk,kA,e,rfl,k1,k2,k3⟩:=hI;have k3:IntsAre kA.toList (ns.map abI):=by rwa [Bg,qp (by simp;omega)] at k3
  have hsz:kA.size=vs.length:=by
   have:=k3.length;rw[ma,jF] at this;omega
  have dI:(kA.zip vs.toArray).size=vs.length:=by rw[Array.size_zip,hsz,iK,Nat.min_self]
  refine gk (Bn (s:={s with heap:=h',toks:=tk}) k2 rfl ?_)
  have tail: ∀st:SortSt,(arrOf st).Perm (kA.zip vs.toArray)->SortedTo (arrOf st) (arrOf st).size->failedOf st=none->wpAny (model prog w) A (ksk_tail a false e1 (.ref kS) st) P E {s with heap:=h',toks:=tk}:=fun st hp hs hf=>by
   have s1:=uv h' kS (Obj.mapSeq fun _=>(#[]:Array Value));have aY:(h'.update kS (Obj.mapSeq fun _=>(#[]:Array Value))).get? a=some (seqObj "list" #[] e1):=(s1.2 a hka).trans (k1 a _ hka y6);have s2:=uv (h'.update kS (Obj.mapSeq fun _=>(#[]:Array Value))) a (Obj.mapSeq fun _=>(arrOf st).map (·.2));unfold ksk_tail;simp only[hZ,iJ];refine gk (qc (s:={s with heap:=h',toks:=tk}) k2 rfl ?_ (hz _ (by omega)) (mB _));refine gk (yp (gk (uD aY rfl (gk (qc aY rfl ?_ (mB _) (Nat.le_succ_of_le (show((arrOf st).map (·.2)).size<=sizeLine from hz _ (by rw[Bo,hp.size_eq,dI];exact ig _))))))));rw[hf];simp only[rL,hZ,iJ];refine gF (h _ _ _ _ (fun b o hb e=>?_) (rl aY _) (ksk_out (b:=false) k3 hp hs));have hbk:b≠kS:=by rw[hk];exact iF (uL (iC e))
   exact(s2.2 b hb).trans ((s1.2 b hbk).trans (k1 b o hbk (old b o hb e)))
  unfold ksk_end;simp only[hZ,iJ];by_cases h2:vs.toArray.size<2
  ·rw[gq h2,gq h2];refine gk (gF ?_);rw[Bv];refine gk (gF (tail _ (Bm _) (fun i j k6 hj=>?_) rfl));have eX:j<(kA.zip vs.toArray).size:=hj;rw[dI] at eX;rw[iK] at h2;have:i=j:=by omega
   subst this;exact Int.le_refl _
  ·rw[gv h2,gv h2];rw[iK] at h2;rw[ksk_kind k3 (by rw[hsz];omega)];refine gk (gF ?_)
   refine gk (lM (wpS_sortRuns (a₀:=kA.zip vs.toArray) (st:=SortSt.mk' oneType' (kA.zip vs.toArray) #[] 7 none) (Q:=fun _ b7=>(arrOf b7).Perm (kA.zip vs.toArray)/\failedOf b7=none/\SortedTo (arrOf b7) (kA.zip vs.toArray).size)
    (ksk_intKeys k3) ⟨Bm _,rfl,rfl,rfl⟩ (by rw[dI];omega) (by rw[dI];exact h64) fun b7 a1 a2 a3=>⟨a1,a2,a3⟩) ?_ fun _ _ e=>e)
   rintro⟨⟨⟩,b7⟩ s' ⟨rfl,hp,hf,hs⟩;exact tail b7 hp (by rw[hp.size_eq];exact hs) hf
end
def aD:D->Int
 | .int i=>abI i
 |_=>0
def isI:D->Bool
 | .int _=>true
 |_=>false
def ltA(x y:D):Bool:=decide (aD x<aD y)
def sx:D->Option (D×Bool)
 | .lst l=>if l.all isI=true/\(l.map aD).Nodup/\l.length<64 then some (.lst (kc ltA l),true) else none
 |_=>none
theorem AM{x:D}: ∀{l:List D},l.Pairwise (fun a b=>aD a<=aD b)->(pJ ltA x l).Pairwise fun a b=>aD a<=aD b
 |[],_=>by simp[pJ]
 |y::l,h=>by
  obtain⟨h1,h2⟩:=nY.mp h;unfold pJ;by_cases hxy:aD y<aD x
  ·rw[gq (by simpa[ltA] using hxy)];refine nY.mpr ⟨fun z hz=>?_,AM h2⟩;rcases kb.mp ((nB ltA x l).mem_iff.mp hz) with rfl|hz
   ·omega
   ·exact h1 z hz
  ·rw[gv (by simpa[ltA] using hxy)];refine nY.mpr ⟨fun z hz=>?_,h⟩;rcases kb.mp hz with rfl|hz
   ·omega
   ·have:=h1 z hz;omega
theorem rY: ∀l:List D,(kc ltA l).Pairwise fun a b=>aD a<=aD b
 |[]=> .nil
 |_::l=>AM (rY l)
theorem xl: ∀{l:List D},(l.map aD).Nodup-> ∀a∈l,∀b∈l,aD a=aD b->a=b
 |x::l,h,a,ha,b,hb,e=>by
  rw[ic,zL] at h;rcases kb.mp ha with h1|h1<;>rcases kb.mp hb with h2|h2
  ·rw[h1,h2]
  ·exact absurd (h1▸e▸uC h2) h.1
  ·exact absurd (h2▸e▸uC h1) h.1
  ·exact xl h.2 a h1 b h2 e
theorem GJ{l m:List D}(hp:m.Perm l)(hs:m.Pairwise fun a b=>aD a<=aD b)(hn:(l.map aD).Nodup):m=kc ltA l:=by
 refine(hp.trans (jM ltA l).symm).eq_of_pairwise (le:=fun a b=>aD a<=aD b) (fun a b ha hb x y=>xl hn a (hp.mem_iff.mp ha) b ((jM ltA l).mem_iff.mp hb) (by omega)) hs (rY l)
section
variable {X:Cx}{pins:gO}{σ:L2.St}{H:Hp}{s:gi}
theorem LJ{O:AP'}: ∀{l:List D} {xs:List V} {its:hJ},l.all isI=true->RepL X.K H O l xs->Vals xs its-> ∃ns:List Int,l=ns.map .int/\IntsAre its ns
 |[],xs,its,_,r,v=>by
  rw[RepL] at r;subst r;cases v;exact⟨[],rfl,.nil⟩
 |d::l,xs,its,h,r,v=>by
  rw[RepL] at r;obtain⟨x,bG,rfl,r1,r2⟩:=r;rw[List.all_cons,lE] at h
  cases d with
  |int i=>
   cases v with
   |cons a b=>
    obtain⟨ns,rfl,h3⟩:=LJ h.2 r2 b;rw[gP (.inl r1)] at a;obtain⟨t,rfl⟩:=a;exact⟨i::ns,rfl,.cons _ _ h3⟩
  |_=>exact absurd h.1 (by simp[isI])
theorem NA: ∀{l:List D} {ns:gS} {xs:List V} {its:hJ},l=ns.map .int->xs.length=l.length->its.length=l.length->(ns.map abI).zip its=(l.zip (xs.zip its)).map fun t=>(aD t.1,t.2.2)
 |[],[],_,_,_,_,_=>by simp
 |d::l,i::ns,x::xs,u::its,h,h1,h2=>by
  obtain⟨rfl,hh⟩:=rB h;have:=NA (xs:=xs) (its:=its) hh (by simpa using h1) (by simpa using h2);simp only[ic,List.zip_cons_cons,this];rfl
theorem Ca{u:gp}{Q:VK}{O:AP'}{d:D}{z:D×Bool}{x:V}(I:Inv X pins σ H s)(ru:RelV x u)(np: ∀p,¬Ow (H p)-> ¬O p)(hd:iT X.K H O d x)(hg:sx d=some z)(G:Gen X.K H O z Q):
  wpAny (model X.prog X.w) X.A (call (.builtin "sorted") [u] [(Str.ofString "key",.builtin "abs")]) (EP X pins σ Q) X.xe s:=by
 cases d with
 |lst l=>
  obtain⟨⟨hI,hn,hz⟩,rfl⟩:=gR hg;obtain⟨p,xs,rfl,q,rr⟩:=jm hd;cases ru;obtain⟨its,v,pl,_⟩:=I.list q;have e1:=rr.length;have e2:=v.length;obtain⟨ns,aj,hints⟩:=LJ hI rr v;have hl:its.length<=sizeLine:=by rw[je];omega
  obtain⟨o,ho,hc,n,dX⟩:=pl.isList;refine call_function_entry_kw kind_sorted plain_sorted entry_sorted (ksk_s1 _ _) ?_;unfold Builtin.«sorted»;refine gk (m:=checkCount "sorted" 1 1 _) (gF ?_);refine gk (Bj p (.inl rfl) ho hc dX (fun h1 k1=>?_) (by rw[iK];omega));rw[List.toList_toArray];refine gk (ye ?_ hl);have dP:(h1.push (seqObj "list" its.toArray 0)).get? h1.objs.size=some (seqObj "list" its.toArray 0):=jx _ rfl;have I1:Inv X pins σ H {s with heap:=h1}:=I.kept k1;refine gk (mX (wpAny_call_entry_kw (s:={s with heap:=h1.push (seqObj "list" its.toArray 0)}) slot_list_sort ⟨_,dP,rfl⟩ entry_list_sort ?body (ksk_l1 _ _)))
  case body=>
   show wpAny _ _ (Builtin.«list.sort» ⟨[.ref h1.objs.size],[(Str.ofString "key",.builtin "abs")]⟩) _ _ _;rw[ksk_t4];refine GH (s:={s with heap:=h1.push (seqObj "list" its.toArray 0)}) dP hints (by omega) fun h' tk out c k2 k3 ko=>⟨_,rfl,gF ⟨_,rfl,?_⟩⟩
   obtain⟨ps,hp,hout,hs⟩:=ko;rw[NA aj (by omega) (by omega)] at hp;obtain⟨tr,ht,rfl⟩:=wB _ hp _ rfl;rw[jP] at hout
   have hmem: ∀t∈tr,Rep X.K H O t.1 t.2.1/\RelV t.2.1 t.2.2:=fun t hm=>by
    obtain⟨i,hi⟩:=List.getElem?_of_mem (ht.mem_iff.mp hm);obtain⟨hi1,aH⟩:=IY.mp hi;obtain⟨hi3,hi4⟩:=IY.mp aH;obtain⟨w,w1,w2⟩:=v.get hi3;rw[hi4] at w1;cases w1;exact⟨rr.views hi1 hi3,w2⟩
   have hD:tr.map (·.1)=kc ltA l:=by
    refine GJ ?_ (by rw[mz] at hs ⊢;exact hs.imp fun h=>by simpa using h) hn;have:=ht.map (·.1)
    rwa [List.map_fst_zip (by simp;omega)] at this
   have hR: ∀tr:List (D×V×Value),(∀t∈tr,Rep X.K H O t.1 t.2.1/\RelV t.2.1 t.2.2)->RepL X.K H O (tr.map (·.1)) (tr.map (·.2.1))/\Vals (tr.map (·.2.1)) (tr.map (·.2.2)):=fun tr=>by
    induction tr with
    |nil=>exact fun _=>⟨.nil,.nil⟩
    |cons t tr ih=>
     intro h;obtain⟨i1,i2⟩:=ih fun x hx=>h x (jf _ hx);exact⟨.cons (h t jg).1 i1,.cons (h t jg).2 i2⟩
   obtain⟨r1,r2⟩:=hR tr hmem;have keep: ∀b o,h1.get? b=some o->h'.get? b=some o:=fun b o e=>k2 b o (iF (iC e)) (iM _ e);have hlen:tr.length=l.length:=by have:=pO List.length hD;rw[(jM ltA l).length_eq,jF] at this;exact this
   refine⟨.ref h1.objs.size,_,I1.laid (t':=tk) keep (ig _) (show ObjOk X.prog X.w _ _ _ (.lst (tr.map (·.2.1))) from⟨by rw[jF,je];omega,out.toList,c,?_,?_⟩),rfl,?_⟩
   ·rw[hout];exact r2
   ·rw[Fv];exact k3
   ·refine G.lst I1.fresh ?_;rw[<-hD];exact r1
 |_=>cases hg
theorem Ht{a:gm}{ta:TA}{p pos p1 kp:Pos}(hg:Gl X "sorted")(hm:X.mg "sorted"=none)(de:Gl X "abs")(eV:X.mg "abs"=none)(ha:PA X [a] ta)
  (he:backTo pos (starEach [a] X.env)=(false,eval a X.env)::backTo pos (starEach [] X.env))(g0:(backTo pos (starEach [a] X.env)).any (·.1)=false):
  PE X (.Call (.Name "sorted" p) [a] [⟨some "key",.Name "abs" p1,kp⟩] pos) (tCB (rDn X.K (g1 sx)) ta):=by
 intro pins s σ H Q I h;refine sU (oH I hg hm Fd (callWith_kw (thn (ha pos pins s σ H _ I h) fun us s1 ⟨vs,H1,I1,r1,hq⟩=>kws_cons (oH I1 de eV Nj (kws_nil ?_))) he g0 rfl rfl));obtain⟨O,ds,z,np,hl,hv,hg,G⟩:=hq
 match ds,hg with
 |[d],hg=>
  obtain⟨x,rfl⟩:=DK hl rfl;obtain⟨u,rfl,ru⟩:=pP r1;exact Ca I1 ru np (hv 0 d x rfl rfl) hg G
theorem G5{a:gm}{fo:FO}{p pos p1 kp:Pos}(hg:Gl X "sorted")(hm:X.mg "sorted"=none)(de:Gl X "abs")(eV:X.mg "abs"=none)(ha:PA X [a] (tA X.K [fo]))
  (he:backTo pos (starEach [a] X.env)=(false,eval a X.env)::backTo pos (starEach [] X.env))(g0:(backTo pos (starEach [a] X.env)).any (·.1)=false):
  PX X (.Call (.Name "sorted" p) [a] [⟨some "key",.Name "abs" p1,kp⟩] pos) (gL (g1 sx) [fo]):=pxn (Ht hg hm de eV ha he g0)
end
def fPop(i:Nat):F:=fun δ=>match δ[i]? with
 |some (some (.lst l,true))=>(l[l.length-1]?).bind fun d=>some ((d,false),δ.set i (some (.lst l.dropLast,true)))
 |_=>none
theorem RepL.dropLast{K H}{O:AP'}{l:List D}{xs:List V}(r:RepL K H O l xs):RepL K H O l.dropLast xs.dropLast:=by
 rw[Fu,Fu,r.length];exact r.take _
section
variable {X:Cx}{x:Str}{i:Nat}{b8 apos f9:Pos}
theorem LZ(hv:PO X (.Name x b8) (gf i))(g8:attributeBase (.Name x b8) "pop" X.env (eval (.Name x b8) X.env)=eval (.Name x b8) X.env)(g7:(apos.endLine==f9.line)=true):
  PX X (.Call (.Attribute (.Name x b8) "pop" apos) [] [] f9) (fPop i):=
 PX.imp (Mz yy FQ FP MN hv g8 g7) fun σ H Q hw=>by
 obtain⟨δ,T,rr,δ',E,e,k⟩:=hw;unfold fPop at e;split at e
 ·rename_i l h0;obtain⟨d,hd,e⟩:=fY e;obtain⟨rfl,rfl⟩:=gH e;refine⟨δ,T,.slot i,δ,E,by unfold gf;rw[h0],fun v H1 P=>?_⟩;obtain⟨K1,E1,hσ⟩:=P;obtain⟨a,g1,xs,g2,g3⟩:=E1.own i _ h0;rw[hσ] at g1;cases g1;obtain⟨w,w1,w2⟩:=g3.get hd;have hl:=g3.length;obtain⟨E3,K3⟩:=E1.write h0 hσ (RepL.dropLast g3);refine⟨.inl ⟨rfl,xs,SqL.of g2⟩,_,xs,w,rfl,rfl,g2,by rw[hl];exact w1,?_⟩;exact k _ _ (Post.val (K1.trans K3) E3 (Rep.mono (fun b o e n=>K3.kp b o e fun z=>n (.inl z)) (fun b _ z=>z.imp (K3.ow b) id) w2))
 ·cases e
end
section
variable {X:Cx}
variable {a:gm}{fo:FO}{p pos p1 kp b8 apos:Pos}{x:Str}{i:Nat}
theorem xSA(T:Tx X.mg)(ha:QA X [a] [fo])(hg:Gl X "sorted":=by rfl)(de:Gl X "abs":=by rfl)(he:backTo pos (starEach [a] X.env)=(false,eval a X.env)::backTo pos (starEach [] X.env):=by rfl)(g6:BA X pos [a]:=by rfl):
  QX X (.Call (.Name "sorted" p) [a] [⟨some "key",.Name "abs" p1,kp⟩] pos) (gL (g1 sx) [fo]):=⟨G5 hg (btM T (z:="sorted") rfl) de (btM T (z:="abs") rfl) ha.h he g6⟩
theorem ND(hv:QO X (.Name x b8) (gf i))(g8:attributeBase (.Name x b8) "pop" X.env (eval (.Name x b8) X.env)=eval (.Name x b8) X.env:=by rfl)(g7:(apos.endLine==pos.line)=true:=by rfl):
  QX X (.Call (.Attribute (.Name x b8) "pop" apos) [] [] pos) (fPop i):=⟨LZ hv.h g8 g7⟩
end
section
variable {X:Cx}{pins:gO}{σ:L2.St}{H:Hp}{s:gi}
theorem Dw{K:gA}{O:AP'}: ∀(ks:List Key),RepL K H O (ks.map iG) (ks.map kV)
 |[]=>RepL.nil
 |k::ks=>by
  refine RepL.cons ?_ (Dw ks)
  cases k with
  |inl i=>exact Rep.mkInt
  |inr x=>exact Rep.mkStr
theorem qf{K:gA}{O:AP'}(np: ∀p,¬Ow (H p)-> ¬O p): ∀{kvs:List (List Key×V)} {xs:List (List Key×Addr×Value)},L2.KT H kvs xs->RepL K H O (kvs.map fun p=> .tup (p.1.map iG)) (xs.map fun x=>V.ref x.2.1)
 |_,_,.nil=>RepL.nil
 |_,_,.cons h t=>by
  refine RepL.cons (Rep.mkTup ⟨h.2.1,np _ fun z=>z.nt _ h.2.1⟩ (Dw _)) (qf np t)
theorem uY{P:gC}{w:gy}(xs:List (List Key×Addr×Value)):Vals (xs.map fun x=>V.ref x.2.1) ((xs.map (entryOfKey (tupleKind (jz P w)))).map (·.key)):=by
 induction xs with
 |nil=>exact .nil
 |cons x xs ih=>exact .cons rfl ih
end
def zp(d:D):Option (D×Bool):=match d with
 | .oth .dct ks _=>some (.lst ks,true)
 |_=>vQ d
theorem GD{prog:gC}{w:gy}{a:fZ}{es:Array DictEntry}{ep:Nat}(hd:(a==sysModules)=false):PySem.W.KdlSrc prog w "dict" a a es.size (fun i v=> ∃e,es[i]?=some e/\v=e.key) (fun h=>TT.DRaw h a es ep) where
 type:=fun s x=>x.typeIs
 there:=fun h x=>let⟨_,h1,_⟩:=x.at_;⟨iC h1,iC h1⟩
 keep:=fun h h' x k=>x.stay fun o e=>k a (.inl rfl) o e
 notList:=by decide
 notTuple:=by decide
 hint:=fun A E s Q x h=>PySem.W.kdl_hint_dict x.typeIs h
 iter:=fun A s hh x=>by
  have cp:a<s.heap.objs.size:=let⟨_,h1,_⟩:=x.at_;iC h1;exact⟨_,_,fun E Q h=>TT.DU hd x h,TT.Be hh s.heap.objs.size a (mC cp) es ep,⟨⟨_,jx _ rfl,rfl,rfl⟩,x.stay fun o e=>iM _ e⟩⟩
section
variable {X:Cx}{pins:gO}{σ:L2.St}{H:Hp}{s:gi}
theorem qM(hh:X.A.handled=none)(I:Inv X pins σ H s){a:fZ}{es:Array DictEntry}{ep:Nat}{O:AP'}{ds:List D}{xs:List V}{Q:VK}(hd:(a==sysModules)=false)(S:TT.DRaw s.heap a es ep)(hz:es.size<=sizeLine)
  (rr:RepL X.K H O ds xs)(v:Vals xs (es.toList.map (·.key)))(G:Gen X.K H O (.lst ds,true) Q):wpAny (model X.prog X.w) X.A (call (.type "list") [.ref a]) (EP X pins σ Q) X.xe s:=by
 refine PySem.W.kdl_call (GD hd) hh S hz fun h' tk acc c kp ho it=>?_
 have ha:acc.toList=es.toList.map (·.key):=by
  apply rG;intro i;rw[rM,jd,rM]
  cases h:acc[i]? with
  |some u=>
   obtain⟨e,h1,rfl⟩:=it.2 i u h;rw[h1];rfl
  |none=>
   have:=Ny.mp h;rw[Ny.mpr (by rw[<-it.1];exact this)];rfl
 have hl:=v.length;refine⟨.ref s.heap.objs.size,_,I.laid (t':=tk) kp (ig _) (show ObjOk X.prog X.w _ _ _ (.lst xs) from⟨by rw[hl,jF,ma];exact hz,acc.toList,c,by rw[ha];exact v,by rw[Fv];exact ho⟩),rfl,?_⟩;exact G.lst I.fresh rr
theorem C3(hc:X.calm=true):iY X (.type "list") (rDn X.K (g1 zp)):=mS fun pins s σ H x u Q O d z I ru np hd hg G=>by
 by_cases hs: ∃ks vs,d= .oth .dct ks vs
 ·obtain⟨ks,vs,rfl⟩:=hs;cases(show some (D.lst ks,true)=some z from hg);obtain⟨a,us,rfl,q,r⟩:=mZ hd;cases ru;have hh:X.A.handled=none:=I.ok.hd hc;rcases q with⟨kvs,e,rfl,rfl⟩|⟨kvs,e,rfl,rfl⟩
  ·obtain⟨zl,bw,vs',rel,o,es,ep,h1,h2,h3,h4,h5,h6⟩:=IC I.hok e;have vv:=rV h5 rel;have hl:=vv.length;simp only[jF,ma] at hl;exact qM hh I bw ⟨o,h1,h2,h3⟩ (by omega) (se kvs) vv G
  ·obtain⟨zl,bw,xs,rel,o,es,ep,h1,h2,h3,h4,h5,h6⟩:=IA I.hok e;have hl:=rP rel;have hz:es.size=xs.length:=size_of_entries h4;exact qM hh I bw ⟨o,h1,h2,h3⟩ (by omega) (qf np rel) (by rw[h4];exact uY xs) G
 ·have:zp d=vQ d:=by
   unfold zp;split
   ·exact absurd ⟨_,_,rfl⟩ hs
   ·rfl
  exact we pins s σ H [x] [u] Q I (.cons ru .nil) ⟨O,[d],z,np,rfl,fun j d' v' h1 h2=>by
   cases j with
   |zero=>cases h1;cases h2;exact hd
   |succ j=>simp at h1,by show vQ d=some z;rw[<-this];exact hg,G⟩
end
def AO(d e:D):Option (D×Bool):=match d,e with
 | .lst l,.int k=>if 0<=k/\k<1000/\l.length*k.toNat<=sizeLine then some (.lst (List.replicate k.toNat l).flatten,true) else none
 |_,_=>mq d e
theorem RepL.rep{K H}{O:AP'}{l:List D}{xs:List V}(r:RepL K H O l xs): ∀n:Nat,RepL K H O (List.replicate n l).flatten (List.replicate n xs).flatten
 |0=>RepL.nil
 |n+1=>by rw[sQ,sQ,rN,rN];exact r.append (RepL.rep r n)
section
variable {X:Cx}
theorem HE:OpR X (binaryOp .Mult) (rD X.K AO):=by
 intro pins s σ H x y v u Q I rx ry h;obtain⟨O,d,e,z,np,h1,h2,hg,G⟩:=h;by_cases hs: ∃l k,d= .lst l/\e= .int k
 ·obtain⟨l,k,rfl,rfl⟩:=hs;obtain⟨⟨hk0,aW,hz⟩,rfl⟩:=gR (show(if 0<=k/\k<1000/\l.length*k.toNat<=sizeLine then some (D.lst (List.replicate k.toNat l).flatten,true) else none)=some z from hg);obtain⟨p,xs,rfl,q,r⟩:=jm h1;cases rx;rw[gP h2] at ry;obtain⟨t,rfl⟩:=ry;obtain⟨its,rv,pl,_⟩:=I.list q;obtain⟨⟨cls,dd,data,sl⟩,n,e,l8,_,dX⟩:=pl;simp only at l8 dX;subst l8 dX;have e1:=r.length;have e2:=rv.length;have hlen:its.toArray.size*k.toNat<=sizeLine:=by rw[iK,<-e2,e1];exact hz
  have hcap: ¬its.toArray.size*k.toNat>(2^63-1) / 8:=by
   have:(sizeLine:Nat)<=(2^63-1) / 8:=by decide
   omega
  have hfit: ¬(!Builtin.List.listFitsIndex k)=true:=by rw[fitsIndex_both (by omega) (by omega)];exact iU
  have hlong: ¬Builtin.List.listTooLong (its.toArray.size*k.toNat)=true:=by rw[HI hlen];exact iU
  have hnew:List.foldl (fun x1 x2=>x1++x2) #[] (List.replicate (if its.toArray.isEmpty=true then 0 else k.toNat) its.toArray)=(List.replicate k.toNat its).flatten.toArray:=by
   have f0: ∀m:Nat,List.foldl (fun x1 x2=>x1++x2) #[] (List.replicate m its.toArray)=(List.replicate m its).flatten.toArray:=fun m=>by
    have:=xw its m []
    rwa [ur] at this
   rw[f0]
   cases its with
   |nil=>simp
   |cons a r'=>rw[gv (by simp)]
  refine wpAny_binaryOp_repeat_ref (T:="list") (U:="int") (by decide) ⟨_,e,rfl⟩ (fun s'=>typeIs_int s' k t) noFill_list_mul F.fills_int_mul F.slot_int_rmul repeat_list F.slot_int_index.lookup
   (ux F.slot_int_rmul (typeIs_int s k t) F.entry_int_rmul (F.args_int_rmul_2 _ _) (lm_int_rmul_list_any k t p its.toArray n dd sl)
    ⟨e,rfl,⟨_,e,rfl⟩,ux F.slot_list_mul ⟨_,e,rfl⟩ F.entry_list_mul (F.args_list_mul_2 _ _) (lm_list_mul_any p its.toArray n dd sl k t hfit hcap hlong) ⟨e,?_⟩⟩)
  rw[hnew];exact⟨.ref _,_,I.lnew (t':=s.toks) (rv.rep k.toNat) (by rw[Kd,Nat.mul_comm,e1];exact hz),rfl,G.lst I.fresh (r.rep k.toNat)⟩
 ·have:AO d e=mq d e:=by
   unfold AO;split
   ·exact absurd ⟨_,_,rfl,rfl⟩ hs
   ·rfl
  exact lB pins s σ H x y v u Q I rx ry ⟨O,d,e,z,np,h1,h2,by rw[<-this];exact hg,G⟩
end
section
variable {prog:gC}{w:gy}{A:gB}{E:gU}{I:fZ}{fp wr:iW}{n:Nat}{P:Nat->Value->Prop}{St:Nat->Heap->Prop}
end
section
variable {X:Cx}{A:ir}{pos:Pos}{es:iL}{ts:List Tg}
end
section
variable {X:Cx}{A:ir}{a b:gm}{pos:Pos}
variable {e elt:gm}{f:F}{x z:Str}{p b8 p1 kp:Pos}{i k:Nat}{L:ir}{H0:Hp}
end
def qR(d:D):Option (D×Bool):=match d with
 | .oth .dct ks _=>if(ks.all fun k=>(sm k).isSome)=true then jS ks else none
 |_=>none
def pF(d e:D):Option (D×Bool):=match e with
 | .oth .dct ks vs=>if qQ ks d=true then some (.bl (!(kN ks vs d).isSome),false) else none
 |_=>none
section
variable {X:Cx}{pins:gO}{σ:L2.St}{H:Hp}{s:gi}
theorem Cm(hu:X.A.units+62<cLine):OpR X (compareOp .NotIn) (rD X.K pF):=by
 intro pins s σ H x y v u Q I rx ry h;obtain⟨O,d,e,z,np,h1,h2,hg,G⟩:=h;by_cases hs: ∃ks vs,e= .oth .dct ks vs
 ·obtain⟨ks,vs,rfl⟩:=hs;obtain⟨hk,rfl⟩:=gR (show(if qQ ks d=true then some (D.bl (!(kN ks vs d).isSome),false) else none)=some z from hg);obtain⟨a,us,rfl,q,r⟩:=mZ h2;cases ry;exact OA (by omega) I q r hk h1 rx true fun s' I'=>⟨.bl _,H,I',by simp[L2.RelV],G.bl⟩
 ·unfold pF at hg;split at hg
  ·exact absurd ⟨_,_,rfl⟩ hs
  ·cases hg
theorem zB(hc:X.calm=true)(hu:X.A.units+62<cLine):iY X (.builtin "sorted") (rDn X.K (g1 qR)):=mS fun pins s σ H x u Q O d z I ru np hd hg G=>by
 by_cases hs: ∃ks vs,d= .oth .dct ks vs/\(ks.all fun k=>(sm k).isSome)=true
 ·obtain⟨ks,vs,rfl,hk⟩:=hs
  have dW:jS ks=some z:=by
   have:(if(ks.all fun k=>(sm k).isSome)=true then jS ks else none)=some z:=hg
   rwa [gq hk] at this
  obtain⟨a,us,rfl,q,r⟩:=mZ hd;cases ru;have hh:X.A.handled=none:=I.ok.hd hc;rcases q with⟨kvs,e,rfl,rfl⟩|⟨kvs,e,rfl,rfl⟩
  ·obtain⟨zl,bw,vs',rel,o,es,ep,h1,h2,h3,h4,h5,h6⟩:=IC I.hok e;have vv:=rV h5 rel;have hl:=vv.length;simp only[jF,ma] at hl;exact ph hu I (se (O:=O) kvs) vv dW G fun Q' E' A' fK hQ=>TT.II bw (by rw[fK];exact hh) ⟨o,h1,h2,h3⟩ (by omega) fun h' tk k=>hQ h' tk k
  ·obtain⟨zl,bw,xs,rel,o,es,ep,h1,h2,h3,h4,h5,h6⟩:=IA I.hok e;have hl:=rP rel;have hz:es.size=xs.length:=size_of_entries h4;refine ph hu I (qf np rel) (uY (P:=X.prog) (w:=X.w) xs) dW G fun Q' E' A' fK hQ=>TT.II bw (by rw[fK];exact hh) ⟨o,h1,h2,h3⟩ (by omega) fun h' tk k=>?_;rw[h4];exact hQ h' tk k
 ·unfold qR at hg;split at hg
  ·rename_i ks vs;rw[gv fun h=>hs ⟨ks,vs,rfl,h⟩] at hg;cases hg
  ·cases hg
end
end PX
namespace L2
open PySem PySem.Spec PyProof.Rows PySem.W
def si(q:Str):HO:= .tbl #[.str q 0]
structure OnlyT(TB:List (Addr×Str))(H:Hp):Prop where
 one: ∀b,H b=none\/(∃o xs,H b=some (.frz o (.lst xs)))\/ ∃q,(b,q)∈TB/\H b=some (si q)
 all: ∀p∈TB,H p.1=some (si p.2)
theorem EN{P:gC}{w:gy}{K:gA}{mg mb:jy}{CX:CXT}{k:Nat}{fa a:fZ}{fd:kE}{x:Str}{sp:Sp}{s₁:gi}{vs:hJ}{ns:gS}{TB:List (Addr×Str)}
  (KX:K.In s₁.heap)(aj:s₁.heap.Ns mainGlobals mg)(hb:s₁.heap.Ns builtinsNs mb)(hbb: ∀x:Str,x≠"__name__"->mb x=bootBuiltins x)(hlim:s₁.heap.NoLimit)(hg:s₁.gens= #[])
  (hT: ∀p∈TB,s₁.heap.get? p.1=some (tabObj #[]))(eh: ∀p∈TB,K.lookup p.1=none)(ee: ∀p∈TB,isCodeTable s₁.heap p.1)(dk:(TB.map (·.1)).Nodup)(hba: ∀p∈TB,s₁.heap.BuiltinsAt mg p.1)
  (ha:s₁.heap.get? a=some {cls:= .type "list",data:= .seq vs.toArray})(hi:IntsAre vs ns)(hl:ns.length<=sizeLine)(hr:Room k callerA)
  (F: ∀base:Heap,K.In base->base.Ns mainGlobals mg->(∀p∈TB,base.BuiltinsAt mg p.1)->FnOk P w K mg base CX k fa fd [x] sp)(m7: ∀(s:gi) (u:gp),BindsTo s fd ⟨[u],[]⟩ [(x,u)])
  (bU: ∀H:Hp,OnlyT TB H->SqL K H a (ns.map V.int)->sp [.ref a] H (fun v H'=>v= .bl true/\ ∀p∈TB,H' p.1=some (si p.2)) fun _ _ _=>False)
  (hCX: ∀H e s',CX [] H s₁ (fun _ _ _=>False) e s'->False):
  codeAny (model P w) callerA (.call (.ref fa) ⟨[.ref a],[]⟩) (fun r s'=>r= .ok (.ret (.bool true))/\OldK s₁.heap s'.heap/\s'.os=s₁.os/\AllBare s'.gens) s₁:=by
 have rv:=wX hi;have lenV:=hi.length
 have eR: ∀p∈TB,p.1≠a:=fun p hp e=>by
  have:=hT p hp;rw[e,ha] at this;cases this
 have core: ∀H:Hp,OnlyT TB H->SqL K H a (ns.map V.int)->HOk P w H s₁.heap->(∀b,H b≠none->b=a\/ ∃p∈TB,b=p.1)->(H a≠none->K.lookup a=none)->
   codeAny (model P w) callerA (.call (.ref fa) ⟨[.ref a],[]⟩) (fun r s'=>r= .ok (.ret (.bool true))/\OldK s₁.heap s'.heap/\s'.os=s₁.os/\AllBare s'.gens) s₁:=by
  intro H hO hS hok hA hK;have t5: ∀{b:fZ} {o:Obj},s₁.heap.get? b=some o->H b=none->(wH s₁.heap H).get? b=some o:=fun e n=>Ic e n
  have aT: ∀{b:fZ} {o:Obj},s₁.heap.get? b=some o->(∀its n,o.data≠ .seq its n)->(∀ps,o.data≠ .fields ps)->H b=none:=fun {b o} e d d2=>by
   cases q:H b with
   |none=>rfl
   |some u=>
    rcases hA b (by rw[q];simp) with rfl|⟨p,hp,rfl⟩
    ·rw[ha] at e;cases e;exact absurd rfl (d _ _)
    ·rw[hT p hp] at e;cases e;exact absurd rfl (d2 _)
  have dA: ∀{b:fZ} {m:jy},s₁.heap.Ns b m->(wH s₁.heap H).Ns b m:=fun {b m} ⟨o,es,ep,e,d,r⟩=>⟨o,es,ep,t5 e (aT e (fun _ _ z=>by rw[d] at z;cases z) fun _ z=>by rw[d] at z;cases z),d,r⟩
  have hKb:K.In (wH s₁.heap H):=fun b o e=>t5 (KX b o e) (by
   cases q:H b with
   |none=>rfl
   |some u=>
    rcases hA b (by rw[q];simp) with rfl|⟨p,hp,rfl⟩
    ·rw[hK (by rw[q];simp)] at e;cases e
    ·rw[eh p hp] at e;cases e)
  have hBA: ∀p∈TB,(wH s₁.heap H).BuiltinsAt mg p.1:=fun p hp=>by
   obtain⟨bm,o,h1,h2,h3,h4,h5,h6,h7,h8⟩:=hba p hp;exact⟨bm,o,h1,h2,h3,h4,t5 h5 (aT h5 (fun _ _ z=>by rw[h8] at z;cases z) fun _ z=>by rw[h8] at z;cases z),h6,h7,h8⟩
  have hM:Mod K mg (wH s₁.heap H):=⟨hKb,dA aj,⟨mb,dA hb,hbb⟩,let⟨mc,h1,h2⟩:=hlim;⟨mc,dA h1,h2⟩⟩
  have e0:Env0 P w K mg (wH s₁.heap H) callerA [] s₁ H:=⟨rfl,hM,fun b o e=>J7 e,Nat.le_of_eq (EW _ _),trivial,fun b hb=>absurd (show b∈([]:List Addr) from hb) (by simp),hok,.of_eq hg⟩
  refine uz ((F _ hKb (dA aj) hBA).run callerA [] s₁ H ⟨[.ref a],[]⟩ [.ref a] [.ref a] _ _ hr e0 (m7 s₁ (.ref a)) (.cons rfl .nil) (bU H hO hS)) fun r s' h=>?_
  cases r with
  |error e=>exact(hCX H e s' h).elim
  |ok fl=>
   cases fl with
   |next=>exact False.elim h
   |brk=>exact False.elim h
   |cont=>exact False.elim h
   |ret u=>
    obtain⟨v,H',os,bare,un,hok',r',q,u7⟩:=h;subst q;obtain rfl:u=Value.bool true:=r'
    have tab: ∀p∈TB,∃ps,s'.heap.get? p.1=some (tabObj ps):=fun p hp=>by
     obtain⟨_,_,ps,_,e,_⟩:=(show ObjOk P w H' s'.heap p.1 (.tbl #[.str p.2 0]) from hok' _ _ (u7 p hp))
     exact⟨ps,e⟩
    have keep: ∀b o,s₁.heap.get? b=some o->(∀p∈TB,b≠p.1)->s'.heap.get? b=some o:=fun b o e n=>by
     cases q:H b with
     |none=>exact un.keep b o e q (by intro z;exact absurd (show b∈([]:List Addr) from z) (by simp)) (by simp)
     |some u=>
      rcases hO.one b with z|⟨ob,xs,z⟩|⟨qq,hm,z⟩
      ·rw[q] at z;cases z
      ·have z2:=un.frzs b ob _ z;obtain⟨e1,_⟩:=hok b _ z;obtain⟨e2,_⟩:=hok' b _ z2;rw[e] at e1;cases e1;exact e2
      ·exact absurd rfl (n _ hm)
    refine⟨rfl,⟨fun b o e=>?_,fun b o e=>?_⟩,os,bare⟩
    ·by_cases hb: ∃p∈TB,b=p.1
     ·obtain⟨p,hp,rfl⟩:=hb;obtain⟨ps,e2⟩:=tab p hp;rw[hT p hp] at e;cases e;refine .inr (.inl ⟨ee p hp,rfl,#[],ps,rfl,?_⟩);rw[e2];simp
     ·exact .inl (keep b o e fun p hp z=>hb ⟨p,hp,z⟩)
    ·by_cases hb: ∃p∈TB,b=p.1
     ·obtain⟨p,hp,rfl⟩:=hb;obtain⟨ps,e2⟩:=tab p hp;exact⟨_,e2⟩
     ·exact⟨o,keep b o e fun p hp z=>hb ⟨p,hp,z⟩⟩
 have bI: ∀{b q},TB.lookup b=some q->(b,q)∈TB:=fun h=>by
  revert h;generalize TB=l
  induction l with
  |nil=>intro h;simp at h
  |cons x l ih=>
   intro h;rw[lL] at h;split at h
   ·rename_i hb;cases h;rw[KI.mp hb];exact jg
   ·exact jf _ (ih h)
 have lkA: ∀p∈TB,TB.lookup p.1=some p.2:=by
  clear bI core eR bU eh ee hba F hT
  induction TB with
  |nil=>intro p hp;simp at hp
  |cons x l ih=>
   intro p hp;rw[ic,zL] at dk;rw[lL];rcases kb.mp hp with rfl|hp
   ·simp
   ·have:(p.1==x.1)=false:=by
     rw[beq_eq_false_iff_ne];exact fun e=>dk.1 (e▸uC hp)
    rw[this];exact ih dk.2 p hp
 have objT: ∀(H:Hp) (b:fZ) (q:Str),(b,q)∈TB->ObjOk P w H s₁.heap b (si q):=fun H b q hm=>⟨q,0,#[],rfl,hT _ hm,trivial,fun pos cv z=>by simp[codeAmong] at z⟩
 cases hk:K.lookup a with
 |some o=>
  have e:=KX a o hk;rw[ha] at e;cases e;refine core (fun b=>(TB.lookup b).map si) ⟨fun b=>?_,fun p hp=>by rw[lkA p hp];rfl⟩ (.inr ⟨_,vs.toArray,_,hk,rfl,rfl,rfl,by rw[iK,lenV];exact hl,by simpa using rv⟩) (fun b u z=>?_) (fun b z=>?_) (fun z=>?_)
  ·cases q:TB.lookup b with
   |none=>exact .inl rfl
   |some q'=>exact .inr (.inr ⟨q',bI q,rfl⟩)
  ·have z':(TB.lookup b).map si=some u:=z
   cases q:TB.lookup b with
   |none=>rw[q] at z';cases z'
   |some q'=>rw[q] at z';cases z';exact objT _ b q' (bI q)
  ·have z':(TB.lookup b).map si≠none:=z
   cases q:TB.lookup b with
   |none=>rw[q] at z';exact absurd rfl z'
   |some q'=>exact .inr ⟨_,bI q,rfl⟩
  ·have z':(TB.lookup a).map si≠none:=z
   cases q:TB.lookup a with
   |none=>rw[q] at z';exact absurd rfl z'
   |some q'=>exact absurd rfl (eR _ (bI q))
 |none=>
  have hat: ∀p∈TB,(if p.1=a then some (HO.frz {cls:= .type "list",data:= .seq vs.toArray} (.lst (ns.map V.int))) else(TB.lookup p.1).map si)=some (si p.2):=fun p hp=>by rw[gv (eR p hp),lkA p hp];rfl
  refine core (fun b=>if b=a then some (.frz {cls:= .type "list",data:= .seq vs.toArray} (.lst (ns.map V.int))) else(TB.lookup b).map si) ⟨fun b=>?_,hat⟩ (.inl (.inr ⟨{cls:= .type "list",data:= .seq vs.toArray},gq rfl⟩)) (fun b u z=>?_) (fun b z=>?_) fun _=>hk
  ·by_cases hb:b=a
   ·exact .inr (.inl ⟨_,_,gq hb⟩)
   ·cases q:TB.lookup b with
    |none=>exact .inl (by simp[hb,q])
    |some q'=>exact .inr (.inr ⟨q',bI q,by simp[hb,q]⟩)
  ·by_cases hb:b=a
   ·have z':=(gq hb).symm.trans z;cases z';subst hb;exact⟨ha,by rw[jF];exact hl,vs,_,rv,ha⟩
   ·have z':=(gv hb).symm.trans z
    cases q:TB.lookup b with
    |none=>rw[q] at z';cases z'
    |some q'=>rw[q] at z';cases z';exact objT _ b q' (bI q)
  ·by_cases hb:b=a
   ·exact .inl hb
   ·cases q:TB.lookup b with
    |none=>exact absurd (by simp[hb,q]) z
    |some q'=>exact .inr ⟨_,bI q,rfl⟩
end L2
namespace PX
open PySem PySem.Spec PyProof.Rows L2
theorem Kg{TB:List (Addr×Str)}{K:gA}{ev:EvF}{H:Hp}{a:fZ}{ns:gS}(hT: ∀p∈TB,H p.1=some (si p.2))(hS:SqL K H a (ns.map V.int)){o:Bool}{outs:Dn}(h:ev [(.lst (ns.map .int),false)]=some ((.bl true,o),outs)):spF K ev [.ref a] H (fun v H'=>v= .bl true/\ ∀p∈TB,H' p.1=some (si p.2)) fun _ _ _=>False:=by
 have no: ∀b,¬OwnA [some (V.ref a)] [some (D.lst (ns.map .int),false)] b:=fun b ⟨i,d,h1,h2⟩=>by
  cases i with
  |zero=>simp at h1
  |succ i=>simp at h1
 refine⟨fun _=>False,[(.lst (ns.map .int),false)],_,outs,⟨rfl,fun i d hd=>?_,fun i d hd=>?_,fun i j d e b h1=>?_,fun b z=>absurd z (no b),fun b z=>z.elim⟩,h,fun v H' P=>?_⟩
 ·cases i with
  |zero=>
   simp at hd;subst hd;refine⟨_,rfl,Rep.mkLst (a:=a) (xs:=ns.map V.int) ?_ (xh ns)⟩;exact hS.imp (fun z=>⟨z,fun z=>z.elim (no a) id⟩) id
  |succ i=>simp at hd
 ·cases i with
  |zero=>simp at hd
  |succ i=>simp at hd
 ·cases i with
  |zero=>simp at h1
  |succ i=>simp at h1
 ·refine⟨?_,fun p hp=>P.1.kp _ _ (hT p hp) (no _)⟩
  cases o with
  |false=>exact P.2.2.bl
  |true=>
   obtain⟨p,_,_,_,ok⟩:=P.2;exact ok.elim
end PX
namespace L2
open PySem PySem.Spec PyProof.Rows PySem.W
structure Fly(P:gC)(w:gy)(outer:List Env)(H:Hp)(s:gi)(C:fZ)(H':Hp)(ea:fZ)(s':gi)(h0 B:gz)(F:iW):Prop where
 os:s'.os=s.os
 bare:AllBare s'.gens
 un:Un (frs outer) [] H H' s.heap h0
 hok:HOk P w H' h0
 fr: ∀b∈F,H' b=none/\(b∈frs outer\/s.heap.objs.size<=b)
 st: ∀b o,h0.get? b=some o->b∉F->B.get? b=some o
 fl: ∃a0,Heap.FlyingW B outer ea (.ref C) a0 s'.heap
 up:h0.UpToSlots s'.heap
 ne:h0.get? ea=none
def CXx(P:gC)(w:gy):CXT:=fun outer H s E e s'=> ∃C H' ea h0 B F,e= .ref ea/\Fly P w outer H s C H' ea s' h0 B F/\E (.ref C) none H'
section
variable {P:gC}{w:gy}{outer:List Env}{H H':Hp}{s s':gi}{C ea:fZ}{h0 B h':gz}{F:iW}
theorem Fly.end(f:Fly P w outer H s C H' ea s' h0 B F)(hf: ∀b∈frs outer,∃o,s.heap.get? b=some o/\(∀vs,o.data≠ .fields vs)/\H b=none)(hB:B.StaysIn h')(hu:h0.UpToSlots h'):Un (frs outer) [] H H' s.heap h'/\HOk P w H' h':=by
 have keep: ∀b o,h0.get? b=some o->b∉F->h'.get? b=some o:=fun b o e n=>hB b o (f.st b o e n)
 have nF: ∀b o,s.heap.get? b=some o->b∉frs outer->b∉F:=fun b o e n z=>by
  rcases(f.fr b z).2 with q|q
  ·exact n q
  ·exact absurd (iC e) (I9.mpr q)
 refine⟨⟨fun b o e n hb hx=>keep b o (f.un.keep b o e n hb hx) (nF b o e hb),fun b o e n hb hx=>?_,f.un.free,fun b o e hx=>?_,f.un.tups,f.un.frzs,f.un.tbls⟩,fun a o e=>?_⟩
 ·obtain⟨o2,e2,nd,_⟩:=hf b hb;rw[e] at e2;cases e2;obtain⟨sl,e1⟩:=f.un.slot b o e n hb hx;obtain⟨m9,e3⟩:=hu b _ e1 nd;exact⟨m9,e3⟩
 ·by_cases hb:b∈frs outer
  ·obtain⟨o2,e2,nd,n⟩:=hf b hb;rw[e] at e2;cases e2;obtain⟨sl,e1⟩:=f.un.slot b o e n hb hx;obtain⟨m9,e3⟩:=hu b _ e1 nd;exact⟨_,e3⟩
  ·obtain⟨o',e1⟩:=f.un.there b o e hx;exact⟨o',keep b o' e1 (nF b o e hb)⟩
 ·refine(f.hok a o e).stay (fun b u hb q=>keep b u q fun z=>?_) (fun _ q=>q) fun _ _ q=>q;have:=(f.fr b z).1;rcases hb with rfl|hb
  ·rw[e] at this;cases this
  ·rw[hb] at this;cases this
end
section
variable {X:Cx}{pins:gO}{σ:St}{H:Hp}{s s':gi}{C ea:fZ}
theorem Inv.frsOk(I:Inv X pins σ H s): ∀b∈frs X.stack,∃o,s.heap.get? b=some o/\(∀vs,o.data≠ .fields vs)/\H b=none:=fun b hb=>by
 obtain⟨_,o,ho,hd⟩:=I.stack.mem hb;exact⟨o,ho,hd,I.stkFree b hb⟩
def XeOk(X:Cx)(P:gC)(w:gy)(outer:List Env)(H0:Hp)(s0:gi)(E:XK):Prop:=X.prog=P/\X.w=w/\X.stack=X.env::outer/\X.outer=outer/\X.H₀=H0/\X.s₀=s0/\X.ex=[]/\X.env.frame=some X.env.locals/\
 ∀e s',wpAny (model P w) X.A (leaving X.env e) (fun _ v5=>CXx P w outer H0 s0 E e v5) (fun e' v5=>CXx P w outer H0 s0 E e' v5) s'->X.xe e s'
theorem rR{P:gC}{w:gy}{K:gA}{mg:jy}{base:gz}{N:gG}{qual:Str}{scope:iq}{f:fZ}{cd:gp}{A:gB}{outer:List Env}{s:gi}{H:Hp}{E:XK}:
  XeOk (my (CXx P w) P w K mg base N qual scope f cd A outer s H E) P w outer H s E:=⟨rfl,rfl,rfl,rfl,rfl,rfl,rfl,rfl,fun _ _ h=>h⟩
variable {P:gC}{w:gy}{outer:List Env}{H0:Hp}{s0:gi}{E:XK}
theorem Em{H1:Hp}{h0:gz}{L:fZ}(a:Un (frs outer) [] H0 H s0.heap s.heap)(b:Un (L::frs outer) [] H H1 s.heap h0)(hL:s0.heap.objs.size<=L):Un (frs outer) [] H0 H1 s0.heap h0 where
 keep:=fun c o q n hc hx=>b.keep c o (a.keep c o q n hc hx) (a.free c o q n hx) (fun z=>(kb.mp z).elim (fun z=>by subst z;exact absurd (iC q) (I9.mpr hL)) hc) hx
 slot:=fun c o q n hc hx=>by
  obtain⟨sl,e1⟩:=a.slot c o q n hc hx;obtain⟨dy,e2⟩:=b.slot c _ e1 (a.free c o q n hx) (jf _ hc) hx;exact⟨dy,e2⟩
 free:=fun c o q n hx=>by
  obtain⟨o',e1⟩:=a.there c o q hx;exact b.free c o' e1 (a.free c o q n hx) hx
 there:=fun c o q hx=>by
  obtain⟨o',e1⟩:=a.there c o q hx;exact b.there c o' e1 hx
 tups:=fun c xs q=>b.tups c xs (a.tups c xs q)
 frzs:=fun c o xs q=>b.frzs c o xs (a.frzs c o xs q)
 tbls:=fun c ps q=>by
  obtain⟨m1,e1⟩:=a.tbls c ps q;obtain⟨m2,e2⟩:=b.tbls c _ e1;exact⟨m1++m2,by rw[e2,yI]⟩
theorem vS{env:Env}{L:fZ}(h:env.frame=some L):frs (env::outer)=L::frs outer:=by unfold frs;rw[yJ,h]
theorem XeOk.made(x:XeOk X P w outer H0 s0 E)(I:Inv X pins σ H s){h':gz}{args:hJ}(hx:Heap.MadeExcOf s.heap h' ea (.ref C) args)(q:E (.ref C) none H):X.xe (.ref ea) {s with heap:=h'}:=by
 obtain⟨rfl,rfl,stk,ho,rfl,rfl,hex,hf,cW⟩:=x;refine cW _ _ (wpAny_leaves_madeW (base:=hideAll s.heap (frs X.stack)) (h:=s.heap) (L:=X.env.locals) (I.ok.frames.trans (by rw[stk])) hf (fun b o e=>of_hideAll _ e) ?_ hx fun cB t fl _ _ up=>?_)
 ·rw[<-stk];exact funFrames_hide I.stack fun env he a ha=>Nu.mpr ⟨env,he,ha⟩
 ·refine⟨C,H,ea,s.heap,_,frs X.stack,rfl,⟨I.os,I.bare,?_,I.hok,fun b hb=>⟨I.stkFree b hb,?_⟩,fun b o e n=>hideAll_get _ e n,⟨_,fl⟩,(Heap.UpToSlots.of_keeps hx.keeps).trans up,hx.new⟩,q⟩
  ·have:=I.base;unfold Cx.fs at this
   rwa [ho,hex] at this
  ·rw[stk,vS hf] at hb;rcases kb.mp hb with rfl|hb
   ·exact .inr I.ok.above
   ·exact .inl hb
theorem XeOk.pass(x:XeOk X P w outer H0 s0 E):zJ (CXx P w) X E:=fun pins σ H s e s' I h=>by
 obtain⟨rfl,rfl,stk,ho,rfl,rfl,hex,hf,cW⟩:=x;obtain⟨C,H',ea,h0,B,F,rfl,f,q⟩:=h;obtain⟨a0,fl⟩:=f.fl;rw[stk] at fl;refine cW _ _ (wpAny_leaves_onW (L:=X.env.locals) (I.ok.frames.trans (by rw[stk])) hf fl fun h' bM up=>?_);refine⟨C,H',ea,h0,B,F,rfl,⟨f.os.trans I.os,f.bare,?_,f.hok,fun b hb=>⟨(f.fr b hb).1,?_⟩,f.st,⟨a0,bM⟩,f.up.trans up,f.ne⟩,q⟩
 ·have a:=I.base;unfold Cx.fs at a;rw[ho,hex] at a;have b:=f.un;rw[stk,vS hf] at b;exact Em a b I.ok.above
 ·rcases(f.fr b hb).2 with z|z
  ·rw[stk,vS hf] at z;rcases kb.mp z with rfl|z
   ·exact .inr I.ok.above
   ·exact .inl z
  ·exact .inr (mE I.sz z)
end
abbrev veB:List Value:=[.type "ValueError",.type "Exception",.type "BaseException",.type "object"]
theorem Kw{K:Frag}{h:gz}{C:fZ}{bmB:hJ}{eI:String}(KX:K.In h)(q:excIn K C bmB eI=true):
  ∃bm N nm qn bs hd sn sub ab col dd k0 k1 k2 k3 k5 mN,h.get? C=some (excClassObj nm qn C N bs bm hd sn sub ab col dd k0 k1 k2 k3 k5 eI)/\h.Ns N mN/\mN "__init__"=none/\OwnTail h bmB bm:=by
 unfold excIn at q;split at q
 case h_2=>cases q
 rename_i dd cd sl lk;split at q
 case h_2=>cases q
 rename_i C2 bm k0 k1 k2 k3 n k5 em es;rw[lE,lE,lE,lE,lE] at q;obtain⟨⟨⟨⟨⟨q1,q2⟩,q3⟩,q4⟩,q5⟩,q6⟩:=q;cases KI.mp q1;cases KI.mp q2;obtain⟨nm,bs,mro,ns,qn,hd,sn,sub,ab,col,del⟩:=cd;have e1:mro= .ref C::bm:=em;have e2:del=false:=by simpa using q3
 obtain⟨sl⟩:=sl;have e3:sl=[k0,k1,k2,k3,some (.builtin eI),k5]:=es;subst e1 e2 e3;exact⟨bm,ns,nm,qn,bs,hd,sn,sub,ab,col,dd,k0,k1,k2,k3,k5,_,KX _ _ lk,.of_isNs (isNs_of_in KX q5),nsMap_none_of_in KX q5 (KI.mp q6),tail_of_in KX q4⟩
section
variable {X:Cx}{P:gC}{w:gy}{outer:List Env}{H0:Hp}{s0:gi}{E:XK}{x:Str}{C:fZ}{a:gm}{ta:TE}{np f9 pos:Pos}
theorem Hf(xk:XeOk X P w outer H0 s0 E)(hc:X.calm=true)(hK:excIn X.K C veB "ValueError.__new__"=true)(hm:X.mg x=some (.ref C))(hg:Gl X x)(ha:PE X a ta)(hd:(x==("__debug__":Str))=false)
  (hs:starEach [a] X.env=[(false,eval a X.env)]):PS X (.Raise (some (.Call (.Name x np) [a] [] f9)) none pos) (fun D σ H=>ta σ H fun _ H1=>E (.ref C) none H1):=by
 intro pins s σ H D I h;obtain⟨bm,N,nm,qn,bs,cM,sn,sub,ab,col,dd,k0,k1,k2,k3,k5,mN,h1,h2,h3,h4⟩:=Kw I.ok.mod.kin hK;have hp:(backTo f9 (starEach [a] X.env)).any (·.1)=false:=by rw[hs];rfl
 refine wpAny_Raise_call_subT (nm:=nm) (q:=qn) (N:=N) (bs:=bs) (hdct:=cM) (sn:=sn) (sub:=sub) (ab:=ab) (col:=col) (dd:=dd) (k0:=k0) (k1:=k1) (k2:=k2) (k3:=k3) (k5:=k5) PySem.F.excBase_ValueError (h4.hasType (by decide)) (I.ok.hd hc) hp h3 (pB I hg hm ⟨rfl,?_⟩ hd);rw[hs];refine F1 (BR (thn (ha pins s σ H _ I h) fun u s1 ⟨v,H1,I1,r1,q1⟩=>BU ⟨rfl,(show 1<=sizeLine by decide),I1.bk _ _ h1,h2.keeps I1.bk,h4.keeps I1.bk,fun h' e mk=>xk.made I1 mk q1⟩))
end
theorem qB{a b:Int}{t u:Nat}{c:gp}: ∀l:List Value,TriplesOk l->TriplesOk (l++[.int a t,.int b u,c])
 |[],_=>trivial
 | .int _ _:: .int _ _::_::hU,h=>qB hU h
theorem wo{a b:Int}{t u:Nat}{pos:Pos}{c cv:gp}: ∀l:List Value,TriplesOk l->codeAmong pos (l++[.int a t,.int b u,c])=some cv->codeAmong pos l=some cv\/cv=c
 |[],_,h=>by
  simp only[ur,codeAmong] at h;split at h
  ·exact .inr (iw h).symm
  ·cases h
 | .int i _:: .int j _::d::hU,h0,h=>by
  simp only[List.cons_append,codeAmong] at h ⊢;split at h
  ·rename_i q;rw[gq q];exact .inl h
  ·rename_i q;rw[gv q];exact wo hU h0 h
structure LamAt(q:Str)(params:Arguments)(body:gm)(scope:iq)(b9:jl)(H:Hp)(h:gz)(fl:fZ):Prop where
 fn: ∃pm c' m8,h.get? fl=some (kla_obj "<lambda>" q params body scope b9 pm c' m8)/\ ∃ob u vs t,H c'=some (.frz ob u)/\ob.data= .fields vs/\vs[1]?=some (.str q t)
 un:H fl=none
section
variable {X:Cx}{pins:gO}{σ:St}{H:Hp}{s:gi}{P c:fZ}{params:Arguments}{body:gm}{scope:iq}{b9:jl}{pos:Pos}
theorem K5{h:gz}{a:fZ}(e:h.objs.size<=a):h.get? a=none:=by
 cases q:h.get? a with
 |none=>rfl
 |some o=>exact absurd (iC q) (I9.mpr e)
theorem HS{M:Model}{A:gB}{E:gU}{Q:gU}(I:Inv X pins σ H s){more:jI}(hP:H P=some (.tbl (#[.str (X.env.qual++"<lambda>") 0]++more)))(hc:X.env.code= .ref c)(C:CodeHd X.base c P)(hB:X.base.BuiltinsAt X.mg P)(fk:mainGlobals≠P)
  (l8:closureFor scope X.env=pure b9)(aK:defaultsOf params X.env=([],[]))
  (k: ∀s1 H1 fl,Inv X pins σ H1 s1->(∀b o,H b=some o->H1 b=some o)->LamAt (X.env.qual++"<lambda>") params body scope b9 H1 s1.heap fl->(∀b o,s.heap.get? b=some o->H b=none->s1.heap.get? b=some o)->(∀b o,s.heap.get? b=some o->H b=none->H1 b=none)->s.heap.get? fl=none->Q (.ref fl) s1):
  wpAny M A (eval (.Lambda params body scope pos) X.env) Q E s:=by
 refine kla_eval aK ?_;obtain⟨qq,tq,ps,dO,hPo,ht,hm⟩:=(show ObjOk X.prog X.w H s.heap P (.tbl (#[.str (X.env.qual++"<lambda>") 0]++more)) from I.hok P _ hP)
 have hqq:qq=X.env.qual++"<lambda>":=by
  rw[Array.getElem?_append_left (by simp)] at dO;simp at dO;exact dO.1.symm
 subst hqq;have r9:s.heap.BuiltinsAt X.mg P:=let⟨bm,o,h1,h2,h3,h4,h5,h6⟩:=hB;⟨bm,o,h1,h2,h3,h4,I.bk _ _ h5,h6⟩
 have hg:s.heap.Ns mainGlobals X.mg:=I.ok.mod.glob.keeps I.bk
 cases hf:codeAmong pos ps.toList with
 |some cv=>
  refine kla_makeFunctionHit l8 I.ok.glob hg hc (C.keeps I.bk) hPo ht hf r9 fun m8 h' tk kp sz=>?_;obtain⟨c',ob,u,vs,t,rfl,h2,h3,h4⟩:=hm pos cv hf;have cF: ∀b o,s.heap.get? b=some o->(h'.push (kla_obj "<lambda>" (X.env.qual++"<lambda>") params body scope b9 ((X.mg "__name__").getD .none) c' m8)).get? b=some o:=fun b o e=>iM _ (kp b o e);exact k _ H _ (I.kept (t':=tk) cF) (fun _ _ e=>e) ⟨⟨_,c',m8,jx _ rfl,ob,u,vs,t,h2,h3,h4⟩,I.hok.fresh sz⟩ (fun b o e _=>cF b o e) (fun _ _ _ n=>n) (K5 sz)
 |none=>
  refine kla_makeFunction l8 I.ok.glob hg hc (C.keeps I.bk) hPo ht hf fk r9 fun c' m8 h' tk ex c1 c2 cr tb=>?_;obtain⟨c0,oc,vs,t,ec,cZ,cM,hq⟩:=cr;cases ec;have nc:H c'=none:=I.hok.fresh c1;have kp: ∀b o,b≠P->s.heap.get? b=some o->(h'.push (kla_obj "<lambda>" (X.env.qual++"<lambda>") params body scope b9 ((X.mg "__name__").getD .none) c' m8)).get? b=some o:=fun b o n e=>iM _ (ex b o n e);have up: ∀b o,H b=some o->upd H c' (.frz oc (.own 0)) b=some o:=fun b o e=>by rw[gK (jv e nc)];exact e
  have nP: ∀b,H b=none->b≠P:=fun b n z=>by rw[z,hP] at n;cases n
  have h'P:=iM (kla_obj "<lambda>" (X.env.qual++"<lambda>") params body scope b9 ((X.mg "__name__").getD .none) c' m8) tb
  have un:Un (frs X.stack) [] H (upd H c' (.frz oc (.own 0))) s.heap (h'.push (kla_obj "<lambda>" (X.env.qual++"<lambda>") params body scope b9 ((X.mg "__name__").getD .none) c' m8)):=
   ⟨fun b o e n _ _=>kp b o (nP b n) e,fun b o e n _ _=>⟨o.slots,kp b o (nP b n) e⟩,fun b o e n _=>by rw[gK (iF (lF (iC e) c1))];exact n,fun b o e _=>by
    by_cases z:b=P
    ·subst z;exact⟨_,h'P⟩
    ·exact⟨o,kp b o z e⟩,fun b xs e=>up b _ e,fun b o xs e=>up b _ e,fun b ps e=>⟨#[],by rw[up b _ e];simp⟩⟩
  have hok:HOk X.prog X.w (upd H c' (.frz oc (.own 0))) (h'.push (kla_obj "<lambda>" (X.env.qual++"<lambda>") params body scope b9 ((X.mg "__name__").getD .none) c' m8)):=fun b u e=>by
   by_cases hb:b=c'
   ·subst hb;rw[gQ] at e;cases e;exact⟨iM _ cZ,⟨oc,iM _ cZ⟩⟩
   ·rw[gK hb] at e;by_cases hbP:b=P
    ·subst hbP;rw[hP] at e;cases e;refine⟨_,tq,_,dO,h'P,?_,fun pos' cv z=>?_⟩
     ·rw[Ft];exact qB _ ht
     ·rw[Ft] at z;rcases wo _ ht z with z|z
      ·obtain⟨c2,ob,u,vs,t,r1,r2,r3,r4⟩:=hm pos' cv z;exact⟨c2,ob,u,vs,t,r1,up _ _ r2,r3,r4⟩
      ·exact⟨c',oc,_,vs,t,z,gQ,cM,hq⟩
    ·refine(I.hok b u e).stay (fun d w hd q=>kp d w (fun z=>?_) q) (fun d q=>up d _ q) (fun d xs q=>up d _ q) fun d _ _ q=>up d _ q;subst z;rcases hd with z|z
     ·exact hbP z.symm
     ·rw[hP] at z;cases z
  have I1:Inv X pins σ (upd H c' (.frz oc (.own 0))) {s with heap:=h'.push (kla_obj "<lambda>" (X.env.qual++"<lambda>") params body scope b9 ((X.mg "__name__").getD .none) c' m8),toks:=tk}:=I.call (g':=s.gens) (d':=s.drawn) (t':=tk) un hok I.bare fun b hb=>absurd hb (by simp);refine k _ _ _ I1 up ⟨⟨_,c',m8,jx _ rfl,oc,_,vs,t,gQ,cM,hq⟩,?_⟩ (fun b o e n=>kp b o (nP b n) e) (fun b o e n=>un.free b o e n (by simp)) (K5 (uB (yi c1 c2)));rw[gK (mC c2)];exact I.hok.fresh (uB (yi c1 c2))
end
def vZ(q:Str)(scope:iq)(L fl:fZ)(cd:gp)(b9:jl):Env:=
 newEnv scope L mainGlobals b9 (q++".<locals>.") (some fl) cd none builtinsNs
def oP(CX:CXT)(P:gC)(w:gy)(K:Frag)(mg:jy)(base:gz)(N:gG)(q:Str)(scope:iq)(fl:fZ)(cd:gp)(b9:jl)(A:gB)(outer:List Env)(s:gi)(H:Hp)(E:XK):Cx where
 prog:=P
 w:=w
 K:=K
 mg:=mg
 base:=base
 A:=A.deeper (vZ q scope s.heap.objs.size fl cd b9)
 N:=N
 s₀:=s
 H₀:=H
 env:=vZ q scope s.heap.objs.size fl cd b9
 outer:=outer
 stack:=vZ q scope s.heap.objs.size fl cd b9::outer
 ex:=[]
 calm:=true
 fn:=fun _=>false
 pn:=[]
 xe:=fun e s'=>wpAny (model P w) (A.deeper (vZ q scope s.heap.objs.size fl cd b9)) (leaving (vZ q scope s.heap.objs.size fl cd b9) e) (fun _ v5=>CX outer H s E e v5) (fun e' v5=>CX outer H s E e' v5) s'
structure LamScope(scope:iq):Prop where
 kind:scope.kind= .function
 co:scope.isCoroutine=false
 gen:scope.isGenerator=false
 cell: ∀y∈scope.names,y.2≠ .cell
structure LamCells(N:gG)(scope:iq)(b9:jl)(σ:St)(H:Hp)(h:gz):Prop where
 inj: ∀x y c,b9.lookup x=some c->b9.lookup y=some c->x=y
 has: ∀x,scope.names.lookup x=some .free-> ∃c,b9.lookup x=some c
 cell: ∀x c,b9.lookup x=some c->(∃v,h.IsCell c v)/\H c=none
 val: ∀(i:Nat) (x:Str) (v:V),N[i]?=some x->σ[i]?=some (some v)->scope.names.lookup x=some .free/\ ∃c u,b9.lookup x=some c/\h.IsCell c (some u)/\RelV v u
 len:σ.length=N.length
section
variable {CX:CXT}{P:gC}{w:gy}{K:Frag}{mg:jy}{base:gz}{N:gG}{q:Str}{scope:iq}{fl:fZ}{cd:gp}{b9:jl}{A:gB}{outer:List Env}{s:gi}{H:Hp}{E:XK}{σ:St}
theorem Kl(S:LamScope scope)(hd:A.handled=none)(e0:Env0 P w K mg base A outer s H)(C:LamCells N scope b9 σ H s.heap){h1:gz}{t1:Nat}(aj:h1.Ns s.heap.objs.size (fun _=>none))(hk: ∀b o,s.heap.get? b=some o->h1.get? b=some o):
  Inv (oP CX P w K mg base N q scope fl cd b9 A outer s H E) [] σ H {s with heap:=h1,toks:=t1}:=by
 have aT: ∀b:Addr,b∉(oP CX P w K mg base N q scope fl cd b9 A outer s H E).ex:=fun b z=>absurd (show b∈([]:List Addr) from z) (by simp)
 refine⟨⟨e0.mod,S.kind,rfl,rfl,ig _,C.inj,fun y hy=>?_,fun y c z _=>absurd z (by simp[oP]),fun _=>hd,F9 e0.frames,.inr ⟨rfl,rfl⟩,fun b z=>absurd z (aT b),e0.bs,e0.bsz,fun b _ _=>aT b,fun b z=>absurd z (aT b),e0.funs,e0.frf⟩,
  rfl,e0.bare,Un.kept hk,⟨_,aj,fun i y v h1 h2 _=>?_⟩,fun y c h=>?_,e0.hok.fresh (ig _),fun y c h=>(C.cell y c h).2,fun p hp=>absurd (show p∈([]:List (Addr×Obj)) from hp) (by simp),e0.hok.kept hk,C.len⟩
 ·have hy:scope.names.lookup y=some .cell\/scope.names.lookup y=some .free:=hy;rcases hy with hy|hy
  ·exact absurd rfl (S.cell _ (mV hy))
  ·exact C.has y hy
 ·obtain⟨hf,c,u,hc,i8,r⟩:=C.val i y v h1 h2;exact⟨u,r,.inr ⟨.inr hf,c,hc,i8.keeps hk⟩⟩
 ·obtain⟨⟨v,hv⟩,_⟩:=C.cell y c h;exact⟨v,hv.keeps hk⟩
theorem Kh{params:Arguments}{body:gm}{k:Nat}{t:TE}{Q:VK}(S:LamScope scope)(hr:Room (k+1) A)(e0:Env0 P w K mg base A outer s H)(C:LamCells N scope b9 σ H s.heap)(L:LamAt q params body scope b9 H s.heap fl)
  (m7: ∀pm c' m8,bindArgs (kla_fn "<lambda>" q params body scope b9 pm (.ref c') m8) ⟨[],[]⟩=pure [])
  (hb: ∀c':Addr,Room k (A.deeper (vZ q scope s.heap.objs.size fl (.ref c') b9))->PE (oP CX P w K mg base N q scope fl (.ref c') b9 A outer s H E) body t)(ht:t σ H Q):
  codeAny (model P w) A (.call (.ref fl) ⟨[],[]⟩) (CR CX outer P w H s Q E) s:=by
 obtain⟨pm,c',m8,ho,ob,u,vs,tk,h1,h2,h3⟩:=L.fn;have l5:s.heap.CodeRec (.ref c') q:=⟨c',ob,vs,tk,rfl,(e0.hok c' _ h1).1,h2,h3⟩
 have lim:s.heap.NoLimit:=e0.mod.nolimit.keeps fun b o e=>(e0.bs b o e).1;refine kla_callFunE hr.depth ho rfl S.co S.gen rfl l5 ?_;rw[m7];refine gF (wpAny_newFunctionEnv S.cell (by intro y hy;simp at hy) (fun h₁ aj bh=>⟨lim.fresh _ bh,?_⟩) S.kind);show codeAny _ _ (.expr body (vZ q scope s.heap.objs.size fl (.ref c') b9)) _ _;have hk₁: ∀b o,s.heap.get? b=some o->h₁.get? b=some o:=fun b o e=>bh.extBut b o (iF (iC e)) (iM _ e);have I:=Kl (CX:=CX) (q:=q) (fl:=fl) (cd:= .ref c') (E:=E) (t1:=s.toks+([]:List (Str×Value)).length) S hr.hd e0 C (by simpa using aj) hk₁;refine kla_codeExpr (lM (hb c' (hr.deeper _) [] _ σ H Q I ht) (fun v s' hs=>?_) fun e s' hs=>hs);obtain⟨x,H',J,rv,qq⟩:=hs;exact⟨x,H',J.os,J.bare,J.base,J.hok,rv,qq⟩
end
open PySem.Calls Builtin Builtin.ObjectAttr Builtin.Getset_descriptor
structure ExcK(K:Frag)(C:fZ):Prop where
 ga:findIn K (.ref C) "__getattribute__"=some (some (.builtin "BaseException.__getattribute__"))
 gb:findIn K (.ref C) "__getattr__"=some none
 mrB:mroIn K C (.type "BaseException")=some true
 dct:hasDictIn K C=true
 fnd:findIn K (.ref C) "__class__"=some (some (.builtin "object.__class__"))
 spc:specialIn K (.builtin "object.__class__") "__get__"=some (some (.builtin "getset_descriptor.__get__"))
 tks:takesIn K (.builtin "object.__class__")=some true
 mro:mroIn K C (.type "object")=some true
section
variable {K:Frag}{C x:fZ}{o:Obj}
theorem Io{M:Model}{h:gz}(Z:ExcK K C)(X:K.In h):Looks M h (find (.ref x) (.ref C) "__class__") (.bind (.builtin "getset_descriptor.__get__") (.builtin "object.__class__")):=by
 have L3:=looks_takesIn (M:=M) X Z.tks;exact(looks_findIn X Z.fnd).andThen ((show Looks M h (getOf (some (.builtin "object.__class__"))) _ from looks_specialIn X Z.spc).andThen ((show Looks M h (dataDescriptor? (some (.builtin "object.__class__")) (some (.builtin "getset_descriptor.__get__"))) (some (.builtin "getset_descriptor.__get__",.builtin "object.__class__")) from L3.andThen .now).andThen (Looks.tag .now)))
theorem HU(Z:ExcK K C)(hc:o.cls= .ref C):KitX K (.ref x) (.ref C) fun h=>h.get? x=some o:=by
 have ty: ∀(M:Model) (h:gz),h.get? x=some o->Looks M h (typeOf (.ref x)) (.ref C):=fun M h e=>hc▸(Looks.ld e).andThen .now;obtain⟨cdD,fE,_⟩:=any_some Z.dct;unfold clsIn at fE;split at fE
 case h_2=>cases fE
 rename_i c' d' cd' dy ho;refine⟨fun M h _ e=>ty M h e,fun M h X _=>?_,fun h tp dd its n sl X aE=>?_,fun {prog w A E Q s} X e k=>?_⟩
 ·intro A' Q' E' s' kk q;unfold isType loadHead;exact gk (wpAny_loadPart (kk _ _ (X _ _ ho)) (gF q))
 ·refine Bool.eq_false_iff.mpr fun q=>?_;have e:C=tp:=Value.ref.inj (KI.mp q);subst e;have z:=(X _ _ ho).symm.trans aE;cases z
 ·obtain⟨hh,g,d,t,os⟩:=s;have T0:=ty (model prog w) hh e;have G0:=looks_findIn (M:=model prog w) X Z.ga;have G1:=looks_findIn (M:=model prog w) X Z.gb;have F0:=Io (x:=x) (M:=model prog w) Z X;have M0:=looks_mroIn (M:=model prog w) X Z.mro;unfold getAttr? getAttrBy? getAttrBy;refine gk (wpAny_mkText (gk (sM (mX (gk (T0.at (gk (G0.at ?_))))))));have MB:=looks_mroIn (M:=model prog w) X Z.mrB;have hx2:(Value.builtin "BaseException.__getattribute__"==Value.builtin "object.__getattribute__")=false:=by decide+kernel
  show wpAny _ _ (if onTheHeap (Value.ref C)&&Value.builtin "BaseException.__getattribute__"==Value.builtin "object.__getattribute__" then _ else getAttrByItsOwn _ _ _ _ _ _) _ _ _;rw[gv (by rw[hx2];simp)];unfold getAttrByItsOwn;refine gk ((show Looks _ _ (hookBefore (.ref C)) none from G1).at (gk (sM (mX ?_))));show wpAny _ _ (boundAndCalled (.builtin "BaseException.__getattribute__") (.ref x) (.str "__class__" _)) _ _ _;unfold boundAndCalled;rw[show bindSpecial (.builtin "BaseException.__getattribute__") (.ref x)=pure (.builtin "BaseException.__getattribute__",[.ref x]) from Nx.ga.bind _];refine gk (gF (yE (Fs Nx.ga.plain F.entry_bexc_ga ?_)));have hk:builtinKind "BaseException.__getattribute__"=some .slot:=by decide+kernel
  have hsplit:splitId "BaseException.__getattribute__"=some ("BaseException","__getattribute__"):=by decide+kernel
  have ha:=F.args_bexc_ga (.ref x) (.str "__class__" t);simp only[checkBuiltinCall,hk,hsplit];refine gk ?_;unfold isInstance
  repeat lk
  refine wpAny_run (h:=none) (c:= .call (.builtin "getset_descriptor.__get__") ⟨[.builtin "object.__class__",.ref x,.ref C],[]⟩) ?_;refine Fs KF.slot_gs.plain KF.entry_gs (KF.slot_gs.check _ _ _ _ _ _ _ _ (show Shared.TypeIs _ (.builtin "object.__class__") "getset_descriptor" from KF.type_class) (KF.args_gs _ _ _) ?_);unfold Builtin.«getset_descriptor.__get__» descrGet;rw[dga_obj];refine gk (gF ?_);unfold descrGetter descrCheckInstance descrNameAndClass isInstance;simp only[KF.owner_class]
  repeat lk
  refine⟨Code.quiet_builtin _ (by decide+kernel),rF KF.entry_class ?_⟩;unfold Builtin.«object.__class__» shownTypeOf
  repeat lk
  exact k
end
section
variable {X:Cx}{pins:gO}{σ σ':St}{H:Hp}{s:gi}{a:fZ}{o:Obj}{h':gz}
theorem Inv.track(I:Inv X pins σ H s)(hn:H a=none)(h0:X.s₀.heap.get? a=none)(ha:s.heap.get? a=some o)(hc: ∀v,o.data≠ .cell v)(hl:a≠X.env.locals)(hp: ∀p∈X.pn++pins,p.1≠a):Inv X pins σ (upd H a (.frz o (.own 0))) s:=by
 have up: ∀b u,H b=some u->upd H a (.frz o (.own 0)) b=some u:=fun b u e=>by rw[gK (jv e hn)];exact e
 refine⟨I.ok,I.os,I.bare,⟨I.base.keep,I.base.slot,fun b ob e n hx=>?_,I.base.there,fun b xs e=>up _ _ (I.base.tups b xs e),fun b ob u e=>up _ _ (I.base.frzs b ob u e),fun b ps e=>?_⟩,I.loc,I.cell,?_,fun x c hx=>?_,fun p hm=>?_,fun b u e=>?_,I.len⟩
 ·rw[gK (fun z=>by subst z;rw[h0] at e;cases e)];exact I.base.free b ob e n hx
 ·obtain⟨m,e1⟩:=I.base.tbls b ps e;exact⟨m,up _ _ e1⟩
 ·rw[gK (lN hl)];exact I.free
 ·rw[gK (fun z=>?_)];exact I.freeC x c hx;obtain⟨v,ob,e1,e2⟩:=I.cell x c hx;subst z;rw[ha] at e1;cases e1;exact hc v e2
 ·obtain⟨e1,e2,e3⟩:=I.pin p hm;exact⟨e1,by rw[gK (hp p hm)];exact e2,e3⟩
 ·by_cases hb:b=a
  ·subst hb;rw[gQ] at e;cases e;exact⟨ha,⟨o,ha⟩⟩
  ·rw[gK hb] at e;exact(I.hok b u e).stay (fun _ _ _ q=>q) (fun c q=>up c _ q) (fun c xs q=>up c _ q) fun c _ _ q=>up c _ q
theorem Inv.names(I:Inv X pins σ H s){t':Nat}(hs:Heap.SameBut X.env.locals s.heap h')(hl:σ'.length=σ.length)(w: ∀(i:Nat) v,σ'[i]?=some (some v)->σ[i]?=some (some v))
  (hm: ∀m,s.heap.Ns X.env.locals m-> ∃m',h'.Ns X.env.locals m'/\ ∀(i:Nat) x v,X.N[i]?=some x->σ'[i]?=some (some v)->m' x=m x):Inv X pins σ' H {s with heap:=h',toks:=t'}:=by
 obtain⟨m,hn,hl'⟩:=id I.loc;obtain⟨m',cf,hmm⟩:=hm m hn;have oth: ∀b ob,b≠X.env.locals->s.heap.get? b=some ob->h'.get? b=some ob:=fun b ob n e=>(hs.2 b n).trans e;have nl: ∀{b ob},X.s₀.heap.get? b=some ob->b≠X.env.locals:=fun e=>iF (lF (iC e) I.ok.above);refine⟨I.ok,I.os,I.bare,⟨fun b ob e n hb hx=>oth b ob (nl e) (I.base.keep b ob e n hb hx),fun b ob e n hb hx=>?_,I.base.free,fun b ob e hx=>?_,I.base.tups,I.base.frzs,I.base.tbls⟩,⟨m',cf,fun i x v e1 e2 e3=>?_⟩,fun x c e=>?_,I.free,I.freeC,fun p hp=>?_,fun b u e=>?_,hl.trans I.len⟩
 ·obtain⟨sl,e1⟩:=I.base.slot b ob e n hb hx;exact⟨sl,oth b _ (nl e) e1⟩
 ·obtain⟨o',e1⟩:=I.base.there b ob e hx;exact⟨o',oth b _ (nl e) e1⟩
 ·obtain⟨u,r,q⟩:=hl' i x v e1 (w i v e2) e3;refine⟨u,r,?_⟩;rcases q with⟨k,z⟩|⟨k,c,z,y⟩
  ·exact .inl ⟨k,(hmm i x v e1 e2).trans z⟩
  ·exact .inr ⟨k,c,z,y.sameBut hs (I.cne x c z)⟩
 ·obtain⟨v,z⟩:=I.cell x c e;exact⟨v,z.sameBut hs (I.cne x c e)⟩
 ·obtain⟨e,n,ne,nf,d⟩:=I.pin p hp;exact⟨oth _ _ ne e,n,ne,nf,d⟩
 ·refine(I.hok b u e).stay (fun c v hc q=>oth c v (fun z=>?_) q) (fun _ q=>q) fun _ _ q=>q;subst z;rcases hc with z|z
  ·subst z;rw[I.free] at e;cases e
  ·rw[I.free] at z;cases z
def Cx.mark(X:Cx)(e:gp)(E:gU):Cx:={X with A:=X.A.mark (some e),calm:=false,xe:=E}
theorem Inv.mark(I:Inv X pins σ H s)(e:gp)(E:gU):Inv (X.mark e E) pins σ H s:=
 ⟨⟨I.ok.mod,I.ok.kind,I.ok.glob,I.ok.blt,I.ok.above,I.ok.inj,I.ok.has,I.ok.cab,(fun z=>by cases z),I.ok.frames,I.ok.stk,I.ok.exf,I.ok.bs,I.ok.bsz,I.ok.noex,I.ok.exfs,I.ok.funs,I.ok.frf⟩,I.os,I.bare,I.base,I.loc,I.cell,I.free,I.freeC,I.pin,I.hok,I.len⟩
theorem Inv.unmark{e:gp}{E:gU}(I:Inv (X.mark e E) pins σ H s)(hd:X.calm=true->X.A.handled=none):Inv X pins σ H s:=
 ⟨⟨I.ok.mod,I.ok.kind,I.ok.glob,I.ok.blt,I.ok.above,I.ok.inj,I.ok.has,I.ok.cab,hd,I.ok.frames,I.ok.stk,I.ok.exf,I.ok.bs,I.ok.bsz,I.ok.noex,I.ok.exfs,I.ok.funs,I.ok.frf⟩,I.os,I.bare,I.base,I.loc,I.cell,I.free,I.freeC,I.pin,I.hok,I.len⟩
end
theorem ObjOk.there{P:gC}{w:gy}{H:Hp}{h:gz}{a:fZ}{o:HO}(x:ObjOk P w H h a o): ∃ob,h.get? a=some ob:=by
 cases o with
 |lst xs=>obtain⟨_,_,_,_,e⟩:=x;exact⟨_,e⟩
 |tup xs=>obtain⟨_,_,_,ob,e,_⟩:=x;exact⟨_,e⟩
 |dK kvs=>obtain⟨_,_,_,_,o,_,_,e,_⟩:=x;exact⟨_,e⟩
 |dT kvs=>obtain⟨_,_,_,_,o,_,_,e,_⟩:=x;exact⟨_,e⟩
 |set S n=>obtain⟨o,_,_,_,e,_⟩:=x;exact⟨_,e⟩
 |stt zs=>obtain⟨_,_,_,e,_⟩:=x;exact⟨_,e⟩
 |ins C dx fs=>obtain⟨_,_,_,e,_⟩:=x;exact⟨_,e⟩
 |own y=>exact x
 |xd fs=>obtain⟨_,⟨_,_,_,e,_⟩,_⟩:=x;exact⟨_,e⟩
 |rng lo hi=>obtain⟨_,_,_,e⟩:=x;exact⟨_,e⟩
 |frz ob u=>exact⟨_,x.1⟩
 |tbl ps=>obtain⟨_,_,_,_,e,_⟩:=x;exact⟨_,e⟩
 |met f y=>exact⟨_,x⟩
 |ext φ=>exact x.2.1
section
variable {X:Cx}{pins:gO}{σ:St}{H H':Hp}{s s':gi}{C ea:fZ}{h0 B h':gz}{F:iW}{a0:gp}
theorem Fly.inv(I:Inv X pins σ H s)(f:Fly X.prog X.w X.stack H s C H' ea s' h0 B F)(hB:B.StaysIn h')(hu:h0.UpToSlots h'):Inv X pins σ H' {s' with heap:=h'}:=by
 obtain⟨un,hok⟩:=f.end I.frsOk hB hu;exact I.call' (s':={s' with heap:=h'}) f.os un hok f.bare fun b hb=>absurd hb (by simp)
theorem Fly.fresh(I:Inv X pins σ H s)(hex:X.ex=[])(f:Fly X.prog X.w X.stack H s C H' ea s' h0 B F):H' ea=none/\X.s₀.heap.get? ea=none/\s.heap.get? ea=none:=by
 have hs:s.heap.get? ea=none:=by
  cases e:s.heap.get? ea with
  |none=>rfl
  |some o=>
   obtain⟨o',e'⟩:=f.un.there ea o e (by simp);rw[f.ne] at e';cases e'
 refine⟨?_,?_,hs⟩
 ·cases e:H' ea with
  |none=>rfl
  |some o=>
   obtain⟨ob,z⟩:=(f.hok ea o e).there;rw[f.ne] at z;cases z
 ·cases e:X.s₀.heap.get? ea with
  |none=>rfl
  |some o=>
   obtain⟨o',e'⟩:=I.base.there ea o e (by rw[hex];simp);rw[hs] at e';cases e'
theorem Qq{E:XK}{e:gp}{xr xx xn:Str}{CR:fZ}{i j:Nat}{D:Ends}{p4 p5 p6 p7 p8:Pos}(r8:X.stack=X.env::X.outer)(df:X.env.frame=some X.env.locals)(hex:X.ex=[])(I:Inv X pins σ H s)(h:CXx X.prog X.w X.stack H s E e s')
  (hg:Gl X xr)(hm:X.mg xr=some (.ref CR))(i7:(xr==("__debug__":Str))=false)(cx: ∀C H',E (.ref C) none H'->exmOne X.K (.ref C) (.ref CR)=some true)
  (hN:X.N.Nodup)(hi:X.N[i]?=some xx)(hj:X.N[j]?=some xn)(k6:i≠j)(lx:X.env.scope.names.lookup xx=some .local)(ln:X.env.scope.names.lookup xn=some .local)(fA:(xn==("__debug__":Str))=false)(fD:(xn==("__classdict__":Str))=false)
  (bg:swapsWith (.Name xn p6) (some (.Name xx p5)) p7.line X.env=pure false)
  (k: ∀C H' ea o,E (.ref C) none H'->H' ea=none->o.cls= .ref C->D.nx ((σ.set j none).set i (some (.ref ea))) (upd H' ea (.frz o (.own 0)))):
  wpAny (model X.prog X.w) X.A (noteFrame e X.env) (fun _ s₂=>wpAny (model X.prog X.w) X.A (setFlight e none) (fun _ s₃=>wpAny (model X.prog X.w) X.A (handleBy e X.env [.ExceptHandler (some (.Name xr p4)) (some xn) [.Assign [.Name xx p5] (.Name xn p6) p7] p8]) (SP X pins D) X.xe s₃) X.xe s₂) X.xe s':=by
 obtain⟨C,H',ea,h0,B,F,rfl,f,q⟩:=h;obtain⟨a0,fl⟩:=f.fl;obtain⟨n1,n2,n3⟩:=f.fresh I hex;rw[r8] at fl;have dS:i<σ.length:=by rw[I.len];exact(rk.mp hi).1
 have eW:j<σ.length:=by rw[I.len];exact(rk.mp hj).1
 have bz:(X.env.scope.kind== .class||(X.env.scope.kind== .module&&X.env.locals !=X.env.globals))=false:=by rw[I.ok.kind];rfl
 refine wpAny_looks_onW (I.ok.frames.trans (by rw[r8])) df fl fun h2 held y7=>?_;refine wpAny_landsW held fun h3 fM bO=>?_;have I3:Inv X pins σ H' {s' with heap:=h3}:=f.inv I fM.1 (f.up.trans (y7.trans bO));obtain⟨ob3,he3,hc3⟩:=fM.there;refine wpAny_handleBy_cons (codeAny_handlers_test ?_) (by intro q;cases q);refine pB (X:=X.mark (.ref ea) fun _ _=>False) (I3.mark _ _) hg hm ?_ i7;refine(exm_one (M:=model X.prog X.w) I3.kIn (hc3▸(Looks.ld he3).andThen .now) (cx C H' q)).here ?_;refine codeAny_handlers_suite_as ?_;obtain⟨g1,g2,g3,g4⟩:=id fM;refine wpAny_setFlight_noneW g1 g3 g4 fun h4 k1 k2 k3 k4=>?_;have up4:h3.UpToSlots h4:=fun b o hb hn=>⟨o.slots,k4 b o hb hn⟩
 have I4:Inv X pins σ H' {s' with heap:=h4}:=f.inv I k1 (f.up.trans (y7.trans (bO.trans up4)));obtain⟨oe,vs,T,oT,ts,he,⟨hcls4,_⟩,hd,_⟩:=id k3
 have I5:Inv X pins σ (upd H' ea (.frz oe (.own 0))) {s' with heap:=h4}:=by
  refine I4.track n1 n2 he (fun v z=>by rw[hd] at z;cases z) (fun z=>?_) (fun p hp z=>?_)
  ·have:=I.lt;obtain⟨m,⟨o,_,_,ho,_⟩,_⟩:=id I.loc;rw[<-z,n3] at ho;cases ho
  ·obtain⟨e1,_⟩:=I.pin p hp;rw[z,n3] at e1;cases e1
 refine oz I5 hN hj (.inl ln) (v:= .ref ea) rfl (fun s6 I6=>?_) (.inr ln);have ps:=fun E0:Value->Shared->Prop=>nj (X:=X.mark (.ref ea) E0) (Hd (X:=X.mark (.ref ea) E0) hN hi (.inl lx) (vz (X:=X.mark (.ref ea) E0) hj (.inl ln) fA fD) bg (.inr lx)) (DD (X:=X.mark (.ref ea) E0));refine thn (ps _ pins s6 _ _ {nx:=fun σ7 H7=>σ7=(σ.set j (some (.ref ea))).set i (some (.ref ea))/\H7=upd H' ea (.frz oe (.own 0)),rt:=fun _ _=>False} (I6.mark (.ref ea) _) ⟨.ref ea,by rw[kY eW],rfl,rfl⟩) fun fl s7 hs=>?_
 cases fl with
 |ret u=>obtain⟨_,_,_,_,_,z⟩:=hs;exact z.elim
 |brk=>obtain⟨_,_,_,z⟩:=hs;exact z.elim
 |cont=>obtain⟨_,_,_,z⟩:=hs;exact z.elim
 |next=>
  obtain⟨σ7,H7,I7,rfl,rfl⟩:=hs;have I7:=I7.unmark I.ok.hd;obtain⟨m,hn,_⟩:=id I7.loc;refine gk (BW (Gb ln hn (fun h₁ hn₁ hs₁=>?_) bz));unfold unbindBehindTheSuite;refine rC ?_;unfold unbindName;refine gk (wpAny_point (gk ?_));unfold deleteName;have ln':X.env.kindOf xn=some .local:=ln;simp only[ln',bz];rw[gv (by decide)];refine gk (wpAny_nsDel_keeps hn₁ fun h₂ v₂ hn₂ hs₂=>?_);simp only[hV,Option.isSome_some,uu,hZ,iJ];refine gF (wpAny_point ⟨(σ.set j none).set i (some (.ref ea)),_,I7.names (hs₁.trans hs₂) (by simp) (fun l v z=>?_) (fun m0 hm0=>?_),k C H' ea oe q n1 hcls4⟩)
  ·by_cases hl:l=i
   ·subst hl;rw[kY (by simpa using dS)] at z ⊢;exact z
   ·rw[md (lN hl)] at z ⊢;by_cases u9:l=j
    ·subst u9;rw[kY eW] at z;cases z
    ·rw[md (lN u9)] at z ⊢;exact z
  ·refine⟨_,hn₂,fun l x v e1 e2=>?_⟩
   have hx:x≠xn:=fun z=>by
    subst z;have:=vG hN e1 hj;subst this;rw[md k6,kY eW] at e2;cases e2
   simp only[hx,iJ];obtain⟨o1,es1,ep1,z1,z2,_,z3⟩:=id hn;obtain⟨o2,es2,ep2,y1,y2,_,y3⟩:=id hm0;rw[z1] at y1;cases y1;rw[z2] at y2;cases y2;exact(z3 x).symm.trans (y3 x)
end
end L2
namespace PX
open PySem PySem.Spec PyProof.Rows L2 PySem.SeqAt PySem.W
abbrev XS:=Dn->Option Str
def tZ(K:gA)(mg:jy)(E:XK)(x:XS):L2.St->Hp->Prop:=fun σ H=> ∃δ T c,ER K H T σ δ/\(∀a,¬OwnA σ δ a)/\x δ=some c/\ ∀H' C,(∀a o,H a=some o->H' a=some o)->mg c=some (.ref C)->E (.ref C) none H'
def PZ(X:Cx)(E:XK)(st:Stmt)(x:XS):Prop:=PS X st fun _=>tZ X.K X.mg E x
def PZs(X:Cx)(E:XK)(st:List Stmt)(x:XS):Prop:=PSs X st fun _=>tZ X.K X.mg E x
def PZE(X:Cx)(E:XK)(e:gm)(x:XS):Prop:=PE X e fun σ H _=>tZ X.K X.mg E x σ H
def spR(K:gA)(mg:jy)(xc:List D->Option Str):Sp:=fun vs H _ E=> ∃T ds c,ER K H T (vs.map some) ((ds.map fun d=>(d,false)).map some)/\xc ds=some c/\ ∀C H',(∀a o,H a=some o->H' a=some o)->mg c=some (.ref C)->E (.ref C) none H'
def xcF(n np:Nat)(x:XS):List D->Option Str:=fun ds=>if ds.length=np/\np<=n then x (((ds.map fun d=>(d,false)).map some)++List.replicate (n-np) none) else none
def wU(xc:List D->Option Str)(fs:List FO):XS:=fun δ=>(iN fs δ).bind fun p=>(iI p.2 p.1).bind fun args=>if(args.all fun a=>!a.2)=true then xc (args.map (·.1)) else none
def yM(c:Str)(f:F):XS:=fun δ=>(f δ).bind fun _=>some c
def AQ(δ:Dn):Bool:=δ.all fun x=>match x with
 |some (_,true)=>false
 |_=>true
def yL(f:FS)(x:XS):XS:=fun δ=>(f δ).bind fun o=>match o with
 | .nx δ1=>if AQ δ1=true then x δ1 else none
 |_=>none
def zIf(t:FT)(x y:XS):XS:=fun δ=>(t δ).bind fun p=>if AQ p.2=true then(if p.1=true then x p.2 else y p.2) else none
def zOr(x y:XS):XS:=fun δ=>match x δ with
 |some c=>some c
 |none=>y δ
def zNo:XS:=fun _=>none
theorem zq{δ:Dn}(h:AQ δ=true)(σ:L2.St)(a:fZ): ¬OwnA σ δ a:=fun⟨i,d,h1,_⟩=>by
 have:=nH.mp h _ (uy h1);simp at this
section
variable {X:Cx}{P:gC}{w:gy}{outer:List Env}{H0:Hp}{s0:gi}{E:XK}{A:ir}{st:Stmt}{t6 a b:List Stmt}{x y:XS}{e:gm}{pos:Pos}
theorem Pa:PZs X E t6 zNo:=fun pins s σ H D I h=>by obtain⟨_,_,_,_,_,e,_⟩:=h;cases e
theorem OZ(h1:PZs X E t6 x)(h2:PZs X E t6 y):PZs X E t6 (zOr x y):=fun pins s σ H D I h=>by
 obtain⟨δ,T,c,E0,no,e,k⟩:=h;unfold zOr at e;split at e
 ·rename_i q;cases e;exact h1 pins s σ H D I ⟨δ,T,_,E0,no,q,k⟩
 ·exact h2 pins s σ H D I ⟨δ,T,c,E0,no,e,k⟩
theorem Mk:PSs X t6 fun _ _ _=>False:=fun _ _ _ _ _ _ h=>h.elim
theorem yK(h:PZ X E st x):PZs X E (st::t6) x:=PSs.imp' (nj h Mk) fun _ _ _ h=>h
theorem Lh{f:FS}(h1:PSX X A (fun _=>True) (fun _=>none) st f)(h2:PZs X E t6 x):PZs X E (st::t6) (yL f x):=PSs.imp' (nj h1 h2) fun D σ H h=>by
 obtain⟨δ,T,c,E0,no,e,k⟩:=h;obtain⟨o,h1,e⟩:=fY e
 cases o with
 |nx δ1=>
  have e:(if AQ δ1=true then x δ1 else none)=some c:=e;split at e
  case isFalse=>cases e
  rename_i fz;exact⟨δ,T,_,E0,⟨fun _ _ _=> .inl trivial,fun _ z=>absurd rfl z⟩,h1,fun σ1 H1 S1 E1=>⟨δ1,T,c,E1,zq fz σ1,e,fun H' C kp hm=>k H' C (fun a o q=>kp a o (S1.kp a o q (no a))) hm⟩⟩
 |_=>cases e
theorem Jb{z:Str}{C:fZ}{a:gm}{fa:F}{np f9:Pos}(xk:XeOk X P w outer H0 s0 E)(hc:X.calm=true)(hK:excIn X.K C veB "ValueError.__new__"=true)(hm:X.mg z=some (.ref C))(hg:Gl X z)(ha:PX X a fa)(hd:(z==("__debug__":Str))=false)
  (hs:starEach [a] X.env=[(false,eval a X.env)]):PZ X E (.Raise (some (.Call (.Name z np) [a] [] f9)) none pos) (yM z fa):=PS.imp' (Hf xk hc hK hm hg ha hd hs) fun D σ H h=>by
 obtain⟨δ,T,c,E0,no,e,k⟩:=h;obtain⟨⟨r,δ1⟩,h1,e⟩:=fY e;cases e;exact⟨δ,T,r,δ1,E0,h1,fun v H1 P1=>k H1 C (fun a o q=>P1.1.kp a o q (no a)) hm⟩
theorem Pb{c:gm}{ft:FT}(hc:PTX X c ft)(ha:PZs X E a x)(hb:PZs X E b y):PZ X E (.If c a b pos) (zIf ft x y):=PS.imp' (KY hc ha hb) fun D σ H h=>by
 obtain⟨δ,T,c,E0,no,e,k⟩:=h;obtain⟨⟨t,δ1⟩,h1,e⟩:=fY e;dsimp only at e;split at e
 case isFalse=>cases e
 rename_i fz;refine⟨δ,T,t,δ1,E0,h1,fun H1 K1 E1=>?_⟩;have fin: ∀z:XS,z δ1=some c->tZ X.K X.mg E z σ H1:=fun z hz=>⟨δ1,T,c,E1,zq fz σ,hz,fun H' C kp hm=>k H' C (fun a o q=>kp a o (K1.kp a o q (no a))) hm⟩
 cases t with
 |true=>exact MU (fin x (by simpa using e))
 |false=>exact MV (fin y (by simpa using e))
variable {k:Nat}{f:fZ}{fd:kE}{ps:gG}{xc:List D->Option Str}{es:iL}{fs:List FO}{z:Str}{p:Pos}
theorem Li(xk:XeOk X P w outer H0 s0 E)(F:FnOk X.prog X.w X.K X.mg X.base (CXx P w) k f fd ps (spR X.K X.mg xc))(hr:Room k X.A)(hg:Gl X z)(hm:X.mg z=some (.ref f))(hk:PySem.W.keepIn X.K (.ref f)=true)(hb:Binds X.K fd ps [])
  (ha:PA X (e::es) (tA X.K fs))(i7:(z==("__debug__":Str))=false)(he:starEach (e::es) X.env=(false,eval e X.env)::starEach es X.env)(g6:(backTo pos (starEach es X.env)).any (·.1)=false):
  PZE X E (.Call (.Name z p) (e::es) [] pos) (wU xc fs):=PE.imp' (DG F hr hg hm hk hb (.nil) xk.pass ha i7 he g6) fun σ H Q h=>by
 obtain⟨δ,T,c,E0,no,e,kk⟩:=h;obtain⟨⟨os,δ1⟩,h1,e⟩:=fY e;obtain⟨args,h2,e⟩:=fY e;dsimp only at e h2;split at e
 case isFalse=>cases e
 rename_i h3;refine⟨δ,T,os,δ1,E0,h1,fun vs H1 T1 B=>?_⟩;show spR X.K X.mg xc (vs++[]) H1 Q E;rw[sV]
 have hl: ∀a∈args,a=(a.1,false):=fun a ha=>by
  have:=nH.mp h3 a ha;obtain⟨d,f⟩:=a
  cases f with
  |false=>rfl
  |true=>cases this
 have hargs:args=(args.map (·.1)).map fun d=>(d,false):=by
  rw[jP]
  conv=>lhs;rw[<-qa args]
  exact qm fun a ha=>hl a ha
 have nd: ∀(os:List Opd) (as:List (D×Bool)),(∀a∈as,a=(a.1,false))->gM os as=[]:=fun os=>by
  induction os with
  |nil=>intro as _;cases as<;>simp[gM]
  |cons o os ih=>
   intro as h
   cases as with
   |nil=>simp[gM]
   |cons a as=>
    have h0:=h a jg;obtain⟨d,f⟩:=a;cases h0;cases o<;>simp[gM,ih as fun a ha=>h a (jf _ ha)]
 have Ec:=qZ E0 B h2 (by rw[nd os args hl];exact qb);rw[hargs] at Ec;exact⟨_,args.map (·.1),c,Ec,e,fun C H' kp hc=>kk H' C (fun a o q=>kp a o (B.keep.kp a o q (no a))) hc⟩
end
theorem Kn{P:gC}{w:gy}{K:gA}{mg:jy}{base:gz}{x qual:Str}{st:Stmt}{f:fZ}{fd:kE}{N ps:gG}{k:Nat}{xs:XS}(F:Fun K x qual st f fd)(S:FnScope N ps (gg st))
  (k8: ∀(c9:gp) (A:gB) (outer:List Env) (s:gi) (H:Hp) (E:XK),Room k (A.deeper (envOfC qual (gg st) s.heap.objs.size f c9))->PZs (my (CXx P w) P w K mg base N qual (gg st) f c9 A outer s H E) E (jD st) xs):
  FnOk P w K mg base (CXx P w) (k+1) f fd ps (spR K mg (xcF N.length ps.length xs)):=by
 obtain⟨oc,od,kV,doc,pm,an,c9,ct,t7,e,lk,l5⟩:=F.ex;subst e;refine Im lk l5 S (fun vs H Q E h=>?_) fun A outer s H vs Q E hr h=>?_
 ·obtain⟨T,ds,c,E0,e,_⟩:=h;unfold xcF at e;split at e
  case isFalse=>cases e
  rename_i q;have:=E0.len;simp at this;rw[this,q.1]
 ·obtain⟨T,ds,c,E0,e,kk⟩:=h;unfold xcF at e;split at e
  case isFalse=>cases e
  rename_i q;have hl:=E0.len;simp at hl;refine⟨_,k8 c9 A outer s H E hr,((ds.map fun d=>(d,false)).map some)++List.replicate (N.length-ps.length) none,T,c,?_,?_,e,fun H' C kp hm=>kk C H' kp hm⟩
  ·have:=E0.pad (m:=N.length-ps.length);unfold L2.mT;rw[show vs.length=ps.length by rw[hl,q.1]];exact this
  ·refine zq ?_ _;unfold AQ;rw[nH];intro z hz;rcases nG.mp hz with hz|hz
   ·obtain⟨p,hp,rfl⟩:=oS.mp hz;obtain⟨d,_,rfl⟩:=oS.mp hp;rfl
   ·rw[(List.mem_replicate.mp hz).2]
end PX
namespace L2
open PySem PySem.Spec PyProof.Rows PySem.W
theorem Ou{CX:CXT}{P:gC}{w:gy}{K:Frag}{mg:jy}{base:gz}{k:Nat}{f:fZ}{name qual:Str}{params:Arguments}{body:List Stmt}{scope:iq}{dV kV doc pm c9 ct oc:gp}{an od:Option Addr}
  {t7:oj}{N ps:gG}{A:gB}{outer:List Env}{s:gi}{H:Hp}{args:Args}{us:hJ}{vs:List V}{Q:VK}{E:XK}(lk:K.lookup f=some ⟨oc,od,.func (fnOf name qual params body scope dV kV doc pm an c9 ct),t7⟩)(l5:codeIn K c9 qual=true)(S:FnScope N ps scope)
  (hr:Room (k+1) A)(e0:Env0 P w K mg base A outer s H)(hb:BindsTo s (fnOf name qual params body scope dV kV doc pm an c9 ct) args (ps.zip us))(r:Vals vs us)(hl:vs.length=ps.length)
  (k8:Room k (A.deeper (envOfC qual scope s.heap.objs.size f c9))-> ∃t,PSs (my CX P w K mg base N qual scope f c9 A outer s H E) body t/\t {nx:=fun _ H'=>Q .non H',rt:=Q} (mT N vs) H):
  codeAny (model P w) A (.call (.ref f) args) (CR CX outer P w H s Q E) s:=by
 have KX:K.In s.heap:=e0.mod.kin.keeps fun b o e=>(e0.bs b o e).1;have lim:s.heap.NoLimit:=e0.mod.nolimit.keeps fun b o e=>(e0.bs b o e).1
 have aF: ∀y∈ps.zip us,scope.names.lookup y.1=some .local\/(scope.names.lookup y.1=some .cell/\((cellsFrom (s.heap.objs.size+1) scope.names []).lookup y.1).isSome=true):=fun⟨n,v⟩ hy=>by
  rcases S.par n (yD hy).1 with q|q
  ·exact .inl q
  ·exact .inr ⟨q,cellsFrom_some _ _ _ (.inl q)⟩
 refine F7 hr.depth (KX _ _ lk) rfl S.co S.gen rfl (codeRec_of KX l5) (hb _ _ _ _ ?_);refine F6 S.kind aF fun env he s1 x=>?_;subst he;refine⟨lim.keeps x.toInCall.keep,codeAny_func ?_⟩;obtain⟨t,ht,hq⟩:=k8 (hr.deeper _);have I:Inv (my CX P w K mg base N qual scope f c9 A outer s H E) [] (mT N vs) H s1:=xv S hr.hd e0 hl r x;refine lM (ht [] s1 (mT N vs) H _ I hq) (fun fl s' hs=>?_) fun e s' hs=>hs
 have fin: ∀{σ':St} {H':Hp} {v:V} {u:gp},Inv (my CX P w K mg base N qual scope f c9 A outer s H E) [] σ' H' s'->RelV v u->Q v H'->CE outer P w H s Q u s':=
  fun {σ' H' v u} J rv q=>⟨v,H',J.os,J.bare,J.base,J.hok,rv,q⟩
 cases fl with
 |ret u=>
  obtain⟨v,σ',H',J,rv,q⟩:=hs;exact fin J rv q
 |next=>
  obtain⟨σ',H',J,q⟩:=hs;exact fin (v:=V.non) (u:=Value.none) J rfl q
 |brk=>
  obtain⟨_,_,_,q⟩:=hs;exact False.elim q
 |cont=>
  obtain⟨_,_,_,q⟩:=hs;exact False.elim q
section
variable {fs:iW}{N:gG}{scope:iq}{b9:jl}{σ:St}{H H':Hp}{h h':gz}{q:Str}{params:Arguments}{body:gm}{fl:fZ}
theorem LamCells.keep(C:LamCells N scope b9 σ H h)(u:Un fs [] H H' h h')(n: ∀x c,b9.lookup x=some c->c∉fs):LamCells N scope b9 σ H' h':=by
 have kp: ∀{x c v},b9.lookup x=some c->h.IsCell c v->h'.IsCell c v:=fun {x c v} e z=>by
  obtain⟨o,e1,e2⟩:=z;exact⟨o,u.keep c o e1 (C.cell x c e).2 (n x c e) (by simp),e2⟩
 refine⟨C.inj,C.has,fun x c e=>?_,fun i x v h1 h2=>?_,C.len⟩
 ·obtain⟨⟨v,o,e1,e2⟩,hn⟩:=C.cell x c e;exact⟨⟨v,kp e ⟨o,e1,e2⟩⟩,u.free c o e1 hn (by simp)⟩
 ·obtain⟨hf,c,w,hc,i8,r⟩:=C.val i x v h1 h2;exact⟨hf,c,w,hc,kp hc i8,r⟩
theorem LamAt.keep(L:LamAt q params body scope b9 H h fl)(u:Un fs [] H H' h h')(n:fl∉fs):LamAt q params body scope b9 H' h' fl:=by
 obtain⟨pm,c',m8,e,ob,w,vs,t,h1,h2⟩:=L.fn;exact⟨⟨pm,c',m8,u.keep fl _ e L.un n (by simp),ob,w,vs,t,u.frzs _ _ _ h1,h2⟩,u.free fl _ e L.un (by simp)⟩
end
section
variable {X:Cx}{N:gG}{scope:iq}{b9:jl}{σl:St}{q:Str}{params:Arguments}{body:gm}{fl:fZ}{k:Nat}{t:XK->TE}
structure LamIn(X:Cx)(N:gG)(scope:iq)(b9:jl)(σl:St)(q:Str)(params:Arguments)(body:gm)(fl:fZ)(k:Nat)(t:XK->TE):Prop where
 sc:LamScope scope
 cel:LamCells N scope b9 σl X.H₀ X.s₀.heap
 lam:LamAt q params body scope b9 X.H₀ X.s₀.heap fl
 nfl:fl∉X.fs
 ncl: ∀x c,b9.lookup x=some c->c∉X.fs
 bnd: ∀pm c' m8,bindArgs (kla_fn "<lambda>" q params body scope b9 pm (.ref c') m8) ⟨[],[]⟩=pure []
 run: ∀(E:XK) (c':fZ) (s:gi) (H:Hp),Room k (X.A.deeper (vZ q scope s.heap.objs.size fl (.ref c') b9))->PE (oP (CXx X.prog X.w) X.prog X.w X.K X.mg X.base N q scope fl (.ref c') b9 X.A X.stack s H E) body (t E)
theorem Ml{xc xr xx xn:Str}{CR:fZ}{l i j:Nat}{p1 p2 p3 p4 p5 p6 p7 p8 p9:Pos}(L:LamIn X N scope b9 σl q params body fl k t)(r8:X.stack=X.env::X.outer)(df:X.env.frame=some X.env.locals)(hex:X.ex=[])(hr:Room (k+1) X.A)
  (hc:X.N[l]?=some xc)(vc:Vis X.env.scope xc)(cM:(xc==("__debug__":Str))=false)(dY:(xc==("__classdict__":Str))=false)
  (hsc:swapsWith (.Call (.Name xc p1) [] [] p2) none p3.line X.env=pure false)
  (hg:Gl X xr)(hm:X.mg xr=some (.ref CR))(i7:(xr==("__debug__":Str))=false)
  (hN:X.N.Nodup)(hi:X.N[i]?=some xx)(hj:X.N[j]?=some xn)(k6:i≠j)(lx:X.env.scope.names.lookup xx=some .local)(ln:X.env.scope.names.lookup xn=some .local)(fA:(xn==("__debug__":Str))=false)(fD:(xn==("__classdict__":Str))=false)
  (bg:swapsWith (.Name xn p6) (some (.Name xx p5)) p7.line X.env=pure false):
  PS X (.Try [.Expr (.Call (.Name xc p1) [] [] p2) p3] [.ExceptHandler (some (.Name xr p4)) (some xn) [.Assign [.Name xx p5] (.Name xn p6) p7] p8] [] [] p9)
   (fun D σ H=>σ[l]?=some (some (.ref fl))/\ ∃E:XK,t E σl H (fun _ H'=>D.nx σ H')/\(∀C H',E (.ref C) none H'->exmOne X.K (.ref C) (.ref CR)=some true)/\
    ∀C H' ea o,E (.ref C) none H'->H' ea=none->o.cls= .ref C->D.nx ((σ.set j none).set i (some (.ref ea))) (upd H' ea (.frz o (.own 0)))):=by
 intro pins s σ H D I h;obtain⟨hl,E,ht,cx,hk⟩:=h;have un:Un X.fs [] X.H₀ H X.s₀.heap s.heap:=by have:=I.base;rwa [hex] at this
 have C1:=L.cel.keep un L.ncl;have L1:=L.lam.keep un L.nfl;refine wpAny_Try_except ?_;refine wpAny_execs_cons (wpAny_Expr_any ?_ I.quiet hsc);refine sU ?_;refine lM (vz (X:=X.nox) hc vc cM dY pins s σ H (fun v H'=>v= .ref fl/\H'=H) (I.wish _) ⟨.ref fl,hl,rfl,rfl⟩) (fun f s1 hs=>?_) fun _ _ z=>False.elim z;obtain⟨v,H1,I1,rv,rfl,rfl⟩:=hs;cases rv;have I1:=I1.unwish;have un1:Un X.fs [] X.H₀ H1 X.s₀.heap s1.heap:=by have:=I1.base;rwa [hex] at this
 have C2:=L.cel.keep un1 L.ncl;have L2':=L.lam.keep un1 L.nfl;obtain⟨pm,c',m8,e,_⟩:=id L2'.fn;refine callWith_F0 ⟨_,_,_,_,e⟩ (yE (uz (Kh (CX:=CXx X.prog X.w) (E:=E) (t:=t E) (Q:=fun _ H'=>D.nx σ H') L.sc hr I1.env0 C2 L2' L.bnd (fun c' cH=>L.run E c' s1 H1 cH) ht) fun r s2 hq=>?_))
 cases r with
 |error e=>exact Qq r8 df hex I1 hq hg hm i7 cx hN hi hj k6 lx ln fA fD bg hk
 |ok f=>
  cases f with
  |next=>exact False.elim hq
  |brk=>exact False.elim hq
  |cont=>exact False.elim hq
  |ret u=>
   obtain⟨v,H2,I2,_,qq⟩:=I1.after hq;exact uS (uS ⟨σ,H2,I2,qq⟩)
end
end L2
namespace PX
open PySem PySem.Spec PyProof.Rows L2 PySem.SeqAt PySem.W
def sim:D->Bool
 | .non| .bl _| .int _| .str _=>true
 |_=>false
theorem Ds{K K':Frag}{H H':Hp}{O O':AP'}{d:D}{v:V}(h:sim d=true)(r:Rep K H O d v):Rep K' H' O' d v:=by
 cases d with
 |non=>rw[Rep] at r ⊢;exact r
 |bl b=>rw[Rep] at r ⊢;exact r
 |int b=>rw[Rep] at r ⊢;exact r
 |str b=>rw[Rep] at r ⊢;exact r
 |_=>cases h
def wY(n i:Nat)(fs:FS)(d:D):Option D:=match fs ((List.replicate n none).set i (some (d,false))) with
 |some (.rt (r,false) _)=>if sim r=true then some r else none
 |_=>none
def E5(caps:gW)(f:F)(x:XS)(n i:Nat)(fs:FS)(CI:Str->Option Nat):F:=fun δ=>(iI δ (caps.map .slot)).bind fun args=>if(args.all fun a=>!a.2)=true then
  (match f (args.map some) with
   |some _=>wY n i fs .non
   |none=>(x (args.map some)).bind fun c=>(CI c).bind fun C=>wY n i fs (.oth (.exc C) [] [])).bind fun d=>some ((d,false),δ)
 else none
theorem ui{n i:Nat}{d:D}(σ:L2.St)(a:fZ): ¬OwnA σ ((List.replicate n none).set i (some (d,false))) a:=fun⟨j,e,h1,_⟩=>by
 by_cases hj:j=i
 ·subst hj;rw[uJ] at h1;split at h1
  ·split at h1<;>simp at h1
  ·rename_i z;exact z rfl
 ·rw[md (lN hj),qy] at h1;split at h1<;>cases h1
theorem Nd{K:Frag}{H:Hp}{σ:L2.St}{n i:Nat}{d:D}{v:V}(hl:σ.length=n)(hi:σ[i]?=some (some v))(r:Rep K H (fun _=>False) d v):ER K H (fun _=>False) σ ((List.replicate n none).set i (some (d,false))):=by
 have look: ∀{j:Nat} {e:D} {b:Bool},((List.replicate n none).set i (some (d,false)))[j]?=some (some (e,b))->j=i/\e=d/\b=false:=fun {j e b} h=>by
  by_cases hj:j=i
  ·subst hj;rw[kY (by rw[F8,<-hl];exact(rk.mp hi).1)] at h;cases h;exact⟨rfl,rfl,rfl⟩
  ·rw[md (lN hj),qy] at h;split at h<;>cases h
 refine⟨by simp[hl],fun j e h=>?_,fun j e h=>?_,fun j l e g a h=>?_,fun a z=>absurd z (ui σ a),fun _ z=>z.elim⟩
 ·obtain⟨rfl,rfl,_⟩:=look h;exact⟨v,hi,Rep.mono (fun _ _ e _=>e) (fun b _ z=>z.elim (ui σ b) id) r⟩
 ·obtain⟨_,_,z⟩:=look h;cases z
 ·obtain⟨_,_,z⟩:=look h;cases z
structure ClK(K:Frag)(C CR:fZ):Prop where
 k:ExcK K C
 ty: ∀n∈["int","bool","str","tuple","list","dict"],kitOne K (.ref C) (.type n)=some false
 up:exmOne K (.ref C) (.ref CR)=some true
theorem Kp{args:List (D×Bool)}(h:(args.all fun a=>!a.2)=true): ∀a∈args,a=(a.1,false):=fun a ha=>by
 have:=nH.mp h a ha;obtain⟨d,f⟩:=a
 cases f with
 |false=>rfl
 |true=>cases this
theorem AR: ∀(os:List Opd) (as:List (D×Bool)),(∀a∈as,a=(a.1,false))->gM os as=[]
 |[],as,_=>by cases as<;>simp[gM]
 |o::os,[],_=>by simp[gM]
 |o::os,a::as,h=>by
  have h0:=h a jg;obtain⟨d,f⟩:=a;cases h0;cases o<;>simp[gM,AR os as fun a ha=>h a (jf _ ha)]
theorem M5{args:List (D×Bool)}(h: ∀a∈args,a=(a.1,false))(σ:L2.St)(a:fZ): ¬OwnA σ (args.map some) a:=fun⟨i,d,h1,_⟩=>by
 rw[jd] at h1;obtain⟨p,hp,e⟩:=hW h1;cases e;have:=h _ (uy hp);simp at this
section
variable {X:Cx}
theorem PE.or{e:gm}{t u:TE}(h1:PE X e t)(h2:PE X e u):PE X e fun σ H Q=>t σ H Q\/u σ H Q:=fun pins s σ H Q I h=>h.elim (h1 pins s σ H Q I) (h2 pins s σ H Q I)
theorem IJ{T:AP'}{σ:L2.St}{δ:Dn}{H:Hp}{caps:gW}{args:List (D×Bool)}{K:Frag}(E1:ER K H T σ δ)(ha:iI δ (caps.map .slot)=some args):
  ∃vs:List V,Ar caps 0 σ=vs.map some/\Ops K T σ δ H (caps.map Opd.slot) vs δ H T:=by
 obtain⟨hl,hg⟩:=lu ha
 have there: ∀(i j:Nat),caps[i]?=some j-> ∃v,σ[j]?=some (some v):=fun i j hj=>by
  have hi:i<args.length:=by have:=(rk.mp hj).1;simp at hl;omega
  obtain⟨o,q1,q2⟩:=hg i _ (iu hi);rw[jd,hj] at q1;cases q1;have q3:=nA q2;generalize args[i]=y at q3;obtain⟨x,b⟩:=y
  cases b with
  |false=>obtain⟨v,h,_⟩:=E1.val j x q3;exact⟨v,h⟩
  |true=>obtain⟨a,h,_⟩:=E1.own j x q3;exact⟨_,h⟩
 refine⟨caps.map fun j=>((σ[j]?).join).getD .non,?_,by simp,.refl,E1,fun _ z=>z,fun j x v hj=>?_,fun j x v hj=>?_,fun j i v hj hv=>?_⟩
 ·unfold Ar;rw[List.replicate_zero,sV];apply rG;intro i;rw[jd,jd,jd]
  cases hj:caps[i]? with
  |none=>rfl
  |some j=>obtain⟨v,hv⟩:=there i j hj;simp[hv]
 ·rw[jd] at hj;obtain⟨_,_,z⟩:=hW hj;cases z
 ·rw[jd] at hj;obtain⟨_,_,z⟩:=hW hj;cases z
 ·rw[jd] at hj;obtain⟨c,hc,z⟩:=hW hj;cases z;obtain⟨v',q2⟩:=there j i hc;rw[jd,hc] at hv;simp[q2] at hv;rw[q2,hv]
end
section
variable {X:Cx}{Pt c:fZ}{params:Arguments}{body:gm}{scope:iq}{pos w9 pf:Pos}{caps:gW}{N' NR:gG}{fB:F}{xB:XS}{aO:FS}{CI:Str->Option Nat}{asg:gW}{st:Stmt}{fr:fZ}{cO:kE}{xf xc xr xx xn:Str}{CR:fZ}{i j k:Nat}
structure RefBody(X:Cx)(st:Stmt)(NR:gG)(fr:fZ)(xf xc xr xx xn:Str)(CR:fZ)(i j k:Nat)(asg:gW)(aO:FS):Prop where
 sc:FnScope NR [xc] (gg st)
 as0:0∉asg
 hi:NR[i]?=some xx
 hj:NR[j]?=some xn
 ij:i≠j
 j0:j≠0
 lc:(gg st).names.lookup xc=some .local
 lx:(gg st).names.lookup xx=some .local
 ln:(gg st).names.lookup xn=some .local
 gl:(gg st).names.lookup xr=some .globalImplicit
 mg:X.mg xr=some (.ref CR)
 db:(xc==("__debug__":Str))=false/\(xc==("__classdict__":Str))=false/\(xn==("__debug__":Str))=false/\(xn==("__classdict__":Str))=false/\(xr==("__debug__":Str))=false
 body: ∃p1 p2 p3 p4 p5 p6 p7 p8 p9 S1 hU,jD st=S1:: .Try [.Expr (.Call (.Name xc p1) [] [] p2) p3] [.ExceptHandler (some (.Name xr p4)) (some xn) [.Assign [.Name xx p5] (.Name xn p6) p7] p8] [] [] p9::hU/\
  ∀(c9:gp) (A:gB) (outer:List Env) (s:gi) (H:Hp) (L:ir),(∀i,L i->i<1)->Room k (A.deeper (envOfC xf (gg st) s.heap.objs.size fr c9))->
   swapsWith (.Call (.Name xc p1) [] [] p2) none p3.line (envOfC xf (gg st) s.heap.objs.size fr c9)=pure false/\swapsWith (.Name xn p6) (some (.Name xx p5)) p7.line (envOfC xf (gg st) s.heap.objs.size fr c9)=pure false/\
   PSX (my CX0 X.prog X.w X.K X.mg X.base NR xf (gg st) fr c9 A outer s H L2.E0).nox (fun i=>i∈asg) L H S1 (jc i (fC .non))/\wO (my CX0 X.prog X.w X.K X.mg X.base NR xf (gg st) fr c9 A outer s H L2.E0).nox (fun i=>i∈asg) L H hU aO
theorem LY{more:jI}(R:RefBody X st NR fr xf xc xr xx xn CR i j (k+1) asg aO)(F:Fun X.K xf xf st fr cO)(fF:Binds X.K cO [xc] [])(fg:Gl X xf)(hmf:X.mg xf=some (.ref fr))(cz:(xf==("__debug__":Str))=false)
  (cw: ∀x,X.fn x=true)(hr:Room (k+2) X.A)(hTb:X.H₀ Pt=some (.tbl (#[.str (X.env.qual++"<lambda>") 0]++more)))(l5:X.env.code= .ref c)(C:CodeHd X.base c Pt)(hB:X.base.BuiltinsAt X.mg Pt)(fk:mainGlobals≠Pt)
  (CO:CompOk X N' scope caps 0)(LS:LamScope scope)(aK:defaultsOf params X.env=([],[]))(m7: ∀b9 pm c' m8,bindArgs (kla_fn "<lambda>" (X.env.qual++"<lambda>") params body scope b9 pm (.ref c') m8) ⟨[],[]⟩=pure [])
  (he:starEach [.Lambda params body scope w9] X.env=(false,eval (.Lambda params body scope w9) X.env)::starEach [] X.env)(g6:(backTo pos (starEach [] X.env)).any (·.1)=false)
  (fJ: ∀z C0,CI z=some C0->X.mg z=some (.ref C0)/\ClK X.K C0 CR)
  (hb: ∀(fl:fZ) (b9:jl) (c':fZ) (A:gB) (outer:List Env) (s:gi) (H:Hp) (E:XK),Room k (A.deeper (vZ (X.env.qual++"<lambda>") scope s.heap.objs.size fl (.ref c') b9))->
   PX (oP (CXx X.prog X.w) X.prog X.w X.K X.mg X.base N' (X.env.qual++"<lambda>") scope fl (.ref c') b9 A outer s H E) body fB/\PZE (oP (CXx X.prog X.w) X.prog X.w X.K X.mg X.base N' (X.env.qual++"<lambda>") scope fl (.ref c') b9 A outer s H E) E body xB):
  PX X (.Call (.Name xf pf) [.Lambda params body scope w9] [] pos) (E5 caps fB xB NR.length i aO CI):=by
 intro pins s σ H Q I hw;obtain⟨δ,T,r,δ',E1,e,kq⟩:=hw;obtain⟨args,ha,e⟩:=fY e;split at e
 case isFalse=>cases e
 rename_i hfz;have cJ:=Kp hfz;obtain⟨d,hd,e⟩:=fY e;obtain⟨rfl,rfl⟩:=gH e;obtain⟨vs,eO,B0⟩:=IJ E1 ha;have nd0:=AR (caps.map Opd.slot) args cJ;have Ec:=qZ E1 B0 ha (by rw[nd0];exact qb);obtain⟨aP,hclo,j7,j9⟩:=qj X.env scope fun x hx hf=>I.ok.has x.1 (CO.free x hx hf);obtain⟨more2,hP⟩:=I.base.tbls Pt _ hTb;rw[yI] at hP;refine sU (pB I fg hmf ?_ cz);refine callWith_K (h₀:=X.base) I.ok.mod.kin F.kp ?_ he g6;rw[he];show wpAny _ _ (spliced ((false,eval (.Lambda params body scope w9) X.env)::backTo pos (starEach [] X.env))) _ _ s;refine BR (HS I hP l5 C hB fk hclo aK fun s1 H1 fl I1 up L kp fr0 new=>?_);refine BU ⟨I1.kIn,?_⟩
 have nst: ∀x c,aP.lookup x=some c->c∉frs X.stack:=fun x c e z=>by
  rcases kb.mp (I.stkSub c z) with q|q
  ·exact I.cne x c (j7 x c e) q
  ·obtain⟨_,o,ho,_⟩:=I.ok.funs.mem q;exact absurd (iC ho) (I9.mpr (I.ok.cab x c (cw x) (j7 x c e)))
 have nfl:fl∉frs X.stack:=fun z=>by
  obtain⟨_,o,ho,_⟩:=I.stack.mem z;rw[new] at ho;cases ho
 have LC:LamCells N' scope aP (vs.map some) H1 s1.heap:=by
  rw[<-eO];refine⟨fun x y c h1 h2=>I.ok.inj x y c (j7 x c h1) (j7 y c h2),fun x hx=>j9 x (mV hx),fun x c h=>⟨I1.cell x c (j7 x c h),I1.freeC x c (j7 x c h)⟩,fun l x v h1 h2=>?_,CO.sco.len σ⟩;obtain⟨hf,jj,hj,hv⟩:=CO.sco.pre σ l v x h2 h1;refine⟨hf,?_⟩;obtain⟨m,hn,hl⟩:=I1.loc;have l7:=CO.free (x,.free) (mV hf) rfl;obtain⟨u,r,q⟩:=hl jj x v hj hv (by rcases l7 with z|z;exact .inr (.inl z);exact .inr (.inr z));rcases q with⟨cI,_⟩|⟨_,c,hc,i8⟩
  ·have dR:X.env.scope.names.lookup x=some .local:=cI;rcases l7 with z|z<;>(have z':X.env.scope.names.lookup x=_:=z;rw[dR] at z';cases z')
  ·obtain⟨c',bL⟩:=j9 x (mV hf);have:=j7 x c' bL;rw[hc] at this;cases this;exact⟨c,u,bL,i8,r⟩
 have noT: ∀(σ:L2.St) (a:fZ),¬OwnA σ (args.map some) a:=M5 cJ;obtain⟨oc,od,kV,doc,pm,an,c9,ct,t7,rfl,lkr,hcdr⟩:=F.ex;have hbt:=fF s1 [.ref fl] I1.kIn rfl;refine thn (yE (uz (Ou (CX:=CX0) (E:=L2.E0) (Q:=fun v H'=>Post X.K T σ δ H (d,false) δ v H') (vs:=[.ref fl]) lkr hcdr R.sc hr I1.env0 hbt (.cons rfl .nil) rfl fun cH=>?_) (R:=L2.CR CX0 X.stack X.prog X.w H1 s1 (fun v H'=>Post X.K T σ δ H (d,false) δ v H') L2.E0) fun rr s2 hq=>?_)) (Q:=EP X pins σ fun v H'=>Post X.K T σ δ H (d,false) δ v H') fun v s2 ⟨x,H2,I2,rx,q⟩=>⟨x,H2,I2,rx,kq x H2 q⟩
 ·obtain⟨p1,p2,p3,p4,p5,p6,p7,p8,p9,S1,hU,bB,hq⟩:=R.body;obtain⟨sw1,sw2,hS1,hRest⟩:=hq c9 X.A X.stack s1 H1 (fun _=>False) (fun _ z=>z.elim) cH
  have nl: ∀{n:Nat} {a:fZ} {σ:L2.St},¬OwnA σ (List.replicate n none) a:=fun {n a σ} ⟨l,e,h1,_⟩=>by
   rw[qy] at h1;split at h1<;>cases h1
  have hlen:(L2.mT NR [V.ref fl]).length=NR.length:=by
   have:1<=NR.length:=by
    have:=pO List.length R.sc.pre;rw[pN] at this;simp at this;omega
   unfold L2.mT;simp;omega
  have fin: ∀(z:D) (H2:Hp) (σ2:L2.St) (v0:V),wY NR.length i aO z=some d->(∀a o,H1 a=some o->H2 a=some o)->(∀a,H1 a≠none->H2 a≠none)->σ2.length=NR.length->σ2[i]?=some (some v0)->Rep X.K H2 (fun _=>False) z v0->
    tS X.K (fun i=>i∈asg) (fun _=>False) H1 aO {nx:=fun _ H'=>Post X.K T σ δ H (d,false) δ .non H',rt:=fun v H'=>Post X.K T σ δ H (d,false) δ v H'} σ2 H2:=fun z H2 σ2 v0 ht y7 dm2 u9 aH rz=>by
   unfold wY at ht;split at ht
   case h_2=>cases ht
   rename_i rr δr fq;obtain⟨hs,rfl⟩:=gR ht;refine⟨_,fun _=>False,_,Nd u9 aH rz,⟨fun l a ⟨d,h1,h2⟩=>absurd ⟨l,d,h1,h2⟩ (ui σ2 a),dm2⟩,fq,fun v σ3 H3 S3 hrv=>?_⟩;have ext: ∀a o,H a=some o->H3 a=some o:=fun a o q=>S3.kp a o (y7 a o (up a o q)) (ui σ2 a);exact⟨.ext ext,E1.mono (fun b o q _=>ext b o q) (fun _ _ z=>z) (fun a z=>(E1.dom a z).up (ext a)),Ds hs hrv.2⟩
  rw[bB];have Xs:=(my CX0 X.prog X.w X.K X.mg X.base NR xf (gg st) fr c9 X.A X.stack s1 H1 L2.E0).nox
  have run: ∀(E:XK) (c':fZ) (s:gi) (H:Hp),Room k ((X.A.deeper (envOfC xf (gg st) s1.heap.objs.size fr c9)).deeper (vZ (X.env.qual++"<lambda>") scope s.heap.objs.size fl (.ref c') aP))->
    PE (oP (CXx X.prog X.w) X.prog X.w X.K X.mg X.base N' (X.env.qual++"<lambda>") scope fl (.ref c') aP (X.A.deeper (envOfC xf (gg st) s1.heap.objs.size fr c9)) (envOfC xf (gg st) s1.heap.objs.size fr c9::X.stack) s H E) body (fun σ H Q=>tF X.K fB σ H Q\/tZ X.K X.mg E xB σ H):=fun E c' s H hr2=>
   let⟨h1,h2⟩:=hb fl aP c' _ _ s H E hr2
   PE.or h1 h2
  have LI:LamIn (my CX0 X.prog X.w X.K X.mg X.base NR xf (gg st) fr c9 X.A X.stack s1 H1 L2.E0).nox N' scope aP (vs.map some) (X.env.qual++"<lambda>") params body fl k (fun E σ H Q=>tF X.K fB σ H Q\/tZ X.K X.mg E xB σ H):=⟨LS,LC,L,nfl,nst,m7 aP,run⟩
  have h0:NR[0]?=some xc:=by
   have:=pO (fun l=>l[0]?) R.sc.pre;simpa using this
  have pt:=Ml (p4:=p4) (p8:=p8) (p9:=p9) LI rfl rfl rfl cH h0 (.inl R.lc) R.db.1 R.db.2.1 sw1 R.gl R.mg R.db.2.2.2.2 R.sc.nd R.hi R.hj R.ij R.lx R.ln R.db.2.2.1 R.db.2.2.2.1 sw2;refine⟨_,(nj hS1 (nj pt hRest)).nox,?_⟩;have eY:i<NR.length:=(rk.mp R.hi).1;refine⟨List.replicate NR.length none,fun _=>False,.nx ((List.replicate NR.length none).set i (some (.non,false))),⟨by simp[hlen],fun l d h=>?_,fun l d h=>?_,fun l m d e a h=>?_,fun a z=>absurd z nl,fun _ z=>z.elim⟩,⟨fun l a ⟨d,h1,h2⟩=>absurd ⟨l,d,h1,h2⟩ nl,fun _ z=>z⟩,?_,fun σ1 H2 K1 ER1=>?_⟩
  ·rw[qy] at h;split at h<;>cases h
  ·rw[qy] at h;split at h<;>cases h
  ·rw[qy] at h;split at h<;>cases h
  ·show(if i<(List.replicate NR.length (none:Sl)).length then some (Out.nx _) else none)=_;rw[gq (by simpa using eY)]
  ·have y7: ∀a o,H1 a=some o->H2 a=some o:=fun a o q=>K1.kp a o q nl;have bt:σ1.length=NR.length:=by have:=ER1.len;simpa using this
   have hs0:σ1[0]?=some (some (V.ref fl)):=by
    rw[K1.as 0 R.as0];unfold L2.mT;rfl
   have Ec2:ER X.K H2 (Tc T σ δ vs args) (vs.map some) (args.map some):=Ec.mono (fun b o q _=>y7 b o (up b o q)) (fun _ _ z=>z) (fun a z=>(Ec.dom a z).up fun o q=>y7 a o (up a o q));split at hd
   ·
    rename_i z hz;refine⟨hs0,fun _ _ _=>False,.inl ⟨_,_,z.1,z.2,Ec2,hz,fun v H3 P3=>?_⟩,fun _ _ z=>z.elim,fun _ _ _ _ z=>z.elim⟩;obtain⟨v0,dN,cR⟩:=ER1.val i .non (by rw[kY (by simpa using eY)]);refine fin .non H3 σ1 v0 hd (fun a o q=>P3.1.kp a o (y7 a o q) (noT _ a)) (fun a q=>P3.1.dm a (K1.dm a q)) bt dN (Ds rfl cR)
   ·
    obtain⟨cn,hx,hd⟩:=fY hd;obtain⟨C0,hC0,hd⟩:=fY hd;obtain⟨hmC,ck⟩:=fJ cn C0 hC0;refine⟨hs0,fun cls _ H'=>cls= .ref C0/\ ∀a o,H2 a=some o->H' a=some o,.inr ⟨_,_,cn,Ec2,noT _,hx,fun H' C' dE hm'=>?_⟩,fun C' H' ⟨q,_⟩=>?_,fun C' H' ea o ⟨q,dE⟩ hn ho=>?_⟩
    ·rw[hmC] at hm';cases hm';exact⟨rfl,dE⟩
    ·cases q;exact ck.up
    ·cases q;have bO: ∀a o',H' a=some o'->upd H' ea (.frz o (.own 0)) a=some o':=fun a o' q=>by rw[gK (jv q hn)];exact q
     refine fin (.oth (.exc C0) [] []) _ _ (.ref ea) hd (fun a o' q=>bO a o' (dE a o' (y7 a o' q))) (fun a q=>?_) (by simp[bt]) (by rw[kY (by simpa[bt] using eY)]) (Rep.mkOth (us:=[]) (fun z=>z) ⟨⟨rfl,rfl,rfl⟩,o,gQ,ho,fun a=>HU ck.k ho,ck.ty⟩ RepL.nil)
     cases hh:H1 a with
     |none=>exact absurd hh q
     |some o'=>rw[bO a o' (dE a o' (y7 a o' hh))];simp
 ·cases rr with
  |error e=>exact False.elim hq
  |ok f=>
   cases f with
   |ret u=>exact I1.after hq
   |_=>exact False.elim hq
end
def iD:D->Int
 | .int i=>i
 |_=>0
def MX:D->Option (D×Bool)
 | .lst l=>if l.all isI=true then some (.int (preSum (fun j=>iD (l.getD j .non)) l.length),false) else none
 |_=>none
theorem vP: ∀{vs:hJ} {ns:gS},IntsAre vs ns-> ∃xs:List (Int×Tok),vs=xs.map (fun p=>Value.int p.1 p.2)/\ns=xs.map (·.1)
 |_,_,.nil=>⟨[],rfl,rfl⟩
 |_,_,.cons n t r=>let⟨xs,h1,h2⟩:=vP r;⟨(n,t)::xs,by rw[h1];rfl,by rw[h2];rfl⟩
theorem tm{f g:Nat->Int}: ∀n,(∀j,j<n->f j=g j)->preSum f n=preSum g n
 |0,_=>rfl
 |n+1,h=>by rw[preSum,preSum,tm n fun j hj=>h j (by omega),h n (by omega)]
section
variable {X:Cx}
theorem E8(hc:X.calm=true):iY X (.builtin "sum") (rDn X.K (g1 MX)):=mS fun pins s σ H x u Q O d z I ru np hd hg G=>by
 cases d with
 |lst l=>
  obtain⟨hI,rfl⟩:=gR hg;obtain⟨p,xs,rfl,q,r⟩:=jm hd;cases ru;obtain⟨its,v,pl,_⟩:=I.list q;obtain⟨ns,hl,hn⟩:=LJ hI r v;obtain⟨ys,e1,e2⟩:=vP hn;have hh:X.A.handled=none:=I.ok.hd hc
  have il:s.heap.IsList p (intItems ys.toArray):=by
   have:=pl.isList;rw[e1] at this;simpa[intItems] using this
  refine sum_intListG hh il fun h' tk t' kp=>?_;refine⟨.int (preSum (fun j=>iD (l.getD j .non)) l.length),H,I.kept (t':=tk) kp,⟨t',?_⟩,G.int⟩;have:l.length=ys.length:=by rw[hl,e2];simp
  rw[this,iK]
  congr 1
  refine tm _ fun j hj=>?_;rw[hl,e2];simp[numAt,iD,pZ,hj]
 |_=>cases hg
def M6(l:List D):Option Nat:=(mP l).bind fun bs=>bs.findIdx? id
def Ks(i:Nat):F:=fun δ=>match δ[i]? with
 |some (some (.lst l,true))=>(M6 l).bind fun j=>if l.length<=1000 then some ((.int j,false),δ) else none
 |_=>none
def Qm(x:V)(vs:List V)(H:Hp)(Q:VK):Prop:= ∃(l:fZ) (xs:List V) (bs:List Bool) (j:Nat),x= .ref l/\vs=[.bl true]/\H l=some (.lst xs)/\xs=bs.map V.bl/\bs.findIdx? id=some j/\bs.length<=1000/\Q (.int j) H
theorem Dh: ∀{bs:List Bool} {its:hJ},Vals (bs.map V.bl) its->its=bs.map Value.bool
 |[],_,.nil=>rfl
 |b::bs,_,.cons r t=>by cases r;rw[Dh t];rfl
theorem HL:MtM X "list.index" Qm:=by
 intro pins s σ H x vs v us Q I rx rv h;obtain⟨l,xs,bs,j,rfl,rfl,hH,rfl,hj,hl,q⟩:=h;cases rx;obtain⟨u,rfl,ru⟩:=rv.one;cases ru;obtain⟨z,its,n,r,hlen,e⟩:=I.lstM hH;have hb:=Dh r;subst hb;obtain⟨h1,h2,h3⟩:=List.findIdx?_eq_some_iff_getElem.mp hj
 refine ux F.slot_list_index ⟨_,e,rfl⟩ F.entry_list_index (F.args_list_index_2 _ _)
  (list_indexAt l (bs.map Value.bool).toArray n none #[] (.bool true) (fun y=>match y with| .bool b=>b|_=>false) j (by simpa using h1) (by omega) (by simpa using h2) (fun m hm u6=>?_)) ⟨e,fun y hy=>?_,⟨.int j,H,I.tok _,⟨_,rfl⟩,q⟩⟩
 ·have:=h3 m u6;simpa using this
 ·obtain⟨b,_,rfl⟩:=oS.mp (List.mem_toArray.mp hy);have:=EqAt.bool_bool (A:=X.A.in1) (s:=s) b true;cases b<;>simpa using this
variable {pos b8 apos f9 p2:Pos}{i:Nat}{x:Str}{kk:Nat}
theorem Dx{K:gA}{H:Hp}{O:AP'}: ∀{l:List D} {bs:List Bool} {xs:List V},mP l=some bs->RepL K H O l xs->xs=bs.map V.bl
 |[],bs,xs,h,r=>by cases h;rw[RepL] at r;exact r
 | .bl b::l,bs,xs,h,r=>by
  obtain⟨bs',h1,rfl⟩:=hW h;rw[RepL] at r;obtain⟨v,r',rfl,q1,q2⟩:=r;rw[q1.bl,Dx h1 q2];rfl
theorem xP: ∀{l:List D} {bs:List Bool},mP l=some bs->bs.length=l.length
 |[],_,h=>by cases h;rfl
 | .bl b::l,_,h=>by obtain⟨bs',h1,rfl⟩:=hW h;simp[xP h1]
theorem G7(hv:PO X (.Name x b8) (gf i))(g8:attributeBase (.Name x b8) "index" X.env (eval (.Name x b8) X.env)=eval (.Name x b8) X.env)
  (l4:((backTo f9 (starEach [.Constant (.bool true) kk p2] X.env)).all (fun x=>!x.1)&&(backToKw f9 (keywordEach [] X.env)).all (fun x=>x.1.isSome)&&decide ([Expr.Constant (.bool true) kk p2].length+([]:List Keyword).length+(if([]:List Keyword).isEmpty then 0 else 1)<30))=true)
  (g7:(apos.endLine==f9.line)=true)(hs:starEach [.Constant (.bool true) kk p2] X.env=(false,eval (.Constant (.bool true) kk p2) X.env)::starEach [] X.env)(g0:(backTo f9 (starEach [] X.env)).any (·.1)=false):
  PX X (.Call (.Attribute (.Name x b8) "index" apos) [.Constant (.bool true) kk p2] [] f9) (Ks i):=
 PX.imp (Hz yy PySem.F.slot_list_index PySem.F.type_list_index HL hv (jY KS mQ hs) g8 l4 g7 hs g0) fun σ H Q hw=>by
 obtain⟨δ,T,rr,δ',E,e,k⟩:=hw;unfold Ks at e;split at e
 ·rename_i l h0;obtain⟨j,hj,e⟩:=fY e;obtain⟨bs,hb,hj⟩:=fY hj;obtain⟨hl,e⟩:=gR e;obtain⟨rfl,rfl⟩:=uw e;refine⟨δ,T,.slot i,δ,E,by unfold gf;rw[h0],fun v H1 P=>?_⟩;obtain⟨K1,E1,hσ⟩:=P;obtain⟨a,g1,cQ,g2,g3⟩:=E1.own i _ h0;rw[hσ] at g1;cases g1;refine⟨.inl ⟨rfl,cQ,SqL.of g2⟩,δ,T,_,δ,E1,rfl,fun y H2 P2=>?_⟩;obtain⟨E2,ry⟩:=P2.rep E1;have hy:=ry.bl;subst hy;obtain⟨a',q1,xs,q2,q3⟩:=E2.own i _ h0;rw[hσ] at q1;cases q1;refine⟨_,xs,bs,j,rfl,rfl,q2,Dx hb q3,hj,by rw[xP hb];exact hl,?_⟩;exact k _ _ (Post.val (K1.trans P2.1) E2 Rep.mkInt)
 ·cases e
end
def tU(CL:gW)(D0:Nat):D->Option (D×Bool)
 | .oth (.exc C) _ _=>if CL.contains C=true then some (.bl (C==D0),false) else none
 |_=>none
def MY(CL:gW):D->Option (D×Bool)
 | .oth (.exc C) _ _=>if CL.contains C=true then some (.bl true,false) else none
 |_=>none
section
variable {X:Cx}{e:gm}{fa:FO}{pos p p2:Pos}{z:Str}{CL:gW}{D0:Nat}
theorem MW{g:D->Option (D×Bool)}{u2:gp}{w2:V}(hw:RelV w2 u2)(hu: ∀u',RelV w2 u'->u'=u2)(hg: ∀d zz,g d=some zz-> ∃C b ks vs,d= .oth (.exc C) ks vs/\zz=(.bl b,false)/\kitOne X.K (.ref C) u2=some b):
  iY X (.builtin "isinstance") (fun xs H Q=> ∃(O:AP') (d:D) (x:V) (b:Bool),xs=[x,w2]/\iT X.K H O d x/\g d=some (.bl b,false)/\Q (.bl b) H):=by
 intro pins s σ H xs us Q I r h;obtain⟨O,d,x,b,rfl,hd,hgd,q⟩:=h;obtain⟨u,w',rfl,ru,y9⟩:=sY r;have:=hu _ y9;subst this;obtain⟨C,b',ks,vs,rfl,e1,hk⟩:=hg _ _ hgd;cases e1;obtain⟨a,us,rfl,oth,_⟩:=mZ hd;cases ru;obtain⟨_,o,e,h1,h2,h3⟩:=oth;exact kia_one (h2 a) I.kIn (show ObjOk X.prog X.w H s.heap a (.frz o (.own 0)) from I.hok a _ e).1 hk (fun z=>nomatch z) fun tk=>⟨.bl _,H,I.tok _,rfl,q⟩
theorem Dz{g:D->Option (D×Bool)}{w2:V}{u2:gp}{e2:gm}(ha:PO X e fa)(h2:PE X e2 (tC w2))(hw:RelV w2 u2)(hu: ∀u',RelV w2 u'->u'=u2)(hg: ∀d zz,g d=some zz-> ∃C b ks vs,d= .oth (.exc C) ks vs/\zz=(.bl b,false)/\kitOne X.K (.ref C) u2=some b)
  (dc:Gl X "isinstance")(hm:X.mg "isinstance"=none)(hv:bootBuiltins "isinstance"=some (.builtin "isinstance"))(s1:starEach [e,e2] X.env=(false,eval e X.env)::starEach [e2] X.env)(s2:starEach [e2] X.env=(false,eval e2 X.env)::starEach [] X.env)(g6:(backTo pos (starEach [e2] X.env)).any (·.1)=false):
  PX X (.Call (.Name "isinstance" p) [e,e2] [] pos) (jw g fa):=by
 refine PX.imp (qH (MW (X:=X) hw hu hg) dc hm hv (jY ha (jY h2 mQ s2) s1) (by decide) (by decide) s1 g6) fun σ H Q hw=>?_;obtain⟨δ,T,rr,δ',E,e,k⟩:=hw;obtain⟨⟨o,δ1⟩,h1,e⟩:=fY e;obtain⟨x,h2,e⟩:=fY e;obtain⟨zz,h3,e⟩:=fY e;obtain⟨rfl,rfl⟩:=gH e;obtain⟨C,b,ks,vs,rfl,rfl,hk⟩:=hg _ _ h3;refine⟨δ,T,o,δ1,E,h1,fun v H1 P1=>?_⟩;have B:=Ops.cons E P1 (Ops.nil (P1.er E));exact⟨_,_,v,b,rfl,B.view (j:=0) rfl rfl h2,h3,(B.done k).bl⟩
structure ClT(K:Frag)(mg:jy)(CL:gW)(D0:Nat)(z:Str):Prop where
 mg:mg z=some (.ref D0)
 is: ∀C∈CL,kitOne K (.ref C) (.ref D0)=some (C==D0)
theorem xE(T:Tx X.mg)(c:ClT X.K X.mg CL D0 z)(ha:QO X e fa)(dc:Gl X "isinstance":=by rfl)(aI:Gl X z:=by rfl)(i7:DB z:=by decide)(s1:starEach [e,.Name z p2] X.env=(false,eval e X.env)::starEach [.Name z p2] X.env:=by rfl)(s2:SE X (.Name z p2) []:=by rfl)(g6:BA X pos [.Name z p2]:=by rfl):
  QX X (.Call (.Name "isinstance" p) [e,.Name z p2] [] pos) (jw (tU CL D0) fa):=⟨Dz (w2:= .ref D0) ha.h (DF aI c.mg rfl i7) rfl (fun u h=>by cases h;rfl) (fun d zz h=>by
 unfold tU at h;split at h
 ·rename_i C ks vs;obtain⟨hc,rfl⟩:=gR h;exact⟨C,_,ks,vs,rfl,rfl,c.is C (by simpa using hc)⟩
 ·cases h) dc T.n_isinstance lC s1 s2 g6⟩
theorem xEV(T:Tx X.mg)(da:X.mg "ValueError"=none)(hk: ∀C∈CL,kitOne X.K (.ref C) (.type "ValueError")=some true)(ha:QO X e fa)(dc:Gl X "isinstance":=by rfl)(aI:Gl X "ValueError":=by rfl)(s1:starEach [e,.Name "ValueError" p2] X.env=(false,eval e X.env)::starEach [.Name "ValueError" p2] X.env:=by rfl)(s2:SE X (.Name "ValueError" p2) []:=by rfl)(g6:BA X pos [.Name "ValueError" p2]:=by rfl):
  QX X (.Call (.Name "isinstance" p) [e,.Name "ValueError" p2] [] pos) (jw (MY CL) fa):=⟨Dz (w2:= .ty "ValueError") ha.h (ug (v:= .ty "ValueError") aI da (by decide+kernel) rfl (by decide) (by decide)) rfl (fun u h=>by cases h;rfl) (fun d zz h=>by
 unfold MY at h;split at h
 ·rename_i C ks vs;obtain⟨hc,rfl⟩:=gR h;exact⟨C,_,ks,vs,rfl,rfl,hk C (by simpa using hc)⟩
 ·cases h) dc T.n_isinstance lC s1 s2 g6⟩
variable {x:Str}{i kk:Nat}{b8 apos:Pos}{a:gm}{f:F}
theorem Pd(hv:QO X (.Name x b8) (gf i))(g8:attributeBase (.Name x b8) "index" X.env (eval (.Name x b8) X.env)=eval (.Name x b8) X.env:=by rfl)
  (l4:((backTo pos (starEach [.Constant (.bool true) kk p2] X.env)).all (fun x=>!x.1)&&(backToKw pos (keywordEach [] X.env)).all (fun x=>x.1.isSome)&&decide ([Expr.Constant (.bool true) kk p2].length+([]:List Keyword).length+(if([]:List Keyword).isEmpty then 0 else 1)<30))=true:=by rfl)
  (g7:(apos.endLine==pos.line)=true:=by rfl)(hs:SE X (.Constant (.bool true) kk p2) []:=by rfl)(g0:BA X pos []:=by rfl):QX X (.Call (.Attribute (.Name x b8) "index" apos) [.Constant (.bool true) kk p2] [] pos) (Ks i):=⟨G7 hv.h g8 l4 g7 hs g0⟩
end
def Oy(Z:ZZ)(k:Nat)(x:Str)(ps:gG)(xc:List D->Option Str):Prop:= ∃f fd,FnOk Z.P Z.w Z.K Z.mg Z.base (CXx Z.P Z.w) k f fd ps (spR Z.K Z.mg xc)/\Z.mg x=some (.ref f)/\keepIn Z.K (.ref f)=true/\Binds Z.K fd ps []
theorem Oy.up{Z:ZZ}{k j:Nat}{x:Str}{ps:gG}{xc:List D->Option Str}(o:Oy Z k x ps xc)(h:k<=j:=by decide):Oy Z j x ps xc:=let⟨f,fd,a,b⟩:=o;⟨f,fd,a.mono h,b⟩
theorem oyB{Z:ZZ}{k:Nat}{x:Str}{st:Stmt}{N ps:gG}{xs:XS}(a:Fz Z.K Z.mg x st)(S:FnScope N ps (gg st))(b:BdA x st ps)
  (hb: ∀(f:fZ) (c9:gp) (A:gB) (outer:List Env) (s:gi) (H:Hp) (E:XK),Room k (A.deeper (envOfC x (gg st) s.heap.objs.size f c9))->un (A.deeper (envOfC x (gg st) s.heap.objs.size f c9)) 60->un (A.deeper (envOfC x (gg st) s.heap.objs.size f c9)) 1->un (A.deeper (envOfC x (gg st) s.heap.objs.size f c9)) 62->N.Nodup->
   PZs (my (CXx Z.P Z.w) Z.P Z.w Z.K Z.mg Z.base N x (gg st) f c9 A outer s H E) E (jD st) xs):Oy Z (k+1) x ps (xcF N.length ps.length xs):=
 let⟨f,fd,m,F⟩:=a
 ⟨f,fd,Kn F S fun c9 A outer s H E hr=>by
  have:=hr.un;exact hb f c9 A outer s H E hr (by unfold un;omega) (by unfold un;omega) (by unfold un;omega) S.nd,m,F.kp,F.binds b⟩
def ClX(Z:ZZ)(z:Str):Prop:= ∃C,Z.mg z=some (.ref C)/\excIn Z.K C veB "ValueError.__new__"=true
section
variable {X:Cx}{P:gC}{w:gy}{outer:List Env}{H0:Hp}{s0:gi}{E:XK}{A:ir}{st:Stmt}{t6 b:List Stmt}{x y:XS}{e:gm}{pos p f9:Pos}{f:FS}{z:Str}{a:gm}{fa:F}{k:Nat}{ps:gG}{xc:List D->Option Str}{es:iL}{fs:List FO}{ft:FT}{c:gm}
theorem zN(h1:QS X A (fun _=>True) (fun _=>none) st f)(h2:PZs X E t6 x):PZs X E (st::t6) (yL f x):=Lh h1.h h2
theorem zR(xk:XeOk X P w outer H0 s0 E)(c:ClX (zX X) z)(ha:QX X a fa)(hc:X.calm=true:=by rfl)(hg:Gl X z:=by rfl)(hd:DB z:=by decide)(hs:starEach [a] X.env=[(false,eval a X.env)]:=by rfl):PZ X E (.Raise (some (.Call (.Name z p) [a] [] f9)) none pos) (yM z fa):=
 let⟨_,hm,hK⟩:=c;Jb xk hc hK hm hg ha.h hd hs
theorem zI(hc:QT X c ft)(ha:PZs X E t6 x):PZ X E (.If c t6 b pos) (zIf ft x zNo):=Pb hc.h ha Pa
theorem zC(xk:XeOk X P w outer H0 s0 E)(O:Oy (zX X) k z ps xc)(hr:Room k X.A)(ha:QA X (e::es) fs)(hg:Gl X z:=by rfl)(i7:DB z:=by decide)(he:SE X e es:=by rfl)(g6:BA X pos es:=by rfl)(hp:X.prog=P:=by rfl)(hw:X.w=w:=by rfl):PZE X E (.Call (.Name z p) (e::es) [] pos) (wU xc fs):=by
 subst hp;subst hw;obtain⟨f,fd,F,hm,hk,hb⟩:=O;exact Li xk F hr hg hm hk hb ha.h i7 he g6
end
theorem Gh{P:gC}{w:gy}{K:Frag}{mg:jy}{base:gz}{N:gG}{q:Str}{scope:iq}{fl:fZ}{cd:gp}{b9:jl}{A:gB}{outer:List Env}{s:gi}{H:Hp}{E:XK}:
  XeOk (oP (CXx P w) P w K mg base N q scope fl cd b9 A outer s H E) P w outer H s E:=⟨rfl,rfl,rfl,rfl,rfl,rfl,rfl,rfl,fun _ _ h=>h⟩
def KC(q:Str)(Pt:fZ)(H:Hp):Prop:= ∃more,H Pt=some (.tbl (#[.str q 0]++more))
def spT(TB:List (Addr×Str))(sp:Sp):Sp:=fun vs H Q E=>(∀p∈TB,KC p.2 p.1 H)/\sp vs H Q E
structure TabX(X:Cx)(Pt:fZ):Prop where
 t:KC (X.env.qual++"<lambda>") Pt X.H₀
 c: ∃c,X.env.code= .ref c/\CodeHd X.base c Pt
 b:X.base.BuiltinsAt X.mg Pt
 g:mainGlobals≠Pt
def Rf(Z:ZZ)(st:Stmt)(NR:gG)(xf xc xr xx xn:Str)(i j k:Nat)(asg:gW)(aO:FS)(CI:Str->Option Nat):Prop:=
 ∃fr cO CR,Fun Z.K xf xf st fr cO/\Binds Z.K cO [xc] []/\Z.mg xf=some (.ref fr)/\(∀X:Cx,zX X=Z->RefBody X st NR fr xf xc xr xx xn CR i j (k+1) asg aO)/\ ∀z C0,CI z=some C0->Z.mg z=some (.ref C0)/\ClK Z.K C0 CR
def Cz(scope:iq):Bool:=decide (scope.kind= .function)&&!scope.isCoroutine&&!scope.isGenerator&&(scope.names.all fun y=>y.2 != .cell)
theorem Og{scope:iq}(h:Cz scope=true):LamScope scope:=by
 unfold Cz at h;simp only[lE,nH,decide_eq_true_eq,uG,bne_iff_ne] at h;exact⟨h.1.1.1,h.1.1.2,h.1.2,h.2⟩
theorem xRf{X:Cx}{Pt:fZ}{params:Arguments}{body:gm}{scope:iq}{pos w9 pf:Pos}{caps:gW}{N' NR:gG}{fB:F}{xB:XS}{aO:FS}{CI:Str->Option Nat}{asg:gW}{st:Stmt}{xf xc xr xx xn:Str}{i j k:Nat}
  (R:Rf (zX X) st NR xf xc xr xx xn i j k asg aO CI)(tb:TabX X Pt)(hr:Room (k+2) X.A)(CO:CompOk X N' scope caps 0)(LS:Cz scope=true)
  (hb: ∀(fl:fZ) (b9:jl) (c':fZ) (A:gB) (outer:List Env) (s:gi) (H:Hp) (E:XK),Room k (A.deeper (vZ (X.env.qual++"<lambda>") scope s.heap.objs.size fl (.ref c') b9))->
   QX (oP (CXx X.prog X.w) X.prog X.w X.K X.mg X.base N' (X.env.qual++"<lambda>") scope fl (.ref c') b9 A outer s H E) body fB/\PZE (oP (CXx X.prog X.w) X.prog X.w X.K X.mg X.base N' (X.env.qual++"<lambda>") scope fl (.ref c') b9 A outer s H E) E body xB)
  (fg:Gl X xf:=by rfl)(cz:DB xf:=by decide)(cw: ∀x,X.fn x=true:=by exact fun _=>rfl)(aK:defaultsOf params X.env=([],[]):=by rfl)(m7: ∀b9 pm c' m8,bindArgs (kla_fn "<lambda>" (X.env.qual++"<lambda>") params body scope b9 pm (.ref c') m8) ⟨[],[]⟩=pure []:=by exact fun _ _ _ _=>rfl)
  (he:SE X (.Lambda params body scope w9) []:=by rfl)(g6:BA X pos []:=by rfl):
  QX X (.Call (.Name xf pf) [.Lambda params body scope w9] [] pos) (E5 caps fB xB NR.length i aO CI):=by
 obtain⟨fr,cO,CR,F,fF,hm,hR,fJ⟩:=R;obtain⟨more,ht⟩:=tb.t;obtain⟨c,hc,hC⟩:=tb.c;exact⟨LY (hR X rfl) F fF fg hm cz cw hr ht hc hC tb.b tb.g CO (Og LS) aK m7 he g6 fJ fun fl b9 c' A outer s H E cH=>let⟨a,b⟩:=hb fl b9 c' A outer s H E cH;⟨a.h,b⟩⟩
theorem walkT{l:OpenLaw}{q:gC}{loose:gG}{XP:(Str->Option Value)->Heap->Prop}{YP:World->Heap->Prop}{d:DefRec}{K:Params->Frag}{LV:Nat}{x:Str}{ev:EvF}{TB:List (Addr×Str)}(hk:Room LV callerA)(hn:l.most=some 63)(cz:d.params.defaults=[])(hY: ∀(w:gy) (h:gz),YP w h->(K w.params).In h)
  (hYT: ∀(w:gy) (h:gz),YP w h-> ∀p∈TB,h.get? p.1=some (tabObj #[]))(eh: ∀(w:gy),∀p∈TB,(K w.params).lookup p.1=none)(dk:(TB.map (·.1)).Nodup)
  (F: ∀(w:gy) (mg:jy) (fa:fZ) (h:gz),(K w.params).In h->h.Ns mainGlobals mg->mg d.name=some (.ref fa)-> ∃fd:FuncData,(∀(s:gi) (u:gp),BindsTo s fd ⟨[u],[]⟩ [(x,u)])/\(∀p∈TB,∃c,codeHdIn (K w.params) c p.1=true)/\ ∀base:Heap,(K w.params).In base->base.Ns mainGlobals mg->(∀p∈TB,base.BuiltinsAt mg p.1)->FnOk l.prog w (K w.params) mg base CX0 LV fa fd [x] (spT TB (spF (K w.params) ev)))
  (M: ∀ns:List Int,ns.length<=63-> ∃o outs,ev [(.lst (ns.map .int),false)]=some ((.bl true,o),outs)):WalkO q loose XP YP l.row.toRowW d [] (fun f vs=>PySem.call f vs):=by
 refine Att.Kz hn cz fun w s₀ s₁ mg mb fa o pm cd doc a vs ns G Y ho hd l5 hmg cb hints hlen hg=>?_;have KX:=hY w _ Y;obtain⟨fd,hb,ee,hF⟩:=F w mg fa _ KX G.T.g hmg;have hT:=hYT w _ Y;refine EN (TB:=TB) KX G.T.g G.T.b G.T.builtins G.T.nolimit hg hT (eh w) (fun p hp=>?_) dk (fun p hp=>?_) cb hints (mE hlen (by decide)) hk hF hb (fun H hO hS=>?_) fun H e s' z=>z
 ·obtain⟨c,hc⟩:=ee p hp;obtain⟨o,vs,_,_,_,_,_,_,_,e1,e2,e3,e4,_⟩:=codeHd_of_K KX hc;exact⟨c,o,vs,e1,e2,e3,e4⟩
 ·obtain⟨bm,ob,h1,h2,h3,h4,h5,h6⟩:=G.T.bmain;refine⟨bm,ob,h1,h2,fun z=>?_,fun z=>?_,h3,h4,h5,h6⟩
  ·obtain⟨o',es,ep,e,dd,_⟩:=G.T.g;rw[z,e] at h3;cases h3;rw[dd] at h6;cases h6
  ·rw[z,hT p hp] at h3;cases h3;cases h6
 ·obtain⟨o,outs,e⟩:=M ns hlen;exact⟨fun p hp=>⟨#[],by rw[hO.all p hp];rfl⟩,Kg hO.all hS e⟩
def Nq(TB:List (Addr×Str))(H:Hp):Prop:= ∀p∈TB,KC p.2 p.1 H
theorem fnU{Z:ZZ}{k:Nat}{x:Str}{st:Stmt}{N ps:gG}{asg:gW}{fs:FS}{f:fZ}{fd:kE}{TB:List (Addr×Str)}(F:Fun Z.K x x st f fd)(S:FnScope N ps (gg st))
  (hb: ∀(c9:gp) (A:gB) (outer:List Env) (s:gi) (H:Hp) (E:XK) (L:ir),(∀i,L i->i<ps.length)->Room k (A.deeper (envOfC x (gg st) s.heap.objs.size f c9))->
   un (A.deeper (envOfC x (gg st) s.heap.objs.size f c9)) 60->un (A.deeper (envOfC x (gg st) s.heap.objs.size f c9)) 1->un (A.deeper (envOfC x (gg st) s.heap.objs.size f c9)) 62->un (A.deeper (envOfC x (gg st) s.heap.objs.size f c9)) 90->N.Nodup->
   c9=fd.code->Nq TB H->QQ (my CX0 Z.P Z.w Z.K Z.mg Z.base N x (gg st) f c9 A outer s H E).nox (fun i=>i∈asg) L H (jD st) fs):
  FnOk Z.P Z.w Z.K Z.mg Z.base CX0 (k+1) f fd ps (spT TB (spF Z.K (evF N.length ps.length asg fs))):=by
 obtain⟨oc,od,kV,doc,pm,an,c9,ct,t7,rfl,lk,l5⟩:=F.ex;refine Im lk l5 S (fun vs H Q E h=>Dq h.2) fun A outer s H vs Q E hr h=>?_;obtain⟨L,h1,h2⟩:=GG h.2;have:=hr.un;exact⟨_,((hb c9 A outer s H E L h1 hr (by unfold un;omega) (by unfold un;omega) (by unfold un;omega) (by unfold un;omega) S.nd rfl h.1).h).nox,h2⟩
def OzT(Z:ZZ)(TB:List (Addr×Str))(k:Nat)(x:Str)(ps:gG)(ev:EvF):Prop:= ∃f fd,FnOk Z.P Z.w Z.K Z.mg Z.base CX0 k f fd ps (spT TB (spF Z.K ev))/\Z.mg x=some (.ref f)/\keepIn Z.K (.ref f)=true/\Binds Z.K fd ps []
theorem OzT.up{Z:ZZ}{TB:List (Addr×Str)}{k j:Nat}{x:Str}{ps:gG}{ev:EvF}(o:OzT Z TB k x ps ev)(h:k<=j:=by decide):OzT Z TB j x ps ev:=let⟨f,fd,a,b⟩:=o;⟨f,fd,a.mono h,b⟩
def TbK(Z:ZZ)(TB:List (Addr×Str))(x:Str)(st:Stmt)(q:Str)(Pt:fZ):Prop:= ∃f fd c,Z.mg x=some (.ref f)/\Fun Z.K x x st f fd/\fd.code= .ref c/\CodeHd Z.base c Pt/\Z.base.BuiltinsAt Z.mg Pt/\mainGlobals≠Pt/\(Pt,q)∈TB
theorem QD{Z:ZZ}{k:Nat}{x q:Str}{st:Stmt}{N ps:gG}{asg:gW}{fs:FS}{f c Pt:fZ}{fd:kE}{TB:List (Addr×Str)}(F:Fun Z.K x x st f fd)(hc:fd.code= .ref c)(hC:CodeHd Z.base c Pt)(hB:Z.base.BuiltinsAt Z.mg Pt)(hg:mainGlobals≠Pt)(hm:(Pt,q)∈TB)(S:FnScope N ps (gg st))
  (hb: ∀(f:fZ) (c9:gp) (A:gB) (outer:List Env) (s:gi) (H:Hp) (E:XK) (L:ir),(∀i,L i->i<ps.length)->Room k (A.deeper (envOfC x (gg st) s.heap.objs.size f c9))->
   un (A.deeper (envOfC x (gg st) s.heap.objs.size f c9)) 60->un (A.deeper (envOfC x (gg st) s.heap.objs.size f c9)) 1->un (A.deeper (envOfC x (gg st) s.heap.objs.size f c9)) 62->un (A.deeper (envOfC x (gg st) s.heap.objs.size f c9)) 90->N.Nodup->
   TabX (my CX0 Z.P Z.w Z.K Z.mg Z.base N x (gg st) f c9 A outer s H E).nox Pt->QQ (my CX0 Z.P Z.w Z.K Z.mg Z.base N x (gg st) f c9 A outer s H E).nox (fun i=>i∈asg) L H (jD st) fs)
  (hq: ∀(L f:fZ) (cd:gp),(envOfC x (gg st) L f cd).qual++"<lambda>"=q:=by exact fun _ _ _=>rfl):FnOk Z.P Z.w Z.K Z.mg Z.base CX0 (k+1) f fd ps (spT TB (spF Z.K (evF N.length ps.length asg fs))):=
 fnU F S fun c9 A outer s H E L hL hr h1 h2 h3 h4 nd he hT=>hb f c9 A outer s H E L hL hr h1 h2 h3 h4 nd ⟨by
  show KC ((envOfC x (gg st) s.heap.objs.size f c9).qual++"<lambda>") Pt H;rw[hq];exact hT _ hm,⟨c,he.trans hc,hC⟩,hB,hg⟩
def FzT(K:Frag)(mg:jy)(x:Str)(st:Stmt)(Pt:fZ):Prop:= ∃f fd c,mg x=some (.ref f)/\Fun K x x st f fd/\fd.code= .ref c/\codeHdIn K c Pt=true
theorem fzT{K:Frag}{h:gz}{mg:jy}{x:Str}{st:Stmt}{f c Pt:fZ}{oc:gp}{od an:Option Addr}{t7:oj}{kV doc pm ct:gp}(X:K.In h)(G:h.Ns mainGlobals mg)(a:nsIn K mainGlobals x=some (some (.ref f)))
  (l:K.lookup f=some ⟨oc,od,.func (fnOf x x (nS st) (jD st) (gg st) .none kV doc pm an (.ref c) ct),t7⟩)(e:codeIn K (.ref c) x=true)(k:keepIn K (.ref f)=true)(hc:codeHdIn K c Pt=true):FzT K mg x st Pt:=⟨f,_,c,mg_of X G a,Il l e k,rfl,hc⟩
theorem FzT.tb{Z:ZZ}{x q:Str}{st:Stmt}{Pt:fZ}{TB:List (Addr×Str)}(a:FzT Z.K Z.mg x st Pt)(X:Z.K.In Z.base)(B: ∀p∈TB,Z.base.BuiltinsAt Z.mg p.1)(m:(Pt,q)∈TB)(hg:mainGlobals≠Pt:=by decide):TbK Z TB x st q Pt:=
 let⟨f,fd,c,h1,h2,h3,h4⟩:=a
 ⟨f,fd,c,h1,h2,h3,codeHd_of_K X h4,B _ m,hg,m⟩
theorem FzT.cd{K:Frag}{mg:jy}{x:Str}{st:Stmt}{Pt:fZ}(a:FzT K mg x st Pt): ∃c,codeHdIn K c Pt=true:=let⟨_,_,c,_,_,_,h⟩:=a;⟨c,h⟩
theorem ozT{Z:ZZ}{k:Nat}{x q:Str}{st:Stmt}{N ps:gG}{asg:gW}{fs:FS}{Pt:fZ}{TB:List (Addr×Str)}(a:TbK Z TB x st q Pt)(S:FnScope N ps (gg st))(b:BdA x st ps)
  (hb: ∀(f:fZ) (c9:gp) (A:gB) (outer:List Env) (s:gi) (H:Hp) (E:XK) (L:ir),(∀i,L i->i<ps.length)->Room k (A.deeper (envOfC x (gg st) s.heap.objs.size f c9))->
   un (A.deeper (envOfC x (gg st) s.heap.objs.size f c9)) 60->un (A.deeper (envOfC x (gg st) s.heap.objs.size f c9)) 1->un (A.deeper (envOfC x (gg st) s.heap.objs.size f c9)) 62->un (A.deeper (envOfC x (gg st) s.heap.objs.size f c9)) 90->N.Nodup->
   TabX (my CX0 Z.P Z.w Z.K Z.mg Z.base N x (gg st) f c9 A outer s H E).nox Pt->QQ (my CX0 Z.P Z.w Z.K Z.mg Z.base N x (gg st) f c9 A outer s H E).nox (fun i=>i∈asg) L H (jD st) fs)
  (hq: ∀(L f:fZ) (cd:gp),(envOfC x (gg st) L f cd).qual++"<lambda>"=q:=by exact fun _ _ _=>rfl):OzT Z TB (k+1) x ps (evF N.length ps.length asg fs):=
 let⟨f,fd,c,m,F,h1,h2,h3,h4,h5⟩:=a
 ⟨f,fd,QD F h1 h2 h3 h4 h5 S hb hq,m,F.kp,F.binds b⟩
section
variable {X:Cx}{k:Nat}{f:fZ}{fd:kE}{ps:gG}{x:Str}{p pos:Pos}{e a:gm}{es:iL}{ev:EvF}{fs:List FO}{fa:FO}{TB:List (Addr×Str)}
theorem Hy{sp:Sp}{t:TA}(F:FnOk X.prog X.w X.K X.mg X.base CX0 k f fd ps (spT TB sp))(ht:Nq TB X.H₀)(hr:Room k X.A)(hg:Gl X x)(hm:X.mg x=some (.ref f))(hk:keepIn X.K (.ref f)=true)(hb:Binds X.K fd ps [])
  (ha:PA X (e::es) t)(i7:(x==("__debug__":Str))=false)(he:starEach (e::es) X.env=(false,eval e X.env)::starEach es X.env)(g6:(backTo pos (starEach es X.env)).any (·.1)=false):
  PE X (.Call (.Name x p) (e::es) [] pos) (KP sp [] L2.E0 t):=by
 intro pins s σ H Q I h;refine sU (pB I hg hm ?_ i7);refine PySem.W.callWith_K (h₀:=X.base) I.ok.mod.kin hk (thn (ha pos pins s σ H _ I h) fun us s1 ⟨vs,H1,I1,r,q⟩=>⟨I1.kIn,?_⟩) he g6;exact GP F hr hb .nil K0 I1 r ⟨fun p hp=>let⟨m,e⟩:=ht p hp;let⟨m2,e2⟩:=I1.base.tbls _ _ e;⟨m++m2,by rw[e2,yI]⟩,q⟩
theorem xUT(O:OzT (zX X) TB k x ps ev)(ht:Nq TB X.H₀)(hr:Room k X.A)(ha:QA X (e::es) fs)(hg:Gl X x:=by rfl)(i7:DB x:=by decide)
  (he:SE X e es:=by rfl)(g6:BA X pos es:=by rfl):QX X (.Call (.Name x p) (e::es) [] pos) (gD ev fs):=
 let⟨_,_,ok,hm,kp,bi⟩:=O;⟨PX.imp (Hy ok ht hr hg hm kp bi ha.h i7 he g6) fun σ H Q hw=>by
 obtain⟨δ,T,rr,δ',E,e,k⟩:=hw;obtain⟨⟨os,δ1⟩,h1,e⟩:=fY e;obtain⟨args,h2,e⟩:=fY e;dsimp only at e;split at e
 ·rename_i nd;obtain⟨⟨r,outs⟩,h3,e⟩:=fY e;obtain⟨rfl,rfl⟩:=gH e;refine⟨δ,T,os,δ1,E,h1,fun vs H1 T1 B=>?_⟩;show spF X.K ev (vs++[]) H1 Q L2.E0;rw[sV];exact⟨Tc T σ δ1 vs args,args,r,outs,qZ E B h2 nd,h3,fun v H' P=>k v H' (wd E B h2 nd P)⟩
 ·cases e⟩
theorem sP{A L:ir}{H0:Hp}{b:gm}{y:Str}{px py pt av:Pos}{kt k2:Nat}{i j:Nat}{gs:List F}(hN:X.N.Nodup)(h:QA X [a,b] (gs.map gc))(hc:X.calm=true:=by rfl)(hi:X.N[i]?=some x:=by rfl)(hj:X.N[j]?=some y:=by rfl)(k6:i≠j:=by decide)(hx:X.env.scope.names.lookup x=some .local:=by rfl)(hy:X.env.scope.names.lookup y=some .local:=by rfl)
  (hw:swappedStores [.Tuple [.Name x px,.Name y py] kt pt] (.Tuple [a,b] k2 av) X.env=pure (some [x,y]):=by rfl)(hs:swapsWithSole [.Tuple [.Name x px,.Name y py] kt pt] (.Tuple [a,b] k2 av) pos.line X.env=pure false:=by rfl)(hA:A i:=by decide)(hB:A j:=by decide):
  QS X A L H0 (.Assign [.Tuple [.Name x px,.Name y py] kt pt] (.Tuple [a,b] k2 av) pos) (Al i j gs):=⟨JN hc hN hi hj k6 hx hy h.h hw hs hA hB⟩
theorem Pc(hm:X.mg "sum"=none)(ha:QA X [a] [fa])(hc:X.calm=true:=by rfl)(hg:Gl X "sum":=by rfl)(he:SE X a []:=by rfl)(g6:BA X pos []:=by rfl):QX X (.Call (.Name "sum" p) [a] [] pos) (gL (g1 MX) [fa]):=
 ⟨DA (E8 hc) hg hm (by decide+kernel) ha.h (by decide) (by decide) he g6⟩
end
structure ClsK(K:Frag)(mg:jy)(ct rs:List (Str×Nat))(CR:Nat):Prop where
 m: ∀p∈ct,mg p.1=some (.ref p.2)
 mr: ∀p∈rs,mg p.1=some (.ref p.2)
 is: ∀p∈rs,∀r∈ct,kitOne K (.ref p.2) (.ref r.2)=some (p.2==r.2)
 ve: ∀p∈rs,kitOne K (.ref p.2) (.type "ValueError")=some true
 ck: ∀p∈rs,ClK K p.2 CR
 ex: ∀p∈rs,excIn K p.2 veB "ValueError.__new__"=true
 su:mg "sum"=none
 vm:mg "ValueError"=none
 re:mg "RiddleError"=some (.ref CR)
theorem aN{α:Type}{P:α->Prop}: ∀p∈([]:List α),P p:=fun _ h=>nomatch h
theorem aC{α:Type}{P:α->Prop}{a:α}{l:List α}(h:P a)(r: ∀p∈l,P p): ∀p∈a::l,P p:=List.forall_mem_cons.mpr ⟨h,r⟩
def ctD(ct:List (Str×Nat))(z:Str):Nat:=(ct.lookup z).getD 0
section
variable {Z:ZZ}{ct rs:List (Str×Nat)}{CR:Nat}
theorem lkM{z:Str}{C:Nat}(h:ct.lookup z=some C):(z,C)∈ct:=mV h
theorem ClsK.x(c:ClsK Z.K Z.mg ct rs CR)(z:Str)(h:(rs.lookup z).isSome=true:=by decide):ClX Z z:=by
 obtain⟨C,hC⟩:=Fh.mp h;exact⟨C,c.mr _ (lkM hC),c.ex _ (lkM hC)⟩
theorem ClsK.t(c:ClsK Z.K Z.mg ct rs CR)(z:Str)(h:(ct.lookup z).isSome=true:=by decide):ClT Z.K Z.mg (rs.map (·.2)) (ctD ct z) z:=by
 obtain⟨C,hC⟩:=Fh.mp h;have:ctD ct z=C:=by unfold ctD;rw[hC];rfl
 rw[this];refine⟨c.m _ (lkM hC),fun D hD=>?_⟩;obtain⟨p,hp,rfl⟩:=oS.mp hD;exact c.is p hp _ (lkM hC)
theorem ClsK.v(c:ClsK Z.K Z.mg ct rs CR): ∀C∈rs.map (·.2),kitOne Z.K (.ref C) (.type "ValueError")=some true:=fun D hD=>by
 obtain⟨p,hp,rfl⟩:=oS.mp hD;exact c.ve p hp
theorem ClsK.ci(c:ClsK Z.K Z.mg ct rs CR): ∀z C0,rs.lookup z=some C0->Z.mg z=some (.ref C0)/\ClK Z.K C0 CR:=fun z C h=>⟨c.mr _ (lkM h),c.ck _ (lkM h)⟩
end
end PX
namespace PV
open PySem PySem.Spec PyProof.Rows L2 PX
abbrev OI:Nat:=100000
abbrev RD:Nat:=6
def oJ:FS:=(gw (kd (fIf (fT (gn (lh .Gt) (gf 1) (gc (fC (.int 0))))) (gn gIx (gf 0) (gc (gn gSub (gf 1) (gc (fC (.int 1)))))) (jw oI (gc (gn gIx (gf 0) (gc (gn gSub (gc (jw oI (gf 1))) (gc (fC (.int 1)))))))))) gZ)
def lH:EvF:=evF 2 2 [] oJ
def kT:FS:=(gw (sIf (fT (gn (lh .Lt) (gf 1) (gc (gL (g1 nR) [(gf 0)])))) (gw (kd (gn gIx (gf 0) (gf 1))) gZ) gZ) (gw (kd (fC (.int 0))) gZ))
def kf:EvF:=evF 2 2 [] kT
def lR:FS:=(gw (jc 2 (gD kf [(gf 0),(gf 1)])) (gw (sIf (fT (gn (lh .GtE) (gf 2) (gc (gn EY (gc (fC (.int 10))) (gc (fC (.int 18))))))) (gw (kd (kF [(gn gSub (gf 2) (gc (gn EY (gc (fC (.int 10))) (gc (fC (.int 18)))))),(fC (.bl true))])) gZ) gZ) (gw (kd (kF [(gn wI (gf 2) (gc (fC (.int 2147483647)))),(fC (.bl false))])) gZ)))
def kr:EvF:=evF 3 2 [2] lR
def mM:FS:=(gw (sIf (fT (gn gIx (gf 0) (gc (fC (.int 1))))) (gw (jc 2 (gn wI (gc (gn gIx (gf 0) (gc (fC (.int 0))))) (gf 1))) (gw (sd 0 (gn Ii (gc (gn gIx (gf 0) (gc (fC (.int 0))))) (gf 1)) (gc (fC (.int 0)))) (gw (pk 2) gZ))) gZ) (gw (sd 0 (gn wI (gc (gn jo (gc (gn mq (gc (gn gIx (gf 0) (gc (fC (.int 0))))) (gc (fC (.int 48271))))) (gc (fC (.int 29))))) (gc (fC (.int 2147483647)))) (gc (fC (.int 0)))) (gw (jc 3 (gn wI (gc (gn jo (gc (gn jo (gc (gn mq (gc (gn gIx (gf 0) (gc (fC (.int 0))))) (gc (gn gIx (gf 0) (gc (fC (.int 0))))))) (gc (gn mq (gc (fC (.int 39373))) (gc (gn gIx (gf 0) (gc (fC (.int 0))))))))) (gc (fC (.int 7))))) (gc (fC (.int 2147483629))))) (gw (jc 3 (gn wI (gc (gn jo (gc (gn mq (gf 3) (gf 3))) (gc (gn mq (gc (fC (.int 16807))) (gf 3))))) (gc (fC (.int 2147483587))))) (gw (kd (gn wI (gc (gn Ii (gf 3) (gc (fC (.int 8))))) (gf 1))) gZ)))))
def gu:EvF:=evF 4 2 [2,3] mM
def oK:FS:=(gw (jc 2 (gL (gRg .lst true) [(gc (fC (.int 1))),(gc (gn jo (gf 1) (gc (fC (.int 1)))))])) (gw (jc 3 (kF [])) (gw (tN (AJ (gf 1)) (gx 4) (gw (mn (kn 3 (gn mq (gc (mv 2 (gc (gD gu [(gf 0),(gc (gL (g1 nR) [(gf 2)]))])))) (gc (gn gIx (gc (kF [(fC (.int 1)),(jw oI (gc (fC (.int 1))))])) (gc (gD gu [(gf 0),(gc (fC (.int 2)))]))))))) gZ)) (gw (kd (gL (g1 kz) [(gf 3)])) gZ))))
def mx:EvF:=evF 5 2 [2,3,4] oK
def kB:FS:=(gw (kd (gn mq (gc (gn gIx (gf 0) (gc (gn gSub (gc (gL (g1 Ik) [(gf 1)])) (gc (fC (.int 1))))))) (gc (gn gIx (gc (kF [(fC (.int 1)),(jw oI (gc (fC (.int 1))))])) (gc (gL (g1 CG) [(gc (gn (lh .Lt) (gf 1) (gc (fC (.int 0)))))])))))) gZ)
def hG:EvF:=evF 2 2 [] kB
def ji(ev:EvF):FS:=(gw (sIf (fT (jw (tR [.tuple,.list]) (gf 1))) (gw (sIf (qh (fT (gn gNe (gc (jw (tR [.tuple]) (gf 0))) (gc (jw (tR [.tuple]) (gf 1))))) (fT (gn gNe (gc (jw (tR [.list]) (gf 0))) (gc (jw (tR [.list]) (gf 1)))))) (gw (kd (fC (.bl false))) gZ) gZ) (gw (kd (E7 (gn gEq (gc (gL (g1 nR) [(gf 0)])) (gc (gL (g1 nR) [(gf 1)]))) (gL (g1 Ij) [(gc (iR [] 2 (sv (gf 0) (gf 1)) (oy [(gx 0),(gx 1)]) jK (iP (gD ev [(gf 0),(gf 1)]))))]))) gZ)) gZ) (gw (kd (E7 (gn gEq (gf 0) (gf 1)) (gn gEq (gc (jw (tR [.bool]) (gf 0))) (gc (jw (tR [.bool]) (gf 1)))))) gZ))
def ie:Nat->EvF
 |0=>fun _=>none
 |m+1=>evF 2 2 [] (ji (ie m))
def pW:FS:=(gw (kd (gL (g1 kz) [(gc (gL (g1 sx) [(gc (iR [1] 1 (ky (kW 0)) (gx 1) jK (iP (gD lH [(gf 0),(gf 1)]))))]))])) gZ)
def kG:EvF:=evF 2 2 [] pW
def mO:FS:=(gw (jc 2 (iR [0] 1 (zk (gc (fC (.int 1))) (gc (gn jo (gf 1) (gc (fC (.int 1)))))) (gx 1) (fT (gn gEq (gc (gD gu [(gf 0),(gc (fC (.int 2)))])) (gc (fC (.int 0))))) (iP (gn mq (gf 1) (gc (gn gIx (gc (kF [(fC (.int 1)),(jw oI (gc (fC (.int 1))))])) (gc (gD gu [(gf 0),(gc (fC (.int 2)))])))))))) (gw (sIf (fT (gn gEq (gf 2) (gc (kF [])))) (gw (jc 2 (kF [(gn mq (gc (gn jo (gc (fC (.int 1))) (gc (gD gu [(gf 0),(gf 1)])))) (gc (gn gIx (gc (kF [(fC (.int 1)),(jw oI (gc (fC (.int 1))))])) (gc (gD gu [(gf 0),(gc (fC (.int 2)))])))))])) gZ) gZ) (gw (kd (gL (g1 kz) [(gf 2)])) gZ)))
def jr:EvF:=evF 3 2 [2] mO
def kZ:FS:=(gw (jc 2 (iR [1] 1 (ky (kW 0)) (gx 1) jK (iP (jh [(gL (g1 Ik) [(gc (gD hG [(gf 0),(gf 1)]))]),(gD hG [(gf 0),(gf 1)])])))) (gw (kd (gL (g1 kz) [(gc (iR [] 2 (ky (gL (g1 mK) [(gf 2)])) (oy [(gx 0),(gx 1)]) jK (iP (kW 1))))])) gZ))
def jb:EvF:=evF 3 2 [2] kZ
def nD:FS:=(gw (sIf (fT (gn gEq (gf 1) (gc (fC (.int 0))))) (gw (kd (jh [(fC (.int 0)),(jh [])])) gZ) gZ) (gw (jc 2 (gn gIx (gc (kF [(fC (.int 3)),(fC (.int 5)),(fC (.int 12))])) (gc (gD gu [(gf 0),(gc (fC (.int 3)))])))) (gw (jc 3 Iu) (gw (tN (AJ (gc (gD gu [(gf 0),(gc (gn jo (gf 2) (gc (fC (.int 1)))))]))) (gx 4) (gw (tj 3 (fC (.bl true)) (gc (gD jr [(gf 0),(gf 1)]))) gZ)) (gw (jc 5 (gD mx [(gf 0),(gf 1)])) (gw (jc 6 (gn AO (gc (gL (g1 zp) [(gf 3)])) (gc (gn gIx (gc (kF [(fC (.int 1)),(fC (.int 0))])) (gc (gD gu [(gf 0),(gc (fC (.int 2)))])))))) (gw (lj (fT (gn gNe (gf 6) (gc (kF [])))) (gw (jc 7 (gD jb [(gc (fPop 6)),(gf 5)])) (gw (sIf (fT (gn pF (gf 7) (gf 3))) (gw (tj 3 (fC (.bl true)) (gf 7)) (gw (mn (kn 6 (kW 7))) gZ)) gZ) gZ)) OI) (gw (kd (jh [(kW 1),(gL (g1 kz) [(gc (vW (gc (gL (g1 qR) [(gf 3)])) (gc (fC (.int 30)))))])])) gZ))))))))
def lp:EvF:=evF 8 2 [2,3,4,5,6,7] nD
def sy:FS:=(gw (jc 2 (gn jo (gc (gn gIx (gf 0) (gc (fC (.int 0))))) (gc (gn gIx (gf 1) (gc (fC (.int 0))))))) (gw (jc 3 (gL (gRg .tup false) [(gc (gn jo (gc (gn gIx (gf 0) (gc (fC (.int 0))))) (gc (fC (.int 1))))),(gc (gn jo (gf 2) (gc (fC (.int 1)))))])) (gw (jc 4 (gn jo (gc (gn gIx (gf 0) (gc (fC (.int 1))))) (gc (gL (g1 kz) [(gc (iR [3] 1 (ky (gn gIx (gf 1) (gc (fC (.int 1))))) (gx 1) jK (iP (gD kG [(gf 1),(gf 0)]))))])))) (gw (sIf (fT (gn (lh .Gt) (gf 2) (gc (fC (.int 5))))) (gw vg gZ) gZ) (gw (sIf (fT (gn (lh .Gt) (gc (gL (g1 nR) [(gf 4)])) (gc (fC (.int 30))))) (gw vg gZ) gZ) (gw (kd (jh [(kW 2),(gL (g1 kz) [(gc (gL (g1 mK) [(gf 4)]))])])) gZ))))))
def lU:EvF:=evF 5 2 [2,3,4] sy
def rQ:XS:=(yL (jc 2 (gn jo (gc (gn gIx (gf 0) (gc (fC (.int 0))))) (gc (gn gIx (gf 1) (gc (fC (.int 0))))))) (yL (jc 3 (gL (gRg .tup false) [(gc (gn jo (gc (gn gIx (gf 0) (gc (fC (.int 0))))) (gc (fC (.int 1))))),(gc (gn jo (gf 2) (gc (fC (.int 1)))))])) (yL (jc 4 (gn jo (gc (gn gIx (gf 0) (gc (fC (.int 1))))) (gc (gL (g1 kz) [(gc (iR [3] 1 (ky (gn gIx (gf 1) (gc (fC (.int 1))))) (gx 1) jK (iP (gD kG [(gf 1),(gf 0)]))))])))) (zOr (zIf (fT (gn (lh .Gt) (gf 2) (gc (fC (.int 5))))) (yM "TooMany" (fC (.str "together the riddles have more than five names"))) zNo) (yL (sIf (fT (gn (lh .Gt) (gf 2) (gc (fC (.int 5))))) (gw vg gZ) gZ) (zIf (fT (gn (lh .Gt) (gc (gL (g1 nR) [(gf 4)])) (gc (fC (.int 30))))) (yM "TooMany" (fC (.str "together the riddles have more than thirty clauses"))) zNo))))))
def oU:List D->Option Str:=xcF 5 2 rQ
def CT:List (Str×Nat):=[("NoName",37),("NoBit",49),("NoTurning",61),("NoAnswer",73),("NoNumber",85),("NoClause",97),("NoPutting",109),("TooMany",121),("NoRiddle",133),("BadNote",145)]
def wN:List (Str×Nat):=[("TooMany",121)]
def iZ(ct rs:List (Str×Nat)):FS:=(gw (sIf (fT (gn gIs (gf 1) (gc (fC .non)))) (gw (kd (fC .non)) gZ) gZ) (gw (jc 3 (kF [(jw (tU (rs.map (·.2)) (ctD ct "NoName")) (gf 1)),(jw (tU (rs.map (·.2)) (ctD ct "NoBit")) (gf 1)),(jw (tU (rs.map (·.2)) (ctD ct "NoTurning")) (gf 1))])) (gw (jc 3 (gn jo (gf 3) (gc (kF [(jw (tU (rs.map (·.2)) (ctD ct "NoAnswer")) (gf 1)),(jw (tU (rs.map (·.2)) (ctD ct "NoNumber")) (gf 1)),(jw (tU (rs.map (·.2)) (ctD ct "NoClause")) (gf 1))])))) (gw (jc 3 (gn jo (gf 3) (gc (kF [(jw (tU (rs.map (·.2)) (ctD ct "NoPutting")) (gf 1)),(jw (tU (rs.map (·.2)) (ctD ct "TooMany")) (gf 1)),(jw (tU (rs.map (·.2)) (ctD ct "NoRiddle")) (gf 1))])))) (gw (mn (kn 3 (jw (tU (rs.map (·.2)) (ctD ct "BadNote")) (gf 1)))) (gw (sIf (qh (mw (fT (jw (MY (rs.map (·.2))) (gf 1)))) (fT (gn gNe (gc (gL (g1 MX) [(gc (iR [] 1 (vN (gf 3)) (gx 0) jK (iP (gL (g1 CG) [(gf 0)]))))])) (gc (fC (.int 1)))))) (gw (kd (fC (.str "none of these"))) gZ) gZ) (gw (jc 4 (kF [(fC (.str "name")),(fC (.str "bit")),(fC (.str "turning")),(fC (.str "answer")),(fC (.str "number")),(fC (.str "clause")),(fC (.str "putting")),(fC (.str "many")),(fC (.str "riddle")),(fC (.str "note"))])) (gw (kd (gn gIx (gf 4) (gc (Ks 3)))) gZ))))))))
def tE:FS:=(gw (jc 2 (kF [(jh [])])) (gw (tN (zk (gc (fC (.int 1))) (gc (gn jo (gf 1) (gc (fC (.int 1)))))) (gx 3) (gw (jc 2 (gn jo (gc (gn jo (gf 2) (gc (iR [3] 1 (ky (kW 2)) (gx 1) jK (iP (gn jo (gf 1) (gc (jh [(kW 0)])))))))) (gc (iR [3] 1 (ky (kW 2)) (gx 1) jK (iP (gn jo (gf 1) (gc (jh [(jw oI (gf 0))])))))))) gZ)) (gw (jc 4 (iR [] 1 (ky (kW 2)) (gx 0) (fT (gn gNe (gf 0) (gc (jh [])))) (iP (kW 0)))) (gw (tN (AJ (gc (gD gu [(gf 0),(gc (fC (.int 6)))]))) (gx 5) (gw (mn (mv 4 (gc (gD gu [(gf 0),(gc (gL (g1 nR) [(gf 4)]))])))) gZ)) (gw (kd (jh [(kW 1),(gL (g1 kz) [(gc (vW (gc (gL (g1 mK) [(gf 4)])) (gc (fC (.int 30)))))])])) gZ)))))
def oN:EvF:=evF 6 2 [2,3,4,5] tE
def qS:FS:=(gw (sIf (fT (gn gEq (gc (gD gu [(gf 0),(gc (fC (.int 3)))])) (gc (fC (.int 0))))) (gw (kd (gD oN [(gf 0),(gc (gn jo (gc (fC (.int 2))) (gc (gD gu [(gf 0),(gc (fC (.int 2)))]))))])) gZ) gZ) (gw (kd (gD lp [(gf 0),(gc (gn gIx (gc (kF [(gD gu [(gf 0),(gc (fC (.int 6)))]),(gD gu [(gf 0),(gc (fC (.int 4)))])])) (gc (gD gu [(gf 0),(gc (fC (.int 2)))]))))])) gZ))
def jq:EvF:=evF 1 1 [] qS
def nC:FS:=(gw (Al 2 3 [(gn jo (gc (gn gIx (gf 0) (gc (fC (.int 0))))) (gc (gn gIx (gf 1) (gc (fC (.int 0)))))),(gn jo (gc (gL (g1 nR) [(gc (gn gIx (gf 0) (gc (fC (.int 1)))))])) (gc (gL (g1 nR) [(gc (gn gIx (gf 1) (gc (fC (.int 1)))))])))]) (gw (sIf (qh (fT (gn (lh .Gt) (gf 2) (gc (fC (.int 5))))) (fT (gn (lh .Gt) (gf 3) (gc (fC (.int 30)))))) (gw (kd (gn gEq (gc (E5 [0,1] (gD lU [(gf 0),(gf 1)]) (wU oU [(gf 0),(gf 1)]) 5 1 (iZ CT wN) (fun z=>wN.lookup z))) (gc (fC (.str "many"))))) gZ) gZ) (gw (jc 4 (gL (g1 vQ) [(gc (gn gIx (gf 0) (gc (fC (.int 1)))))])) (gw (tN (ky (gn gIx (gf 1) (gc (fC (.int 1))))) (gx 5) (gw (mn (kn 4 (gL (g1 kz) [(gc (iR [0] 1 (ky (kW 5)) (gx 1) jK (iP (gn gIx (gc (kF [(gn jo (gf 1) (gc (gn gIx (gf 0) (gc (fC (.int 0)))))),(gn gSub (gf 1) (gc (gn gIx (gf 0) (gc (fC (.int 0))))))])) (gc (gL (g1 CG) [(gc (gn (lh .Lt) (gf 1) (gc (fC (.int 0)))))]))))))]))) gZ)) (gw (kd (gD (ie RD) [(gc (gD lU [(gf 0),(gf 1)])),(gc (jh [(kW 2),(gL (g1 kz) [(gc (gL (g1 mK) [(gf 4)]))])]))])) gZ)))))
def gX:EvF:=evF 6 2 [2,3,4,5] nC
def vR:FS:=(gw (sIf (qh (mw (fT (gD gX [(gc (jh [(fC (.int 0)),(jh [])])),(gc (jh [(fC (.int 0)),(jh [])]))]))) (mw (fT (gD gX [(gc (jh [(fC (.int 1)),(jh [(jh [(fC (.int 1))])])])),(gc (jh [(fC (.int 1)),(jh [(jh [(jw oI (gc (fC (.int 1))))])])]))])))) (gw (kd (fC (.bl false))) gZ) gZ) (gw (tN (AJ (gc (gL (g2 Ih) [(gc (fC (.int 1))),(gc (gL (g2 Ig) [(gc (gL (g1 nR) [(gf 0)])),(gc (fC (.int 6)))]))]))) (gx 1) (gw (jc 2 (gD kr [(gf 0),(gf 1)])) (gw (Al 3 4 [(gD jq [(gf 2)]),(gD jq [(gf 2)])]) (gw (sIf (qh (mw (fT (gD gX [(gf 3),(gf 4)]))) (qh (mw (fT (gD gX [(gf 4),(gf 3)]))) (mw (fT (gD gX [(gf 3),(gc (jh [(fC (.int 0)),(jh [])]))]))))) (gw (kd (fC (.bl false))) gZ) gZ) gZ)))) (gw (kd (fC (.bl true))) gZ)))
def pX:EvF:=evF 5 1 [1,2,3,4] vR
end PV
namespace K82
open PySem PySem.Spec PyProof.Rows L2 PX PV
def top(i:Nat):Stmt:=PySem.Challenge.pw_twinriddles_k82_riddles_beside.main.body.getD i (.Pass ⟨0,0,0,0⟩)
abbrev TB82:List (Addr×Str):=[(245,"_law_right.<locals>.<lambda>")]
section
variable {Z:ZZ}{k:Nat}
abbrev nK:Stmt:=top 15
theorem Ah:FnScope ["turning","sign"] ["turning","sign"] (gg nK):=scM
abbrev vE(Z:ZZ)(k:Nat):Prop:=Oz Z k "led_sign" ["turning","sign"] lH
theorem A6:BdA "led_sign" nK ["turning","sign"]:=fun _ _ _ _ _ _=>us1 fun _=>us1 fun _=>us0 rfl
theorem Aw(a:Fz Z.K Z.mg "led_sign" nK)(T:Tx Z.mg):vE Z (k+1):=by
 have S:=Ah;refine ozB (asg:=[]) (fs:=oJ) a S A6 fun f c9 A outer s H E L hL hr hu n6 n4 x8 nd=>?_;exact(s1 (sR (xIf (tCmp ⟨(kL (.inr (.inr (.inl rfl))) hu)⟩ xV (xO x3)) (xIx xV (xO (iQ ⟨qJ⟩ xV (xO x3)))) (zP (xO (xIx xV (xO (iQ ⟨qJ⟩ (xO (zP xV)) (xO x3)))))))) s0)
abbrev lP:Stmt:=top 16
theorem wz:FnScope ["clause","turning"] ["clause","turning"] (gg lP):=scM
abbrev nN(Z:ZZ)(k:Nat):Prop:=Oz Z k "led_clause" ["clause","turning"] kG
theorem wL:BdA "led_clause" lP ["clause","turning"]:=fun _ _ _ _ _ _=>us1 fun _=>us1 fun _=>us0 rfl
theorem wC(a:Fz Z.K Z.mg "led_clause" lP)(T:Tx Z.mg)(O_led_sign:vE Z k):nN Z (k+1):=by
 have S:=wz;refine ozB (asg:=[]) (fs:=pW) a S wL fun f c9 A outer s H E L hL hr hu n6 n4 x8 nd=>?_;exact(s1 (sR (xT T rfl ⟨iO⟩ (xA (xO (xSA T (xA (xO (by exact xC (N':=["turning","sign"]) (cOk S) (by decide+kernel) (iS xW) fun _ _ _ _ _ _ nd=>⟨(gN nd),f0,fun _=>bE (xU O_led_sign hr (xA xV (xA xV xA0)))⟩)) xA0))) xA0))) s0)
abbrev oD:Stmt:=top 18
theorem xg:FnScope ["one","other","names","further","clauses"] ["one","other"] (gg oD):=scM
abbrev Az(Z:ZZ)(k:Nat):Prop:=Oz Z k "beside" ["one","other"] lU
theorem xY:BdA "beside" oD ["one","other"]:=fun _ _ _ _ _ _=>us1 fun _=>us1 fun _=>us0 rfl
abbrev zO(Z:ZZ)(k:Nat):Prop:=Oy Z k "beside" ["one","other"] oU
theorem Ej{CR:Nat}(a:Fz Z.K Z.mg "beside" oD)(T:Tx Z.mg)(CK:ClsK Z.K Z.mg CT wN CR)(f7: ∃t,Z.mg "MOST_NAMES"=some (.int 5 t))(d8: ∃t,Z.mg "MOST_CLAUSES"=some (.int 30 t))(j5:nN Z k):zO Z (k+1):=by
 have S:=xg;have xk:= @rR;refine oyB (xs:=rQ) a S xY fun f c9 A outer s H E hr hu n6 n4 nd=>?_;exact(zN (A:=fun i=>i<40) (sS nd (iQ ⟨ik⟩ (xO (xIx xV (xO x3))) (xO (xIx xV (xO x3))))) (zN (A:=fun i=>i<40) (sS nd (Lj T rfl (xA (xO (iQ ⟨ik⟩ (xO (xIx xV (xO x3))) (xO x3))) (xA (xO (iQ ⟨ik⟩ xV (xO x3))) xA0)))) (zN (A:=fun i=>i<40) (sS nd (iQ ⟨ik⟩ (xO (xIx xV (xO x3))) (xO (xT T rfl ⟨iO⟩ (xA (xO (by exact xC (N':=["further","clause"]) (cOk S) (by decide+kernel) (iS (xIx xV (xO x3))) fun _ _ _ _ _ _ nd=>⟨(gN nd),f0,fun _=>bE (xU j5 hr (xA xV (xA xV xA0)))⟩)) xA0))))) (OZ (yK (zI (tCmp ⟨(kL (.inr (.inr (.inl rfl))) hu)⟩ xV (xO (x5 f7))) (yK (zR rR (CK.x "TooMany") x4)))) (zN (A:=fun i=>i<40) (sI (tCmp ⟨(kL (.inr (.inr (.inl rfl))) hu)⟩ xV (xO (x5 f7))) (s1 sX s0) s0) (yK (zI (tCmp ⟨(kL (.inr (.inr (.inl rfl))) hu)⟩ (xO (xB T rfl ⟨jW⟩ (xA xV xA0))) (xO (x5 d8))) (yK (zR rR (CK.x "TooMany") x4)))))))))
theorem EJ(a:Fz Z.K Z.mg "beside" oD)(T:Tx Z.mg)(f7: ∃t,Z.mg "MOST_NAMES"=some (.int 5 t))(d8: ∃t,Z.mg "MOST_CLAUSES"=some (.int 30 t))(j5:nN Z k):Az Z (k+1):=by
 have S:=xg;refine ozB (asg:=[2,3,4]) (fs:=sy) a S xY fun f c9 A outer s H E L hL hr hu n6 n4 x8 nd=>?_;exact(s1 (sS nd (iQ ⟨ik⟩ (xO (xIx xV (xO x3))) (xO (xIx xV (xO x3))))) (s1 (sS nd (Lj T rfl (xA (xO (iQ ⟨ik⟩ (xO (xIx xV (xO x3))) (xO x3))) (xA (xO (iQ ⟨ik⟩ xV (xO x3))) xA0)))) (s1 (sS nd (iQ ⟨ik⟩ (xO (xIx xV (xO x3))) (xO (xT T rfl ⟨iO⟩ (xA (xO (by exact xC (N':=["further","clause"]) (cOk S) (by decide+kernel) (iS (xIx xV (xO x3))) fun _ _ _ _ _ _ nd=>⟨(gN nd),f0,fun _=>bE (xU j5 hr (xA xV (xA xV xA0)))⟩)) xA0))))) (s1 (sI (tCmp ⟨(kL (.inr (.inr (.inl rfl))) hu)⟩ xV (xO (x5 f7))) (s1 sX s0) s0) (s1 (sI (tCmp ⟨(kL (.inr (.inr (.inl rfl))) hu)⟩ (xO (xB T rfl ⟨jW⟩ (xA xV xA0))) (xO (x5 d8))) (s1 sX s0) s0) (s1 (sR (mf (xL xW (xL (xT T rfl ⟨iO⟩ (xA (xO (xB T rfl ⟨(lS n4)⟩ (xA xV xA0))) xA0)) xL0)))) s0))))))
abbrev lA:Stmt:=top 20
theorem vf:FnScope ["_law_script","_law_k"] ["_law_script","_law_k"] (gg lA):=scM
abbrev pU(Z:ZZ)(k:Nat):Prop:=Oz Z k "_law_cell_at" ["_law_script","_law_k"] kf
theorem wk:BdA "_law_cell_at" lA ["_law_script","_law_k"]:=fun _ _ _ _ _ _=>us1 fun _=>us1 fun _=>us0 rfl
theorem vD(a:Fz Z.K Z.mg "_law_cell_at" lA)(T:Tx Z.mg):pU Z (k+1):=by
 have S:=vf;refine ozB (asg:=[]) (fs:=kT) a S wk fun f c9 A outer s H E L hL hr hu n6 n4 x8 nd=>?_;exact(s1 (sI (tCmp ⟨(kL (.inl rfl) hu)⟩ xV (xO (xB T rfl ⟨jW⟩ (xA xV xA0)))) (s1 (sR (xIx xV xV)) s0) s0) (s1 (sR x3) s0))
abbrev mF:Stmt:=top 21
theorem yV:FnScope ["_law_script","_law_k","_law_cell"] ["_law_script","_law_k"] (gg mF):=scM
abbrev tw(Z:ZZ)(k:Nat):Prop:=Oz Z k "_law_state" ["_law_script","_law_k"] kr
theorem zE:BdA "_law_state" mF ["_law_script","_law_k"]:=fun _ _ _ _ _ _=>us1 fun _=>us1 fun _=>us0 rfl
theorem zd(a:Fz Z.K Z.mg "_law_state" mF)(T:Tx Z.mg)(O_law_cell_at:pU Z k):tw Z (k+1):=by
 have S:=yV;refine ozB (asg:=[2]) (fs:=lR) a S zE fun f c9 A outer s H E L hL hr hu n6 n4 x8 nd=>?_;exact(s1 (sS nd (xU O_law_cell_at hr (xA xV (xA xV xA0)))) (s1 (sI (tCmp ⟨(kL (.inr (.inr (.inr rfl))) hu)⟩ xV (xO (iQ ⟨DI⟩ (xO x3) (xO x3)))) (s1 (sR (nI (xL (iQ ⟨qJ⟩ xV (xO (iQ ⟨DI⟩ (xO x3) (xO x3)))) (xL x2 xL0)))) s0) s0) (s1 (sR (nI (xL (iQ ⟨pv⟩ xV (xO x3)) (xL x2 xL0)))) s0)))
abbrev nL:Stmt:=top 22
theorem Ai:FnScope ["_law_state_here","_law_many","_law_found","_law_mixed"] ["_law_state_here","_law_many"] (gg nL):=scM
abbrev lg(Z:ZZ)(k:Nat):Prop:=Oz Z k "_law_take" ["_law_state_here","_law_many"] gu
theorem A7:BdA "_law_take" nL ["_law_state_here","_law_many"]:=fun _ _ _ _ _ _=>us1 fun _=>us1 fun _=>us0 rfl
theorem Ax(a:Fz Z.K Z.mg "_law_take" nL)(T:Tx Z.mg):lg Z (k+1):=by
 have S:=Ai;refine ozB (asg:=[2,3]) (fs:=mM) a S A7 fun f c9 A outer s H E L hL hr hu n6 n4 x8 nd=>?_;exact(s1 (sI (Ac (xIx xV (xO x3))) (s1 (sS nd (iQ ⟨pv⟩ (xO (xIx xV (xO x3))) xV)) (s1 (sIx xV (iQ ⟨DJ⟩ (xO (xIx xV (xO x3))) xV) (xO x3)) (s1 (sRV (fun h=>absurd (hL _ h) (by decide))) s0))) s0) (s1 (sIx xV (iQ ⟨pv⟩ (xO (iQ ⟨ik⟩ (xO (iQ ⟨lB⟩ (xO (xIx xV (xO x3))) (xO x3))) (xO x3))) (xO x3)) (xO x3)) (s1 (sS nd (iQ ⟨pv⟩ (xO (iQ ⟨ik⟩ (xO (iQ ⟨ik⟩ (xO (iQ ⟨lB⟩ (xO (xIx xV (xO x3))) (xO (xIx xV (xO x3))))) (xO (iQ ⟨lB⟩ (xO x3) (xO (xIx xV (xO x3))))))) (xO x3))) (xO x3))) (s1 (sS nd (iQ ⟨pv⟩ (xO (iQ ⟨ik⟩ (xO (iQ ⟨lB⟩ xV xV)) (xO (iQ ⟨lB⟩ (xO x3) xV)))) (xO x3))) (s1 (sR (iQ ⟨pv⟩ (xO (iQ ⟨DJ⟩ xV (xO x3))) xV)) s0)))))
abbrev ly:Stmt:=top 23
theorem vb:FnScope ["_law_state_here","_law_names","_law_rest","_law_found","_law_turn"] ["_law_state_here","_law_names"] (gg ly):=scM
abbrev pT(Z:ZZ)(k:Nat):Prop:=Oz Z k "_law_turning" ["_law_state_here","_law_names"] mx
theorem wg:BdA "_law_turning" ly ["_law_state_here","_law_names"]:=fun _ _ _ _ _ _=>us1 fun _=>us1 fun _=>us0 rfl
theorem vB(a:Fz Z.K Z.mg "_law_turning" ly)(T:Tx Z.mg)(b6:lg Z k):pT Z (k+1):=by
 have S:=vb;refine ozB (asg:=[2,3,4]) (fs:=oK) a S wg fun f c9 A outer s H E L hL hr hu n6 n4 x8 nd=>?_;exact(s1 (sS nd (Lj T rfl (xA (xO x3) (xA (xO (iQ ⟨ik⟩ xV (xO x3))) xA0)))) (s1 (sS nd (nI xL0)) (s1 (sF (iR1 T (xA xV xA0)) (gN nd) (s1 (sE (Jc xV (iQ ⟨lB⟩ (xO (NF xV (xO (xU b6 hr (xA xV (xA (xO (xB T rfl ⟨jW⟩ (xA xV xA0))) xA0)))))) (xO (xIx (xO (nI (xL x3 (xL (zP (xO x3)) xL0)))) (xO (xU b6 hr (xA xV (xA (xO x3) xA0))))))))) s0)) (s1 (sR (xT T rfl ⟨iO⟩ (xA xV xA0))) s0))))
abbrev kR:Stmt:=top 24
theorem tM:FnScope ["_law_turning_here","_law_sign"] ["_law_turning_here","_law_sign"] (gg kR):=scM
abbrev oG(Z:ZZ)(k:Nat):Prop:=Oz Z k "_law_led_sign" ["_law_turning_here","_law_sign"] hG
theorem tX:BdA "_law_led_sign" kR ["_law_turning_here","_law_sign"]:=fun _ _ _ _ _ _=>us1 fun _=>us1 fun _=>us0 rfl
theorem tP(a:Fz Z.K Z.mg "_law_led_sign" kR)(T:Tx Z.mg):oG Z (k+1):=by
 have S:=tM;refine ozB (asg:=[]) (fs:=kB) a S tX fun f c9 A outer s H E L hL hr hu n6 n4 x8 nd=>?_;exact(s1 (sR (iQ ⟨lB⟩ (xO (xIx xV (xO (iQ ⟨qJ⟩ (xO (xB T rfl ⟨xM⟩ (xA xV xA0))) (xO x3))))) (xO (xIx (xO (nI (xL x3 (xL (zP (xO x3)) xL0)))) (xO (xT T rfl ⟨sD⟩ (xA (xO (Ek ⟨(kL (.inl rfl) hu)⟩ xV (xO x3))) xA0))))))) s0)
abbrev lQ:Stmt:=top 25
theorem wA:FnScope ["_law_state_here","_law_names","_law_signs"] ["_law_state_here","_law_names"] (gg lQ):=scM
abbrev qL(Z:ZZ)(k:Nat):Prop:=Oz Z k "_law_clause" ["_law_state_here","_law_names"] jr
theorem wM:BdA "_law_clause" lQ ["_law_state_here","_law_names"]:=fun _ _ _ _ _ _=>us1 fun _=>us1 fun _=>us0 rfl
theorem wD(a:Fz Z.K Z.mg "_law_clause" lQ)(T:Tx Z.mg)(b6:lg Z k):qL Z (k+1):=by
 have S:=wA;refine ozB (asg:=[2]) (fs:=mO) a S wM fun f c9 A outer s H E L hL hr hu n6 n4 x8 nd=>?_;exact(s1 (sC (N':=["_law_state_here","_law_name"]) nd (cOk S) (by decide+kernel) (iR2 T (xA (xO x3) (xA (xO (iQ ⟨ik⟩ xV (xO x3))) xA0))) fun _ _ _ _ _ _ nd=>⟨(gN nd),(f1 (tCmp ⟨(oF hu)⟩ (xO (xU b6 hr (xA xV (xA (xO x3) xA0)))) (xO x3))),fun _=>bE (iQ ⟨lB⟩ xV (xO (xIx (xO (nI (xL x3 (xL (zP (xO x3)) xL0)))) (xO (xU b6 hr (xA xV (xA (xO x3) xA0)))))))⟩) (s1 (sI (tCmp ⟨(oF hu)⟩ xV (xO (nI xL0))) (s1 (sS nd (nI (xL (iQ ⟨lB⟩ (xO (iQ ⟨ik⟩ (xO x3) (xO (xU b6 hr (xA xV (xA xV xA0)))))) (xO (xIx (xO (nI (xL x3 (xL (zP (xO x3)) xL0)))) (xO (xU b6 hr (xA xV (xA (xO x3) xA0))))))) xL0))) s0) s0) (s1 (sR (xT T rfl ⟨iO⟩ (xA xV xA0))) s0)))
abbrev kh:Stmt:=top 26
theorem qE:FnScope ["_law_clause_here","_law_turning_here","_law_row"] ["_law_clause_here","_law_turning_here"] (gg kh):=scM
abbrev nu(Z:ZZ)(k:Nat):Prop:=Oz Z k "_law_led_clause" ["_law_clause_here","_law_turning_here"] jb
theorem rd:BdA "_law_led_clause" kh ["_law_clause_here","_law_turning_here"]:=fun _ _ _ _ _ _=>us1 fun _=>us1 fun _=>us0 rfl
theorem qK(a:Fz Z.K Z.mg "_law_led_clause" kh)(T:Tx Z.mg)(O_law_led_sign:oG Z k):nu Z (k+1):=by
 have S:=qE;refine ozB (asg:=[2]) (fs:=kZ) a S rd fun f c9 A outer s H E L hL hr hu n6 n4 x8 nd=>?_;exact(s1 (sC (N':=["_law_turning_here","_law_sign"]) nd (cOk S) (by decide+kernel) (iS xW) fun _ _ _ _ _ _ nd=>⟨(gN nd),f0,fun _=>bE (mf (xL (xB T rfl ⟨xM⟩ (xA (xO (xU O_law_led_sign hr (xA xV (xA xV xA0)))) xA0)) (xL (xU O_law_led_sign hr (xA xV (xA xV xA0))) xL0)))⟩) (s1 (sR (xT T rfl ⟨iO⟩ (xA (xO (by exact xC (N':=["_law_name","_law_sign"]) (cOk S) (by decide+kernel) (iS (xB T rfl ⟨(lS n4)⟩ (xA xV xA0))) fun _ _ _ _ _ _ nd=>⟨(gT (gN nd) (gN nd)),f0,fun _=>bE xW⟩)) xA0))) s0))
abbrev kK:Stmt:=top 28
theorem rZ:FnScope ["_law_state_here","_law_names","_law_most","_law_some","_law_turn","_law_turning_here","_law_fresh","_law_clause_here"] ["_law_state_here","_law_names"] (gg kK):=scM
abbrev og(Z:ZZ)(k:Nat):Prop:=Oz Z k "_law_riddle_of" ["_law_state_here","_law_names"] lp
theorem sH:BdA "_law_riddle_of" kK ["_law_state_here","_law_names"]:=fun _ _ _ _ _ _=>us1 fun _=>us1 fun _=>us0 rfl
theorem sf(a:Fz Z.K Z.mg "_law_riddle_of" kK)(T:Tx Z.mg)(b6:lg Z k)(O_law_clause:qL Z k)(O_law_turning:pT Z k)(O_law_led_clause:nu Z k):og Z (k+1):=by
 have S:=rZ;refine ozB (asg:=[2,3,4,5,6,7]) (fs:=nD) a S sH fun f c9 A outer s H E L hL hr hu n6 n4 x8 nd=>?_;exact(s1 (sI (tCmp ⟨(oF hu)⟩ xV (xO x3)) (s1 (sR (mf (xL x3 (xL (mf xL0) xL0)))) s0) s0) (s1 (sS nd (xIx (xO (nI (xL x3 (xL x3 (xL x3 xL0))))) (xO (xU b6 hr (xA xV (xA (xO x3) xA0)))))) (s1 (sS nd x7) (s1 (sF (iR1 T (xA (xO (xU b6 hr (xA xV (xA (xO (iQ ⟨ik⟩ xV (xO x3))) xA0)))) xA0)) (gN nd) (s1 (sDP n6 xV x2 (xO (xU O_law_clause hr (xA xV (xA xV xA0))))) s0)) (s1 (sS nd (xU O_law_turning hr (xA xV (xA xV xA0)))) (s1 (sS nd (iQ ⟨HE⟩ (xO (xT T rfl ⟨(C3 rfl)⟩ (xA xV xA0))) (xO (xIx (xO (nI (xL x3 (xL x3 xL0)))) (xO (xU b6 hr (xA xV (xA (xO x3) xA0)))))))) (s1 (sW (tCmp ⟨(vA hu)⟩ xV (xO (nI xL0))) (s1 (sS nd (xU O_law_led_clause hr (xA (xO (ND xV)) (xA xV xA0)))) (s1 (sI (tCmp ⟨(Cm n4)⟩ xV xV) (s1 (sDP n6 xV x2 xV) (s1 (sE (Jc xV xW)) s0)) s0) s0))) (s1 (sR (mf (xL xW (xL (xT T rfl ⟨iO⟩ (xA (xO (NC (xO (xB T rfl ⟨(zB rfl n4)⟩ (xA xV xA0))) (xO x3))) xA0)) xL0)))) s0))))))))
abbrev mm:Stmt:=top 29
theorem Aj:FnScope ["_law_found","_law_due"] ["_law_found","_law_due"] (gg mm):=scM
abbrev Co(Z:ZZ)(k:Nat):Prop:=Oz Z k "_law_same" ["_law_found","_law_due"] (ie RD)
theorem tK:BdA "_law_same" mm ["_law_found","_law_due"]:=fun _ _ _ _ _ _=>us1 fun _=>us1 fun _=>us0 rfl
theorem zc{ev:EvF}(a:Fz Z.K Z.mg "_law_same" mm)(T:Tx Z.mg)(k7:Oz Z k "_law_same" ["_law_found","_law_due"] ev):Oz Z (k+1) "_law_same" ["_law_found","_law_due"] (evF 2 2 [] (ji ev)):=by
 have S:=Aj;refine ozB (asg:=[]) (fs:=ji ev) a S tK fun f c9 A outer s H E L hL hr hu n6 n4 x8 nd=>?_;exact(s1 (sI (Ac (xI2 T rfl rfl xV)) (s1 (sI (tW (wOr (tCmp ⟨(vA hu)⟩ (xO (xI T rfl xV)) (xO (xI T rfl xV))) (Gq (tCmp ⟨(vA hu)⟩ (xO (xI T rfl xV)) (xO (xI T rfl xV)))))) (s1 (sR x2) s0) s0) (s1 (sR (NG (Ek ⟨(oF hu)⟩ (xO (xB T rfl ⟨jW⟩ (xA xV xA0))) (xO (xB T rfl ⟨jW⟩ (xA xV xA0)))) (xBo (xB T rfl ⟨(Fc rfl)⟩ (xA (xO (by exact xC (N':=["_law_one","_law_other"]) (cOk S) (by decide+kernel) (iZV T xV xV) fun _ _ _ _ _ _ nd=>⟨(gT (gN nd) (gN nd)),f0,fun _=>bE (xU k7 hr (xA xV (xA xV xA0)))⟩)) xA0))))) s0)) s0) (s1 (sR (NG (Ek ⟨(oF hu)⟩ xV xV) (xBo (Ek ⟨(oF hu)⟩ (xO (xI T rfl xV)) (xO (xI T rfl xV)))))) s0))
theorem tu(a:Fz Z.K Z.mg "_law_same" mm)(T:Tx Z.mg): ∀m,Oz Z m "_law_same" ["_law_found","_law_due"] (ie m)
 |0=>oz0 a tK
 |m+1=>zc a T (tu a T m)
abbrev jU:Stmt:=top 30
theorem vd:FnScope ["_law_call","_law_error","e","_law_sorts","_law_words"] ["_law_call"] (gg jU):=scM
theorem wj:BdA "_law_refused" jU ["_law_call"]:=fun _ _ _ _ _ _=>us1 fun _=>us0 rfl
abbrev pR(Z:ZZ)(k:Nat):Prop:=Rf Z jU ["_law_call","_law_error","e","_law_sorts","_law_words"] "_law_refused" "_law_call" "RiddleError" "_law_error" "e" 1 2 k [1,2,3,4] (iZ CT wN) (fun z=>wN.lookup z)
theorem vC{CR:Nat}(a:Fz Z.K Z.mg "_law_refused" jU)(T:Tx Z.mg)(CK:ClsK Z.K Z.mg CT wN CR):pR Z k:=by
 have S:=vd;obtain⟨f,fd,m,F⟩:=a;refine⟨f,fd,CR,F,F.binds wj,m,fun X hX=>?_,CK.ci⟩;subst hX;refine⟨S,by decide,rfl,rfl,by decide,by decide,rfl,rfl,rfl,rfl,CK.re,by decide,_,_,_,_,_,_,_,_,_,_,_,rfl,fun c9 A outer s H L hL hr=>?_⟩;have nd:=S.nd;have hq:=hr.un;have hu:un (A.deeper (envOfC "_law_refused" (gg jU) s.heap.objs.size f c9)) 60:=by unfold un;omega
 refine⟨rfl,rfl,QS.h (show QS _ _ _ _ _ _ from(sS nd x1)),QQ.h (show QQ _ _ _ _ _ (iZ CT wN) from(s1 (sI (tCmp ⟨MC⟩ xV (xO x1)) (s1 (sR x1) s0) s0) (s1 (sS nd (nI (xL (xE T (CK.t "NoName") xV) (xL (xE T (CK.t "NoBit") xV) (xL (xE T (CK.t "NoTurning") xV) xL0))))) (s1 (sS nd (iQ ⟨ik⟩ xV (xO (nI (xL (xE T (CK.t "NoAnswer") xV) (xL (xE T (CK.t "NoNumber") xV) (xL (xE T (CK.t "NoClause") xV) xL0))))))) (s1 (sS nd (iQ ⟨ik⟩ xV (xO (nI (xL (xE T (CK.t "NoPutting") xV) (xL (xE T (CK.t "TooMany") xV) (xL (xE T (CK.t "NoRiddle") xV) xL0))))))) (s1 (sE (Jc xV (xE T (CK.t "BadNote") xV))) (s1 (sI (tW (wOr (tNot (Ac (xEV T CK.vm CK.v xV))) (Gq (tCmp ⟨(vA hu)⟩ (xO (Pc CK.su (xA (xO (by exact xC (N':=["_law_kind"]) (cOk S) (by decide+kernel) (iSV xV) fun _ _ _ _ _ _ nd=>⟨(gN nd),f0,fun _=>bE (xT T rfl ⟨sD⟩ (xA xV xA0))⟩)) xA0))) (xO x3))))) (s1 (sR x4) s0) s0) (s1 (sS nd (nI (xL x4 (xL x4 (xL x4 (xL x4 (xL x4 (xL x4 (xL x4 (xL x4 (xL x4 (xL x4 xL0)))))))))))) (s1 (sR (xIx xV (xO (Pd xV)))) s0)))))))))⟩
abbrev nM:Stmt:=top 31
theorem Ak:FnScope ["_law_state_here","_law_names","_law_found","_law_name","_law_rows","_law_turn"] ["_law_state_here","_law_names"] (gg nM):=scM
abbrev vF(Z:ZZ)(k:Nat):Prop:=Oz Z k "_law_full" ["_law_state_here","_law_names"] oN
theorem A8:BdA "_law_full" nM ["_law_state_here","_law_names"]:=fun _ _ _ _ _ _=>us1 fun _=>us1 fun _=>us0 rfl
theorem Ay(a:Fz Z.K Z.mg "_law_full" nM)(T:Tx Z.mg)(b6:lg Z k):vF Z (k+1):=by
 have S:=Ak;refine ozB (asg:=[2,3,4,5]) (fs:=tE) a S A8 fun f c9 A outer s H E L hL hr hu n6 n4 x8 nd=>?_;exact(s1 (sS nd (nI (xL (mf xL0) xL0))) (s1 (sF (iR2 T (xA (xO x3) (xA (xO (iQ ⟨ik⟩ xV (xO x3))) xA0))) (gN nd) (s1 (sS nd (iQ ⟨ik⟩ (xO (iQ ⟨ik⟩ xV (xO (by exact xC (N':=["_law_name","_law_row"]) (cOk S) (by decide+kernel) (iS xW) fun _ _ _ _ _ _ nd=>⟨(gN nd),f0,fun _=>bE (iQ ⟨ik⟩ xV (xO (mf (xL xW xL0))))⟩)))) (xO (by exact xC (N':=["_law_name","_law_row"]) (cOk S) (by decide+kernel) (iS xW) fun _ _ _ _ _ _ nd=>⟨(gN nd),f0,fun _=>bE (iQ ⟨ik⟩ xV (xO (mf (xL (zP xV) xL0))))⟩)))) s0)) (s1 (sC (N':=["_law_row"]) nd (cOk S) (by decide+kernel) (iS xW) fun _ _ _ _ _ _ nd=>⟨(gN nd),(f1 (tCmp ⟨(vA hu)⟩ xV (xO (mf xL0)))),fun _=>bE xW⟩) (s1 (sF (iR1 T (xA (xO (xU b6 hr (xA xV (xA (xO x3) xA0)))) xA0)) (gN nd) (s1 (sE (NF xV (xO (xU b6 hr (xA xV (xA (xO (xB T rfl ⟨jW⟩ (xA xV xA0))) xA0)))))) s0)) (s1 (sR (mf (xL xW (xL (xT T rfl ⟨iO⟩ (xA (xO (NC (xO (xB T rfl ⟨(lS n4)⟩ (xA xV xA0))) (xO x3))) xA0)) xL0)))) s0)))))
abbrev mH:Stmt:=top 32
theorem yX:FnScope ["_law_state_here"] ["_law_state_here"] (gg mH):=scM
abbrev tx(Z:ZZ)(k:Nat):Prop:=Oz Z k "_law_drawn" ["_law_state_here"] jq
theorem zG:BdA "_law_drawn" mH ["_law_state_here"]:=fun _ _ _ _ _ _=>us1 fun _=>us0 rfl
theorem zf(a:Fz Z.K Z.mg "_law_drawn" mH)(T:Tx Z.mg)(b6:lg Z k)(O_law_full:vF Z k)(O_law_riddle_of:og Z k):tx Z (k+1):=by
 have S:=yX;refine ozB (asg:=[]) (fs:=qS) a S zG fun f c9 A outer s H E L hL hr hu n6 n4 x8 nd=>?_;exact(s1 (sI (tCmp ⟨(oF hu)⟩ (xO (xU b6 hr (xA xV (xA (xO x3) xA0)))) (xO x3)) (s1 (sR (xU O_law_full hr (xA xV (xA (xO (iQ ⟨ik⟩ (xO x3) (xO (xU b6 hr (xA xV (xA (xO x3) xA0)))))) xA0)))) s0) s0) (s1 (sR (xU O_law_riddle_of hr (xA xV (xA (xO (xIx (xO (nI (xL (xU b6 hr (xA xV (xA (xO x3) xA0))) (xL (xU b6 hr (xA xV (xA (xO x3) xA0))) xL0)))) (xO (xU b6 hr (xA xV (xA (xO x3) xA0)))))) xA0)))) s0))
abbrev mG:Stmt:=top 33
theorem yW:FnScope ["_law_one","_law_other","_law_names","_law_many","_law_rows","_law_clause_here"] ["_law_one","_law_other"] (gg mG):=scM
theorem zF:BdA "_law_right" mG ["_law_one","_law_other"]:=fun _ _ _ _ _ _=>us1 fun _=>us1 fun _=>us0 rfl
abbrev sZ(Z:ZZ)(k:Nat):Prop:=OzT Z TB82 k "_law_right" ["_law_one","_law_other"] gX
theorem ze(a:TbK Z TB82 "_law_right" mG "_law_right.<locals>.<lambda>" 245)(T:Tx Z.mg)(R_law_refused:pR Z k)(P_beside:Az Z k)(P_law_same:Co Z k)(Y_beside:zO Z k):sZ Z (k+3):=by
 have S:=yW;have O_beside:=P_beside.up (j:=k+2) (by omega);have k7:=P_law_same.up (j:=k+2) (by omega);refine ozT (asg:=[2,3,4,5]) (fs:=nC) a S zF fun f c9 A outer s H E L hL hr hu n6 n4 x8 nd tb=>?_;exact(s1 (sP nd (xA (xO (iQ ⟨ik⟩ (xO (xIx xV (xO x3))) (xO (xIx xV (xO x3))))) (xA (xO (iQ ⟨ik⟩ (xO (xB T rfl ⟨jW⟩ (xA (xO (xIx xV (xO x3))) xA0))) (xO (xB T rfl ⟨jW⟩ (xA (xO (xIx xV (xO x3))) xA0))))) xA0))) (s1 (sI (tW (wOr (tCmp ⟨(kL (.inr (.inr (.inl rfl))) hu)⟩ xV (xO x3)) (Gq (tCmp ⟨(kL (.inr (.inr (.inl rfl))) hu)⟩ xV (xO x3))))) (s1 (sR (Ek ⟨(oF hu)⟩ (xO (xRf (N':=["_law_one","_law_other"]) R_law_refused tb hr (cOk S) (by decide+kernel) fun _ _ _ _ _ _ _ _ hr=>⟨xU P_beside hr (xA xV (xA xV xA0)),zC Gh Y_beside hr (xA xV (xA xV xA0))⟩)) (xO x4))) s0) s0) (s1 (sS nd (xT T rfl ⟨we⟩ (xA (xO (xIx xV (xO x3))) xA0))) (s1 (sF (iS (xIx xV (xO x3))) (gN nd) (s1 (sE (Jc xV (xT T rfl ⟨iO⟩ (xA (xO (by exact xC (N':=["_law_one","_law_sign"]) (cOk S) (by decide+kernel) (iS xW) fun _ _ _ _ _ _ nd=>⟨(gN nd),f0,fun _=>bE (xIx (xO (nI (xL (iQ ⟨ik⟩ xV (xO (xIx xV (xO x3)))) (xL (iQ ⟨qJ⟩ xV (xO (xIx xV (xO x3)))) xL0)))) (xO (xT T rfl ⟨sD⟩ (xA (xO (Ek ⟨(kL (.inl rfl) hu)⟩ xV (xO x3))) xA0))))⟩)) xA0)))) s0)) (s1 (sR (xU k7 hr (xA (xO (xU O_beside hr (xA xV (xA xV xA0)))) (xA (xO (mf (xL xW (xL (xT T rfl ⟨iO⟩ (xA (xO (xB T rfl ⟨(lS n4)⟩ (xA xV xA0))) xA0)) xL0)))) xA0)))) s0)))))
abbrev Dt:Stmt:=top 34
theorem LB:FnScope ["_law_script","_law_k","_law_state_here","_law_one","_law_other"] ["_law_script"] (gg Dt):=scM
theorem Nm:BdA "law" Dt ["_law_script"]:=fun _ _ _ _ _ _=>us1 fun _=>us0 rfl
theorem MM{f:fZ}{fd:kE}(F:Fun Z.K "law" "law" Dt f fd)(T:Tx Z.mg)(i4:sZ Z k)(O_law_state:tw Z k)(O_law_drawn:tx Z k):FnOk Z.P Z.w Z.K Z.mg Z.base CX0 (k+1) f fd ["_law_script"] (spT TB82 (spF Z.K pX)):=by
 have S:=LB;refine fnU (asg:=[1,2,3,4]) (fs:=vR) F S fun c9 A outer s H E L hL hr hu n6 n4 x8 nd _ tT=>?_;exact(s1 (sI (tW (wOr (tNot (Ac (xUT i4 tT hr (xA (xO (mf (xL x3 (xL (mf xL0) xL0)))) (xA (xO (mf (xL x3 (xL (mf xL0) xL0)))) xA0))))) (Gq (tNot (Ac (xUT i4 tT hr (xA (xO (mf (xL x3 (xL (mf (xL (mf (xL x3 xL0)) xL0)) xL0)))) (xA (xO (mf (xL x3 (xL (mf (xL (mf (xL (zP (xO x3)) xL0)) xL0)) xL0)))) xA0)))))))) (s1 (sR x2) s0) s0) (s1 (sF (iR1 T (xA (xO (xB T rfl ⟨(CZ rfl)⟩ (xA (xO x3) (xA (xO (xB T rfl ⟨(CY rfl)⟩ (xA (xO (xB T rfl ⟨jW⟩ (xA xV xA0))) (xA (xO x3) xA0)))) xA0)))) xA0)) (gN nd) (s1 (sS nd (xU O_law_state hr (xA xV (xA xV xA0)))) (s1 (sP nd (xA (xO (xU O_law_drawn hr (xA xV xA0))) (xA (xO (xU O_law_drawn hr (xA xV xA0))) xA0))) (s1 (sI (tW (wOr (tNot (Ac (xUT i4 tT hr (xA xV (xA xV xA0))))) (wOr (tNot (Ac (xUT i4 tT hr (xA xV (xA xV xA0))))) (Gq (tNot (Ac (xUT i4 tT hr (xA xV (xA (xO (mf (xL x3 (xL (mf xL0) xL0)))) xA0))))))))) (s1 (sR x2) s0) s0) s0)))) (s1 (sR x2) s0)))
end
theorem all_mk{l:PySem.W.OpenLaw}{w:gy}{K:gA}{mg:jy}{fa:fZ}(cJ:mg "law"=some (.ref fa))(T:Tx mg)
  (a0:Fz K mg "led_sign" nK)
  (a1:Fz K mg "led_clause" lP)
  (a2:Fz K mg "beside" oD)
  (a3:Fz K mg "_law_cell_at" lA)
  (a4:Fz K mg "_law_state" mF)
  (a5:Fz K mg "_law_take" nL)
  (a6:Fz K mg "_law_turning" ly)
  (a7:Fz K mg "_law_led_sign" kR)
  (a8:Fz K mg "_law_clause" lQ)
  (a9:Fz K mg "_law_led_clause" kh)
  (a10:Fz K mg "_law_riddle_of" kK)
  (a11:Fz K mg "_law_same" mm)
  (a12:Fz K mg "_law_refused" jU)
  (a13:Fz K mg "_law_full" nM)
  (a14:Fz K mg "_law_drawn" mH)
  (a15:FzT K mg "_law_right" mG 245)
  (a16:Fz K mg "law" Dt)
  (CK:ClsK K mg CT wN 24)
  (f7: ∃t,mg "MOST_NAMES"=some (.int 5 t))
  (d8: ∃t,mg "MOST_CLAUSES"=some (.int 30 t))
  : ∃fd:FuncData,(∀(s:gi) (v:gp),BindsTo s fd ⟨[v],[]⟩ [("_law_script",v)])/\(∀p∈TB82,∃c,PySem.W.codeHdIn K c p.1=true)/\ ∀base:Heap,K.In base->base.Ns mainGlobals mg->(∀p∈TB82,base.BuiltinsAt mg p.1)->FnOk l.prog w K mg base CX0 12 fa fd ["_law_script"] (spT TB82 (spF K pX)):=by
 obtain⟨fd,F,hb⟩:=fzL a16 cJ Nm;refine⟨fd,hb,aC a15.cd (aN),fun base KB _ BB=>?_⟩;have O0:=Aw (Z:=⟨l.prog,w,K,mg,base⟩) (k:=0) a0 T;have O1:=wC (Z:=⟨l.prog,w,K,mg,base⟩) (k:=1) a1 T O0.up;have O2:=EJ (Z:=⟨l.prog,w,K,mg,base⟩) (k:=2) a2 T f7 d8 O1.up;have Y2:=Ej (Z:=⟨l.prog,w,K,mg,base⟩) (k:=2) a2 T CK f7 d8 O1.up;have O3:=vD (Z:=⟨l.prog,w,K,mg,base⟩) (k:=0) a3 T;have O4:=zd (Z:=⟨l.prog,w,K,mg,base⟩) (k:=1) a4 T O3.up;have O5:=Ax (Z:=⟨l.prog,w,K,mg,base⟩) (k:=0) a5 T;have O6:=vB (Z:=⟨l.prog,w,K,mg,base⟩) (k:=1) a6 T O5.up;have O7:=tP (Z:=⟨l.prog,w,K,mg,base⟩) (k:=0) a7 T;have O8:=wD (Z:=⟨l.prog,w,K,mg,base⟩) (k:=1) a8 T O5.up;have O9:=qK (Z:=⟨l.prog,w,K,mg,base⟩) (k:=1) a9 T O7.up;have O10:=sf (Z:=⟨l.prog,w,K,mg,base⟩) (k:=2) a10 T O5.up O8.up O6.up O9.up;have O11:=tu (Z:=⟨l.prog,w,K,mg,base⟩) a11 T RD;have O12:=vC (Z:=⟨l.prog,w,K,mg,base⟩) (k:=8) a12 T CK;have O13:=Ay (Z:=⟨l.prog,w,K,mg,base⟩) (k:=1) a13 T O5.up;have O14:=zf (Z:=⟨l.prog,w,K,mg,base⟩) (k:=3) a14 T O5.up O13.up O10.up;have O15:=ze (Z:=⟨l.prog,w,K,mg,base⟩) (k:=8) (a15.tb KB BB (by decide)) T O12 O2.up O11.up Y2.up;exact MM (Z:=⟨l.prog,w,K,mg,base⟩) (k:=11) F T O15.up O4.up O14.up
end K82
namespace PV
open PySem PySem.Spec PyProof.Rows L2 PX
@[simp] theorem NW(d:D)(δ:Dn):fC d δ=some ((d,false),δ):=rfl
@[simp] theorem GZ(f:F)(δ:Dn):gc f δ=(f δ).bind fun p=>some (.val p.1,p.2):=rfl
@[simp] theorem OU(x:D×Bool)(δ:Dn):gf 0 (some x::δ)=some (.slot 0,some x::δ):=rfl
@[simp] theorem OT(a:Sl)(x:D×Bool)(δ:Dn):gf 1 (a::some x::δ)=some (.slot 1,a::some x::δ):=rfl
@[simp] theorem OS(a b:Sl)(x:D×Bool)(δ:Dn):gf 2 (a::b::some x::δ)=some (.slot 2,a::b::some x::δ):=rfl
@[simp] theorem OR(a b c:Sl)(x:D×Bool)(δ:Dn):gf 3 (a::b::c::some x::δ)=some (.slot 3,a::b::c::some x::δ):=rfl
@[simp] theorem OQ(a b c d:Sl)(x:D×Bool)(δ:Dn):gf 4 (a::b::c::d::some x::δ)=some (.slot 4,a::b::c::d::some x::δ):=rfl
@[simp] theorem OP(a b c d e:Sl)(x:D×Bool)(δ:Dn):gf 5 (a::b::c::d::e::some x::δ)=some (.slot 5,a::b::c::d::e::some x::δ):=rfl
@[simp] theorem OO(a b c d e f:Sl)(x:D×Bool)(δ:Dn):gf 6 (a::b::c::d::e::f::some x::δ)=some (.slot 6,a::b::c::d::e::f::some x::δ):=rfl
@[simp] theorem ON(a b c d e f g:Sl)(x:D×Bool)(δ:Dn):gf 7 (a::b::c::d::e::f::g::some x::δ)=some (.slot 7,a::b::c::d::e::f::g::some x::δ):=rfl
@[simp] theorem OM(a b c d e f g h:Sl)(x:D×Bool)(δ:Dn):gf 8 (a::b::c::d::e::f::g::h::some x::δ)=some (.slot 8,a::b::c::d::e::f::g::h::some x::δ):=rfl
@[simp] theorem GY(δ:Dn)(r:D×Bool):res δ (.val r)=some r.1:=rfl
@[simp] theorem P0(x:D×Bool)(δ:Dn):res (some x::δ) (.slot 0)=some x.1:=rfl
@[simp] theorem PY(a:Sl)(x:D×Bool)(δ:Dn):res (a::some x::δ) (.slot 1)=some x.1:=rfl
@[simp] theorem PU(a b:Sl)(x:D×Bool)(δ:Dn):res (a::b::some x::δ) (.slot 2)=some x.1:=rfl
@[simp] theorem PR(a b c:Sl)(x:D×Bool)(δ:Dn):res (a::b::c::some x::δ) (.slot 3)=some x.1:=rfl
@[simp] theorem PQ(a b c d:Sl)(x:D×Bool)(δ:Dn):res (a::b::c::d::some x::δ) (.slot 4)=some x.1:=rfl
@[simp] theorem PN(a b c d e:Sl)(x:D×Bool)(δ:Dn):res (a::b::c::d::e::some x::δ) (.slot 5)=some x.1:=rfl
@[simp] theorem PM(a b c d e f:Sl)(x:D×Bool)(δ:Dn):res (a::b::c::d::e::f::some x::δ) (.slot 6)=some x.1:=rfl
@[simp] theorem PL(a b c d e f g:Sl)(x:D×Bool)(δ:Dn):res (a::b::c::d::e::f::g::some x::δ) (.slot 7)=some x.1:=rfl
@[simp] theorem PK(a b c d e f g h:Sl)(x:D×Bool)(δ:Dn):res (a::b::c::d::e::f::g::h::some x::δ) (.slot 8)=some x.1:=rfl
@[simp] theorem Qb(g:D->Option (D×Bool))(fa:FO)(δ:Dn):jw g fa δ=(fa δ).bind fun p=>(res p.2 p.1).bind fun x=>(g x).bind fun z=>some (z,p.2):=rfl
@[simp] theorem Qa(g:D->D->Option (D×Bool))(fa fb:FO)(δ:Dn):gn g fa fb δ=(fa δ).bind fun p=>(fb p.2).bind fun q=>(res q.2 p.1).bind fun x=>(res q.2 q.1).bind fun y=>(g x y).bind fun z=>some (z,q.2):=rfl
@[simp] theorem NX(δ:Dn):iN [] δ=some ([],δ):=rfl
@[simp] theorem OX(f:FO)(fs:List FO)(δ:Dn):iN (f::fs) δ=(f δ).bind fun p=>(iN fs p.2).bind fun q=>some (p.1::q.1,q.2):=rfl
@[simp] theorem Jq(δ:Dn):qe δ []=some []:=rfl
@[simp] theorem LL(δ:Dn)(o:Opd)(os:List Opd):qe δ (o::os)=(res δ o).bind fun d=>(qe δ os).bind fun l=>some (d::l):=rfl
@[simp] theorem OW(g:List D->Option (D×Bool))(fs:List FO)(δ:Dn):gL g fs δ=(iN fs δ).bind fun p=>(qe p.2 p.1).bind fun ds=>(g ds).bind fun z=>some (z,p.2):=rfl
@[simp] theorem OJ:mh []=some []:=rfl
@[simp] theorem Px(r:D×Bool)(os:List Opd):mh (.val r::os)=(mh os).map (r.1:: ·):=rfl
@[simp] theorem LO(fs:List F)(δ:Dn):jh fs δ=(iN (fs.map gc) δ).bind fun p=>(mh p.1).bind fun ds=>if ds.length<=sizeLine then some ((.tup ds,false),p.2) else none:=rfl
@[simp] theorem Qd(fs:List F)(δ:Dn):kF fs δ=(iN (fs.map gc) δ).bind fun p=>(mh p.1).bind fun ds=>if ds.length<=sizeLine then some ((.lst ds,true),p.2) else none:=rfl
@[simp] theorem Q6(b o:Bool)(δ:Dn):asB ((.bl b,o),δ)=some (b,δ):=rfl
@[simp] theorem Rc(f:F)(δ:Dn):fT f δ=(f δ).bind asB:=rfl
@[simp] theorem OY(f g:FT)(δ:Dn):Ox f g δ=(f δ).bind fun p=>if p.1=true then g p.2 else some (false,p.2):=rfl
@[simp] theorem P9(f g:FT)(δ:Dn):qh f g δ=(f δ).bind fun p=>if p.1=true then some (true,p.2) else g p.2:=rfl
@[simp] theorem OV(f:FT)(δ:Dn):mw f δ=(f δ).bind fun p=>some (!p.1,p.2):=rfl
@[simp] theorem LP(f g:F)(δ:Dn):E7 f g δ=(f δ).bind fun p=>(asB p).bind fun q=>if q.1=true then g q.2 else some ((.bl false,false),q.2):=rfl
@[simp] theorem Q3(f g:F)(δ:Dn):fOr f g δ=(f δ).bind fun p=>(asB p).bind fun q=>if q.1=true then some ((.bl true,false),q.2) else g q.2:=rfl
@[simp] theorem Qc(f:F)(δ:Dn):QE f δ=(f δ).bind fun p=>(asB p).bind fun q=>some ((.bl (!q.1),false),q.2):=rfl
@[simp] theorem Q4(t:FT)(f g:F)(δ:Dn):fIf t f g δ=(t δ).bind fun p=>if p.1=true then f p.2 else g p.2:=rfl
@[simp] theorem PH(δ:Dn):gZ δ=some (.nx δ):=rfl
def nxt(g:FS):Out->Option Out
 | .nx δ1=>g δ1
 |o=>some o
@[simp] theorem G2(g:FS)(δ:Dn):nxt g (.nx δ)=g δ:=rfl
@[simp] theorem P4(g:FS)(r:D×Bool)(δ:Dn):nxt g (.rt r δ)=some (.rt r δ):=rfl
@[simp] theorem yY(f g:FS)(δ:Dn):gw f g δ=(f δ).bind (nxt g):=by
 unfold gw
 cases f δ with
 |none=>rfl
 |some o=>cases o<;>rfl
@[simp] theorem OL(f:F)(δ:Dn):mn f δ=(f δ).bind fun p=>some (.nx p.2):=rfl
@[simp] theorem PF(f:F)(δ:Dn):kd f δ=(f δ).bind fun p=>some (.rt p.1 p.2):=rfl
@[simp] theorem QU(t:FT)(f g:FS)(δ:Dn):sIf t f g δ=(t δ).bind fun p=>if p.1=true then f p.2 else g p.2:=rfl
@[simp] theorem PD(i:Nat)(f:F)(δ:Dn):jc i f δ=(f δ).bind fun p=>if i<p.2.length then some (.nx (p.2.set i (some p.1))) else none:=rfl
@[simp] theorem PC(tg:Tg)(f:F)(δ:Dn):Pr tg f δ=(f δ).bind fun p=>(tg p.1.1 p.2).bind fun δ1=>some (.nx δ1):=rfl
@[simp] theorem Rb(g:D->Option (D×Bool))(d:D):g1 g [d]=g d:=rfl
@[simp] theorem Ra(g:D->D->Option (D×Bool))(d e:D):g2 g [d,e]=g d e:=rfl
@[simp] theorem vp(i j:Int):jo (.int i) (.int j)=some (.int (i+j),false):=rfl
@[simp] theorem QR(i j:Int):PX.gSub (.int i) (.int j)=some (.int (i-j),false):=rfl
@[simp] theorem QV(i:Int):oI (.int i)=some (.int (-i),false):=rfl
@[simp] theorem NZ(i:Int):Ik (.int i)=some (.int (if i<0 then -i else i),false):=rfl
@[simp] theorem LM(l:List D):nR (.tup l)=some (.int l.length,false):=rfl
@[simp] theorem LN(l:List D):nR (.lst l)=some (.int l.length,false):=rfl
@[simp] theorem Pz(l:List D):kz (.lst l)=some (.tup l,false):=rfl
@[simp] theorem Py(l:List D):kz (.tup l)=some (.tup l,false):=rfl
@[simp] theorem P5(l:List D):vQ (.tup l)=some (.lst l,true):=rfl
@[simp] theorem P6(l:List D):vQ (.lst l)=some (.lst l,true):=rfl
@[simp] theorem P8(b:Bool):CG (.bl b)=some (.int (if b then 1 else 0),false):=rfl
@[simp] theorem P7(b:Int):CG (.int b)=some (.int b,false):=rfl
@[simp] theorem Q1(i j:Int):Ih (.int i) (.int j)=some (.int (if j>i then j else i),false):=rfl
@[simp] theorem Q0(i j:Int):Ig (.int i) (.int j)=some (.int (if j<i then j else i),false):=rfl
@[simp] theorem Q2(ts:List Ty)(d:D):tR ts d=some (.bl (ts.any (isT d)),false):=rfl
@[simp] theorem G3(i j:Int):gEq (.int i) (.int j)=some (.bl (i==j),false):=by unfold gEq;rw[gq (by simp[D.dep])];simp[D.eqb]
@[simp] theorem QY(i j:Int):gNe (.int i) (.int j)=some (.bl (!(i==j)),false):=by unfold gNe;rw[gq (by simp[D.dep])];simp[D.eqb]
@[simp] theorem Q5(i j:Bool):gEq (.bl i) (.bl j)=some (.bl (i==j),false):=by unfold gEq;rw[gq (by simp[D.dep])];simp[D.eqb]
@[simp] theorem QZ(i j:Bool):gNe (.bl i) (.bl j)=some (.bl (!(i==j)),false):=by unfold gNe;rw[gq (by simp[D.dep])];simp[D.eqb]
@[simp] theorem Q7(i j:Int):lh .Lt (.int i) (.int j)=some (.bl (decide (i<j)),false):=by simp[lh,lr,jN,D.dep]
@[simp] theorem Q8(i j:Int):lh .LtE (.int i) (.int j)=some (.bl (decide (i<=j)),false):=by simp[lh,lr,jN,D.dep]
@[simp] theorem Jr(i j:Int):lh .Gt (.int i) (.int j)=some (.bl (decide (i>j)),false):=by simp[lh,lr,jN,D.dep]
@[simp] theorem Q9(i j:Int):lh .GtE (.int i) (.int j)=some (.bl (decide (i>=j)),false):=by simp[lh,lr,jN,D.dep]
@[simp] theorem yZ(f:F)(δ:Dn):ky f δ=(f δ).bind fun p=>match p.1.1 with| .lst l=>some (l,p.2)| .tup l=>some (l,p.2)|_=>none:=rfl
@[simp] theorem PJ(fi:FIt)(tg:Tg)(fb:FS)(δ:Dn):tN fi tg fb δ=(fi δ).bind fun p=>tV tg fb p.1 p.2:=rfl
@[simp] theorem Dy(δ:Dn):jK δ=some (true,δ):=rfl
@[simp] theorem uf(f:F)(acc:List D)(δ:Dn):iP f acc δ=(f δ).bind fun p=>if acc.length<sizeLine then some (acc++[p.1.1],p.2) else none:=rfl
theorem yT(h:n<=10000):n<=sizeLine:=by rw[je];omega
theorem yS(h:n<=10000):n<sizeLine:=by rw[je];omega
abbrev enc(t:gS):D×Bool:=(.tup (t.map .int),false)
abbrev stt(a:Int)(b:Bool):Sl:=some (.lst [.int a,.bl b],true)
abbrev lsi(l:gS):Sl:=some (.lst (l.map .int),true)
@[simp] theorem Js(ev:EvF)(fs:List FO)(δ:Dn):gD ev fs δ=(iN fs δ).bind fun p=>(iI p.2 p.1).bind fun args=>if(gM p.1 args).Nodup then(ev args).bind fun q=>some (q.1,wb p.1 args q.2 p.2) else none:=rfl
@[simp] theorem EA(δ:Dn):iI δ []=some []:=rfl
@[simp] theorem NY(δ:Dn)(o:Opd)(os:List Opd):iI δ (o::os)=(wm δ o).bind fun a=>(iI δ os).bind fun l=>some (a::l):=rfl
@[simp] theorem Qe(δ:Dn)(r:D×Bool):wm δ (.val r)=some (r.1,false):=rfl
@[simp] theorem Qf(δ:Dn)(i:Nat):wm δ (.slot i)=(δ[i]?).join:=rfl
theorem rW(a:Int)(b:Bool)(m:Int)(hm:0<m)(cg:m<1073741824):
  ∃v a',0<=v/\v<m/\gu [(.lst [.int a,.bl b],true),(.int m,false)]=some ((.int v,false),[some (.lst [.int a',.bl b],true),some (.int m,false)]):=by
 cases b
 ·have h1: ∀x:Int, -18446744073709551616<x%2147483647/\x%2147483647<18446744073709551616:=fun x=>by omega
  have h2: ∀x:Int, -18446744073709551616<x%2147483629/\x%2147483629<18446744073709551616:=fun x=>by omega
  simp only[gu,mM];simp[evF,gIx,atI,ixN,wI,gI,Ii,mq,EY,sd,pk,iE,gM,wb,Fg,zK,CMul,hm,cg,h1,h2];exact⟨Int.emod_nonneg _ (by omega),Int.emod_lt_of_pos _ hm⟩
 ·simp only[gu,mM];simp[evF,gIx,atI,ixN,wI,gI,Ii,mq,EY,sd,pk,iE,gM,wb,Fg,zK,CMul,hm,cg];exact⟨Int.emod_nonneg _ (by omega),Int.emod_lt_of_pos _ hm⟩
theorem zD(x y:Int):(x==y)=decide (x=y):=rfl
theorem qV{g:List D->Option (D×Bool)}{fs:List FO}{δ δ':Dn}{os:List Opd}{ds:List D}{z:D×Bool}(h1:iN fs δ=some (os,δ'))(h2:qe δ' os=some ds)(h3:g ds=some z):gL g fs δ=some (z,δ'):=by
 unfold gL;rw[h1];simp only[iH];rw[h2];simp only[iH];rw[h3];rfl
theorem kM(h1:args.length=np/\np<=n/\(args.zipIdx.all fun p=>!(p.1.2&&asg.contains p.2))=true)(h2:f (args.map some++List.replicate (n-np) none)=some (.rt r δ)):evF n np asg f args=some (r,iE args δ):=by
 unfold evF;rw[gq h1,h2]
theorem gJ(h:f δ=some (.nx δ1)):gw f g δ=g δ1:=by unfold gw;rw[h];rfl
theorem iV{r}(h:f δ=some (.rt r δ1)):gw f g δ=some (.rt r δ1):=by unfold gw;rw[h];rfl
theorem jX{r}(h:f δ=some (r,δ1)):kd f δ=some (.rt r δ1):=by unfold kd;rw[h];rfl
theorem ki{r}(h:f δ=some (r,δ1))(hi:i<δ1.length):jc i f δ=some (.nx (δ1.set i (some r))):=by unfold jc;rw[h];simp only[iH];rw[gq hi]
theorem oM(h:f δ=some ((.bl b,o),δ1)):fT f δ=some (b,δ1):=by unfold fT;rw[h];rfl
theorem gE{r}(h:f δ=some (r,δ1)):gc f δ=some (.val r,δ1):=by unfold gc;rw[h];rfl
theorem jB(h1:fa δ=some (o1,δ1))(h2:fb δ1=some (o2,δ2))(h3:res δ2 o1=some x)(h4:res δ2 o2=some y)(h5:g x y=some z):gn g fa fb δ=some (z,δ2):=by
 unfold gn;rw[h1];simp only[iH];rw[h2];simp only[iH];rw[h3,h4];simp only[iH];rw[h5];rfl
theorem ke{ev:EvF}{fs:List FO}{δ δ1:Dn}{os:List Opd}{args:List (D×Bool)}{r:D×Bool}{outs:Dn}(h1:iN fs δ=some (os,δ1))(h2:iI δ1 os=some args)(h3:(gM os args).Nodup)(h4:ev args=some (r,outs)):gD ev fs δ=some (r,wb os args outs δ1):=by
 unfold gD;rw[h1];simp only[iH];rw[h2];simp only[iH];rw[gq h3,h4];rfl
theorem vX(h:f δ=some (false,δ1)):qh f g δ=g δ1:=by unfold qh;rw[h];rfl
theorem Nb(h:f δ=some (true,δ1)):qh f g δ=some (true,δ1):=by unfold qh;rw[h];rfl
theorem Ir(h:f δ=some (b,δ1)):mw f δ=some (!b,δ1):=by unfold mw;rw[h];rfl
theorem vh(h:t δ=some (false,δ1)):sIf t f g δ=g δ1:=by unfold sIf;rw[h];rfl
theorem tf(h:t δ=some (true,δ1)):sIf t f g δ=f δ1:=by unfold sIf;rw[h];rfl
theorem ll{fa fb:FO}{δ δ1 δ2:Dn}{o1 o2:Opd}(h1:fa δ=some (o1,δ1))(h2:fb δ1=some (o2,δ2)):iN [fa,fb] δ=some ([o1,o2],δ2):=by
 simp only[iN];rw[h1];simp only[iH];rw[h2];rfl
theorem zr{fa:FO}{δ δ1:Dn}{o1:Opd}(h1:fa δ=some (o1,δ1)):iN [fa] δ=some ([o1],δ1):=by
 simp only[iN];rw[h1];rfl
theorem qF(h:fi δ=some (ds,δ1)):tN fi tg fb δ=tV tg fb ds δ1:=by unfold tN;rw[h];rfl
theorem DY{fs:List F}{δ δ1:Dn}{os:List Opd}{ds:List D}(h1:iN (fs.map gc) δ=some (os,δ1))(h2:mh os=some ds)(h3:ds.length<=sizeLine):kF fs δ=some ((.lst ds,true),δ1):=by
 unfold kF;rw[h1];simp only[iH];rw[h2];simp only[iH];rw[gq h3]
theorem Kx(ns:gS)(k:Nat): ∃c,kf [(.lst (ns.map .int),false),(.int k,false)]=some ((.int c,false),[some (.lst (ns.map .int),false),some (.int k,false)]):=by
 by_cases hk:k<ns.length
 ·refine⟨ns[k],?_⟩;simp[kf,kT,evF,gIx,atI,ixN,iE,hk]
 ·refine⟨0,?_⟩;simp[kf,kT,evF,iE,hk]
theorem KZ:EY (.int 10) (.int 18)=some (.int 1000000000000000000,false):=by
 have:zK 10 18:=by unfold zK;decide+kernel
 show((if zK 10 18 then some (D.int (10^(18:Int).toNat)) else none).map fun z=>(z,false))=_;rw[gq this];rfl
theorem GB(ns:gS)(k:Nat): ∃a b,kr [(.lst (ns.map .int),false),(.int k,false)]=some ((.lst [.int a,.bl b],true),[some (.lst (ns.map .int),false),some (.int k,false)]):=by
 obtain⟨c,hc⟩:=Kx ns k;by_cases h:c>=1000000000000000000
 ·refine⟨c-1000000000000000000,true,?_⟩;simp[kr,lR,evF,hc,gM,wb,KZ,h,je,iE]
 ·refine⟨c%2147483647,false,?_⟩;simp[kr,lR,evF,hc,gM,wb,KZ,h,je,iE,wI,gI]
def st(n:Nat):List Int:=(List.range n).map fun(k:Nat)=>(1+(k:Int))
theorem Lw(n:Nat):(st n).map D.int=ip 1 n:=by simp[st,ip]
def pS:Nat->List Int->List Int->List (List Int)
 |0,_,f=>[f]
 |k+1,r,f=>(List.range r.length).flatMap fun v=>pS k (r.eraseIdx v) (f++[r.getD v 0*1])++pS k (r.eraseIdx v) (f++[r.getD v 0* -1])
theorem xD(f:Int->D): ∀(l:gS) (k:Nat),(l.map f).eraseIdx k=(l.eraseIdx k).map f
 |[],k=>by simp
 |x::l,0=>by simp
 |x::l,k+1=>by simp[xD f l k]
theorem E6{i:Nat}{f:FO}{δ δ1:Dn}{o:Opd}{l0 l:List D}{k:Int}{j:Nat}{d:D}(h0:δ[i]?=some (some (.lst l0,true)))(h1:f δ=some (o,δ1))(h2:res δ1 o=some (.int k))(h3:δ1[i]?=some (some (.lst l,true)))(h4: -(2^63)<=k/\k<2^63)(h5:ixN l.length k=some j)(h6:l[j]?=some d):
  mv i f δ=some ((d,false),δ1.set i (some (.lst (l.eraseIdx j),true))):=by
 unfold mv;rw[h0];simp only[];rw[h1];simp only[iH];rw[h2,h3];simp only[];rw[gq h4,h5];simp only[iH];rw[h6];rfl
theorem qi{i:Nat}{f:F}{δ δ1:Dn}{r:D×Bool}{l0 l:List D}(h0:δ[i]?=some (some (.lst l0,true)))(h1:f δ=some (r,δ1))(h3:δ1[i]?=some (some (.lst l,true)))(h4:l.length<sizeLine):
  kn i f δ=some ((.non,false),δ1.set i (some (.lst (l++[r.1]),true))):=by
 unfold kn;rw[h0];simp only[];rw[h1];simp only[iH];rw[h3];simp only[];rw[gq h4]
theorem qG{r}(h:f δ=some (r,δ1)):mn f δ=some (.nx δ1):=by unfold mn;rw[h];rfl
abbrev fPop:F:=(mv 2 (gc (gD gu [(gf 0),(gc (gL (g1 nR) [(gf 2)]))])))
abbrev Ov:F:=(gn gIx (gc (kF [(fC (.int 1)),(jw oI (gc (fC (.int 1))))])) (gc (gD gu [(gf 0),(gc (fC (.int 2)))])))
abbrev fbT:FS:=(gw (mn (kn 3 (gn mq (gc fPop) (gc Ov)))) gZ)
theorem Mo(a:Int)(b:Bool)(n:Sl)(r f:gS)(x:Sl)(h0:0<r.length)(h5:r.length<=5): ∃v a',v<r.length/\fPop [stt a b,n,lsi r,lsi f,x]=some ((.int (r.getD v 0),false),[stt a' b,n,lsi (r.eraseIdx v),lsi f,x]):=by
 obtain⟨v,a',dN,hv,e⟩:=rW a b r.length (by omega) (by omega);have hn:v.toNat<r.length:=by omega
 refine⟨v.toNat,a',hn,?_⟩;have e1:(lsi (r.eraseIdx v.toNat):Sl)=some (.lst ((r.map D.int).eraseIdx v.toNat),true):=by rw[xD]
 rw[e1];refine E6 (k:=v) (δ1:=[stt a' b,n,lsi r,lsi f,x]) rfl (gE (r:=(.int v,false)) (ke (δ1:=[stt a b,n,lsi r,lsi f,x]) (os:=[.slot 0,.val (.int r.length,false)]) (args:=[(.lst [.int a,.bl b],true),(.int r.length,false)]) ?_ rfl (show([0]:List Nat).Nodup from by decide) e)) rfl rfl ⟨by omega,by omega⟩ (j:=v.toNat) ?_ ?_
 ·show some ([Opd.slot 0,Opd.val (D.int ((r.map D.int).length:Nat),false)],_)=_;rw[jF]
 ·unfold ixN;rw[gq dN,gq (by simpa using hv)]
 ·simp[hn]
theorem Ly(a:Int)(b:Bool)(n y z x:Sl): ∃s a',(s=1\/s= -1)/\Ov [stt a b,n,y,z,x]=some ((.int s,false),[stt a' b,n,y,z,x]):=by
 obtain⟨v,a',dN,hv,e⟩:=rW a b 2 (by omega) (by omega);have hl: ∀δ:Dn,kF [(fC (.int 1)),(jw oI (gc (fC (.int 1))))] δ=some ((.lst [.int 1,.int (-1)],true),δ):=fun δ=>rfl;refine⟨if v=0 then 1 else -1,a',by split<;>simp,?_⟩;refine jB (δ1:=[stt a b,n,y,z,x]) (gE (hl _)) (gE (δ1:=[stt a' b,n,y,z,x]) (ke (δ1:=[stt a b,n,y,z,x]) (os:=[.slot 0,.val (.int 2,false)]) (args:=[(.lst [.int a,.bl b],true),(.int 2,false)]) rfl rfl (show([0]:List Nat).Nodup from by decide) e)) rfl rfl ?_;rcases(show v=0\/v=1 by omega) with rfl|rfl<;>rfl
theorem M7(a:Int)(b:Bool)(n:Sl)(r f:gS)(x:Sl)(h0:0<r.length)(h5:r.length<=5)(hf:f.length<=5): ∃v s a',v<r.length/\(s=1\/s= -1)/\fbT [stt a b,n,lsi r,lsi f,x]=some (.nx [stt a' b,n,lsi (r.eraseIdx v),lsi (f++[r.getD v 0*s]),x]):=by
 obtain⟨v,a1,hv,e1⟩:=Mo a b n r f x h0 h5;obtain⟨s,a2,hs,e2⟩:=Ly a1 b n (lsi (r.eraseIdx v)) (lsi f) x;refine⟨v,s,a2,hv,hs,?_⟩
 have hm:mq (.int (r.getD v 0)) (.int s)=some (.int (r.getD v 0*s),false):=by
  have:CMul (r.getD v 0) s:= .inr (by omega);show((if CMul (r.getD v 0) s then some (D.int (r.getD v 0*s)) else none).map fun z=>(z,false))=_;rw[gq this];rfl
 have hl:(f.map D.int).length<sizeLine:=by rw[jF];exact yi hf (by decide)
 have e3:=qi (i:=3) (δ:=[stt a b,n,lsi r,lsi f,x]) (l0:=f.map .int) rfl (jB (gE e1) (gE e2) rfl rfl hm) (l:=f.map .int) rfl hl;refine(gJ (qG e3)).trans ?_;simp[gZ,lsi]
theorem K9(b:Bool)(n:Sl): ∀(ds:List D) (a:Int) (r f:gS) (x:Sl),ds.length=r.length->f.length+r.length<=5->
  ∃a' t r' x',t∈pS ds.length r f/\tV (gx 4) fbT ds [stt a b,n,lsi r,lsi f,x]=some (.nx [stt a' b,n,lsi r',lsi t,x'])
 |[],a,r,f,x,_,_=>⟨a,f,r,x,by simp[pS],rfl⟩
 |d::ds,a,r,f,x,h,hl=>by
  simp only[lX] at h;obtain⟨v,s,a1,hv,hs,e⟩:=M7 a b n r f (some (d,false)) (by omega) (by omega) (by omega);obtain⟨a',t,r',x',ht,e'⟩:=K9 b n ds a1 (r.eraseIdx v) (f++[r.getD v 0*s]) (some (d,false)) (by rw[Bf,gq hv];omega) (by rw[Bf,gq hv,nX];simp only[lX,List.length_nil];omega);refine⟨a',t,r',x',?_,?_⟩
  ·simp only[lX,pS,List.mem_flatMap,nG,List.mem_range];refine⟨v,hv,?_⟩;rcases hs with rfl|rfl
   ·exact .inl ht
   ·exact .inr ht
  ·unfold tV;rw[show gx 4 d [stt a b,n,lsi r,lsi f,x]=some [stt a b,n,lsi r,lsi f,some (d,false)] from rfl];simp only[iH];rw[e];simp only[iH];exact e'
theorem LF(n:Nat)(hn:n<=5):gRg .lst true [.int 1,.int ((n:Int)+1)]=some (.lst ((st n).map .int),true):=by
 have:n=0\/n=1\/n=2\/n=3\/n=4\/n=5:=by omega
 have h1:RgOk 1 ((n:Int)+1):=by rcases this with rfl|rfl|rfl|rfl|rfl|rfl<;>decide+kernel
 have h2:((n:Int)+1-1).toNat=n:=by omega
 show(if RgOk 1 ((n:Int)+1) then some (D.lst (ip 1 ((n:Int)+1-1).toNat),true) else none)=_;rw[gq h1,h2,<-Lw]
theorem uj{f:FO}{δ δ1:Dn}{o:Opd}{n:Nat}(h1:f δ=some (o,δ1))(h2:res δ1 o=some (.int n))(hn:n<=63):AJ f δ=some (ip 0 n,δ1):=by
 have hb:(-(2^62)<=(n:Int)/\(n:Int)<2^62):=⟨by omega,by omega⟩
 have h3:iN [f] δ=some ([o],δ1):=by simp[iN,h1]
 have h4:qe δ1 [o]=some [.int n]:=by simp[qe,h2]
 unfold AJ;rw[h3];simp only[iH];rw[h4];simp only[];rw[gq hb];rfl
theorem BZ(a:Int)(b:Bool)(n:Nat)(hn:n<=5): ∃a' t,t∈pS n (st n) []/\mx [(.lst [.int a,.bl b],true),(.int n,false)]=some (enc t,[stt a' b,some (.int n,false)]):=by
 have hlen:(ip 0 n).length=n:=by simp[ip]
 have r8:(st n).length=n:=by simp[st]
 obtain⟨a',t,r',x',ht,e⟩:=K9 b (some (.int n,false)) (ip 0 n) a (st n) [] none (by rw[hlen,r8]) (by rw[r8];simpa using hn);rw[hlen] at ht;refine⟨a',t,ht,?_⟩;refine kM (δ:=[stt a' b,some (.int n,false),lsi r',lsi t,x']) ⟨rfl,by decide,rfl⟩ ?_;refine(gJ (δ1:=[stt a b,some (.int n,false),lsi (st n),none,none]) (ki (i:=2) (δ1:=[stt a b,some (.int n,false),none,none,none]) (qV (os:=[.val (.int 1,false),.val (.int ((n:Int)+1),false)]) rfl rfl (LF n hn)) (show 2<5 by decide))).trans ?_;refine(gJ (δ1:=[stt a b,some (.int n,false),lsi (st n),lsi [],none]) rfl).trans ?_;refine(gJ ((qF (uj (o:= .slot 1) rfl rfl (by omega))).trans e)).trans ?_;exact iV (jX (qV (os:=[.slot 3]) rfl rfl rfl))
theorem wa: ∀t:List Int,D.depL (t.map .int)=0
 |[]=>by simp[D.depL]
 |s::t=>by simp[D.depL,D.dep,wa t]
theorem vY: ∀a b:List Int,D.eqbL (a.map .int) (b.map .int)=decide (a=b)
 |[],[]=>by simp[D.eqbL]
 |[],_::_=>by simp[D.eqbL]
 |_::_,[]=>by simp[D.eqbL]
 |x::a,y::b=>by simp[D.eqbL,D.eqb,vY a b,Bool.decide_and,zD]
@[simp] theorem EZ(a b:gS):gEq (.lst (a.map .int)) (.lst (b.map .int))=some (.bl (decide (a=b)),false):=by unfold gEq;rw[gq (by simp[D.dep,wa])];simp[D.eqb,vY]
theorem DL: ∀(l m:gS),l.Nodup->(∀x∈l,x∈m)->m.length<=l.length->l.Perm m
 |[],m,_,_,h=>by
  have:m=[]:=Lg.mp (by simpa using h);subst this;exact rA _
 |x::l,m,nd,hs,h=>by
  rw[zL] at nd;have hx:=hs x jg;have hp:=Fq hx;refine((DL l (m.erase x) nd.2 (fun y hy=>?_) ?_).cons x).trans hp.symm
  ·have eK:=hs y (jf _ hy);have t8:y≠x:=fun e=>nd.1 (e▸hy);exact(Fp t8).mpr eK
  ·have:=hp.length_eq;simp only[lX] at this h;omega
theorem Lu:x∈st n↔1<=x/\x<=n:=by
 simp only[st,oS,List.mem_range];constructor
 ·rintro⟨k,h,rfl⟩;omega
 ·rintro⟨h1,h2⟩;exact⟨(x-1).toNat,by omega,by omega⟩
theorem NQ(n:Nat):(st n).Pairwise (· < ·):=by
 simp only[st];rw[mz];exact KH.imp fun h=>by omega
theorem NS(n:Nat):(st n).Nodup:=(NQ n).imp fun h=>by omega
theorem Mt{n:Nat}{l:gS}:l.Perm (st n)↔l.length=n/\(∀x∈l,1<=x/\x<=n)/\l.Nodup:=by
 constructor
 ·intro h;refine⟨by rw[h.length_eq];simp[st],fun x hx=>Lu.mp (h.mem_iff.mp hx),h.symm.nodup (NS n)⟩
 ·rintro⟨h1,h2,h3⟩;exact DL l (st n) h3 (fun x hx=>Lu.mpr (h2 x hx)) (by simp[st,h1])
theorem zm{l:gS}{m:List D}(h:m.Perm (l.map D.int)): ∃k:List Int,m=k.map .int:=by
 refine⟨m.map fun d=>match d with|D.int i=>i|_=>0,?_⟩;rw[jP]
 symm
 rw[qm (g:=id),qa];intro d hd;obtain⟨i,_,rfl⟩:=oS.mp (h.mem_iff.mp hd);rfl
theorem Jk(pre:Dn)(x:Sl)(d:D):gx pre.length d (pre++[x])=some (pre++[some (d,false)]):=by
 unfold gx;rw[gq (by simp)];simp[List.set_append]
theorem xN(p:D->Bool): ∀l:List D,mP (l.map fun d=> .bl (p d))=some (l.map p)
 |[]=>rfl
 |d::l=>by simp[mP,xN p l]
theorem IS(p:D->Bool)(l:List D):Ij (.lst (l.map fun d=> .bl (p d)))=some (.bl (l.all p),false):=by
 simp[Ij,xN,List.all_map,Function.comp_def]
def ab(s:Int):Int:=if s<0 then -s else s
def sg(n:Int):D->Bool
 | .int s=>decide (1<=ab s)&&decide (ab s<=n)
 |_=>false
def iOf:D->Int
 | .int s=>s
 |_=>0
theorem ixi{t:gS}{v:Int}(h0:0<=v)(h:v<t.length):gIx (.tup (t.map .int)) (.int v)=some (.int (t.getD v.toNat 0),false):=by
 have h1:v.toNat<t.length:=by omega
 simp[gIx,atI,ixN,h0,h,h1]
theorem Qs{t:gS}{v:Int}(h0:0<=v)(h:v<t.length):gIx (.lst (t.map .int)) (.int v)=some (.int (t.getD v.toNat 0),false):=by
 have h1:v.toNat<t.length:=by omega
 simp[gIx,atI,ixN,h0,h,h1]
theorem kg(a:Int)(b:Bool)(m:Int)(hm:0<m)(cg:m<1073741824): ∃v a',0<=v/\v<m/\ ∀(fo:FO) (δ:Dn) (o:Opd),fo (stt a b::δ)=some (o,stt a b::δ)->wm (stt a b::δ) o=some (.int m,false)->gD gu [gf 0,fo] (stt a b::δ)=some ((.int v,false),stt a' b::δ):=by
 obtain⟨v,a',h0,h1,e⟩:=rW a b m hm cg;refine⟨v,a',h0,h1,fun fo δ o h2 h3=>?_⟩;refine(ke (os:=[.slot 0,o]) (args:=[(.lst [.int a,.bl b],true),(.int m,false)]) (ll rfl h2) ?_ ?_ e).trans ?_
 ·simp[h3]
 ·cases o<;>simp[gM]
 ·cases o<;>simp[wb]
def led(u:gS)(s:Int):Int:=if 0<s then u.getD (s-1).toNat 0 else -(u.getD (-s-1).toNat 0)
theorem MQ(u:gS)(s:Int)(h0:s≠0)(h1: -(u.length:Int)<=s)(h2:s<=u.length):
  lH [enc u,(.int s,false)]=some ((.int (led u s),false),[some (enc u),some (.int s,false)]):=by
 simp only[lH,oJ];by_cases h:0<s
 ·have:=ixi (t:=u) (v:=s-1) (by omega) (by omega);simp only[evF];simp[h,led,this,iE]
 ·have:=ixi (t:=u) (v:= -s-1) (by omega) (by omega);simp only[evF];simp[h,led,this,iE]
theorem Oe(x:Int):mq (.int x) (.int 1)=some (.int x,false):=by
 have:CMul x 1:= .inr (by omega);show((if CMul x 1 then some (D.int (x*1)) else none).map fun z=>(z,false))=_;rw[gq this,uP];rfl
theorem Od(x:Int):mq (.int x) (.int (-1))=some (.int (-x),false):=by
 have:CMul x (-1):= .inr (by omega);show((if CMul x (-1) then some (D.int (x*(-1))) else none).map fun z=>(z,false))=_;rw[gq this,Int.mul_neg,uP];rfl
theorem pm0:gIx (.lst [.int 1,.int (-1)]) (.int 0)=some (.int 1,false):=rfl
theorem pm1:gIx (.lst [.int 1,.int (-1)]) (.int 1)=some (.int (-1),false):=rfl
theorem Kc(u:gS)(s:Int)(h0:s≠0)(h1: -(u.length:Int)<=s)(h2:s<=u.length):
  hG [enc u,(.int s,false)]=some ((.int (led u s),false),[some (enc u),some (.int s,false)]):=by
 simp only[hG,kB];by_cases h:0<s
 ·have:=ixi (t:=u) (v:=s-1) (by omega) (by omega);have e0: ¬s<0:=by omega
  simp only[evF];simp[h,e0,led,this,iE,je,pm0,Oe]
 ·have:=ixi (t:=u) (v:= -s-1) (by omega) (by omega);have e0:s<0:=by omega
  simp only[evF];simp[h,e0,led,this,iE,je,pm1,Od]
def ClOk(n:Nat)(c:gS):Prop:=c≠[]/\(c.map ab).Pairwise (· < ·)/\ ∀s∈c,1<=ab s/\ab s<=n
def CA(j:Int)(c:gS):Prop:=(c.map ab).Pairwise (· < ·)/\ ∀s∈c,1<=ab s/\ab s<j
theorem Dc(h:0<=i):ab i=i:=by unfold ab;rw[gv (by omega)]
theorem Dd(h:0<=i):ab (-i)=i:=by unfold ab;split<;>omega
theorem CA.snoc{j s:Int}{c:gS}(h:CA j c)(h1:ab s=j)(h0:1<=j):CA (j+1) (c++[s]):=by
 refine⟨?_,fun x hx=>?_⟩
 ·rw[sL,lI];refine⟨h.1,by simp,fun x hx y hy=>?_⟩;obtain⟨z,hz,rfl⟩:=oS.mp hx;simp at hy;subst hy;have:=h.2 z hz;omega
 ·rcases nG.mp hx with hx|hx
  ·have:=h.2 x hx;omega
  ·simp at hx;subst hx;omega
theorem CA.up(h:CA j c):CA (j+1) c:=⟨h.1,fun x hx=>by have:=h.2 x hx;omega⟩
theorem CN{i:Nat}{f:F}{δ δ1:Dn}{r:D×Bool}{l0 l:List D}(h0:δ[i]?=some (some (.lst l0,true)))(h1:f δ=some (r,δ1))(h3:δ1[i]?=some (some (.lst l,true)))(h4:l.length<=10000):
  gw (mn (kn i f)) gZ δ=some (.nx (δ1.set i (some (.lst (l++[r.1]),true)))):=
 (gJ (qG (qi h0 h1 h3 (yS h4)))).trans rfl
theorem Kk(h1:f δ=some (o1,δ1))(h2:g δ1=some (o2,δ2))(h3:res δ2 o1=some (.int i))(h4:res δ2 o2=some (.int j))(hi:0<=i/\i<=1000)(hj:0<=j/\j<=1000):zk f g δ=some (ip i (j-i).toNat,δ2):=by
 unfold zk;rw[ll h1 h2];simp only[iH,LL,Jq,h3,h4];rw[gq ⟨by omega,by omega,by omega,by omega⟩]
theorem Cp{α:Type}[BEq α][LawfulBEq α]: ∀(l m:List α),l.Nodup->(∀x∈l,x∈m)->l.length<=m.length
 |[],m,_,_=>mB _
 |x::l,m,nd,hs=>by
  rw[zL] at nd;have hx:=hs x jg;have hp:=Fq hx
  have:=Cp l (m.erase x) nd.2 (fun y hy=>by
   have eK:=hs y (jf _ hy);have t8:y≠x:=fun e=>nd.1 (e▸hy);exact(Fp t8).mpr eK)
  have h2:=hp.length_eq;simp only[lX] at h2 ⊢;omega
theorem DC{l:gS}(h:l.Pairwise (· < ·)):l.Nodup:=h.imp fun h=>by omega
theorem ClOk.len{n:Nat}{c:gS}(h:ClOk n c):c.length<=n:=by
 have:=Cp (c.map ab) (st n) (DC h.2.1) (fun x hx=>by
  obtain⟨s,hs,rfl⟩:=oS.mp hx;exact Lu.mpr (h.2.2 s hs))
 simpa[st] using this
def TOk(n:Nat)(t:gS):Prop:=t.length=n/\ ∀x∈t,1<=ab x/\ab x<=n
theorem nE(i:Int):ab (-i)=ab i:=by unfold ab;split<;>split<;>omega
theorem pE{l:gS}{k:Nat}(h:k<l.length):l.getD k 0∈l:=by
 rw[pZ,iu h];exact ku h
theorem MR{n:Nat}{t:gS}(ht:TOk n t){s:Int}(h1:1<=ab s)(h2:ab s<=n):1<=ab (led t s)/\ab (led t s)<=n:=by
 unfold led;unfold ab at h1 h2;have hl:=ht.1;split
 ·rename_i h;rw[gv (by omega)] at h1 h2;exact ht.2 _ (pE (by omega))
 ·rename_i h;rw[nE];split at h1
  ·rw[gq (by assumption)] at h2;exact ht.2 _ (pE (by omega))
  ·omega
abbrev cD(c:gS):D:= .tup (c.map .int)
theorem IF(c:gS):D.dep (cD c)=1:=by simp[D.dep,wa]
theorem D4: ∀cs:List (List Int),D.depL (cs.map cD)<=1
 |[]=>by simp[D.depL]
 |c::cs=>by
  have:=D4 cs;simp only[ic,D.depL,IF];omega
theorem Iy(a b:gS):D.eqb (cD a) (cD b)=decide (a=b):=by simp[D.eqb,vY]
theorem IQ(c:gS): ∀cs:List (List Int),(cs.map cD).any (fun d=>D.eqb d (cD c))=decide (c∈cs)
 |[]=>by simp
 |x::cs=>by
  simp only[ic,rJ,IQ c cs,Iy,kb];by_cases h:x=c
  ·simp[h]
  ·have: ¬c=x:=fun e=>h e.symm;simp[h,this]
def wq:Nat->List (List Int)
 |0=>[[]]
 |k+1=>wq k++((wq k).map fun c=>c++[((k:Int)+1)])++((wq k).map fun c=>c++[-((k:Int)+1)])
theorem rh: ∀(k:Nat) (c:gS),(c.map ab).Pairwise (· < ·)->(∀s∈c,1<=ab s/\ab s<=k)->c∈wq k
 |0,c,_,h=>by
  cases c with
  |nil=>simp[wq]
  |cons s c=>have:=h s jg;omega
 |k+1,c,hp,h=>by
  simp only[wq,nG,oS];by_cases hn:c=[]
  ·subst hn;exact .inl (.inl (rh k [] (by simp) (by simp)))
  ·have hd:=Fo hn;generalize c.dropLast=i at hd;generalize c.getLast hn=s at hd;subst hd;rw[sL,lI] at hp;have hs:=h s (by simp);have hi: ∀x∈i,1<=ab x/\ab x<ab s:=fun x hx=>⟨(h x (by simp[hx])).1,hp.2.2 (ab x) (uC hx) (ab s) (by simp)⟩
   by_cases q:ab s<=k
   ·refine .inl (.inl (rh k _ ?_ fun x hx=>?_))
    ·rw[sL,lI];exact hp
    ·rcases nG.mp hx with hx|hx
     ·have:=hi x hx;omega
     ·simp at hx;subst hx;omega
   ·have e:ab s=(k:Int)+1:=by omega
    have hk:=rh k i hp.1 fun x hx=>by have:=hi x hx;omega
    unfold ab at e;split at e
    ·exact .inr ⟨i,hk,by rw[show s= -((k:Int)+1) by omega]⟩
    ·exact .inl (.inr ⟨i,hk,by rw[show s=((k:Int)+1) by omega]⟩)
theorem ya: ∀(k:Nat) (n:Nat),n<=k->(wq n).length<=(wq k).length
 |0,n,h=>by rw[show n=0 by omega];exact ig _
 |k+1,n,h=>by
  by_cases e:n=k+1
  ·subst e;exact ig _
  ·have:=ya k n (by omega);simp only[wq,nX,jF];omega
def CsOk(n:Nat)(cs:jk):Prop:=cs.Nodup/\ ∀c∈cs,ClOk n c
theorem CsOk.len(hn:n<=5)(h:CsOk n cs):cs.length<=243:=by
 have h1:=Cp cs (wq n) h.1 fun c hc=>rh n c (h.2 c hc).2.1 (h.2 c hc).2.2;have h2:=ya 5 n hn;have h3:(wq 5).length=243:=by decide
 omega
theorem CsOk.snoc{n:Nat}{cs:jk}{c:gS}(h:CsOk n cs)(hc:ClOk n c)(hm:c∉cs):CsOk n (cs++[c]):=by
 refine⟨?_,fun x hx=>?_⟩
 ·rw[List.nodup_append];exact⟨h.1,by simp,fun x hx y hy e=>by simp at hy;subst hy;subst e;exact hm hx⟩
 ·rcases nG.mp hx with hx|hx
  ·exact h.2 x hx
  ·simp at hx;subst hx;exact hc
abbrev lsC(cs:jk):Sl:=some (.lst (cs.map cD),true)
def sJ(vs:jk)(c:gS):List (List Int):=if c∈vs then vs else vs++[c]
theorem As: ∀l:List Int,D.prL (l.map .int)=true
 |[]=>by simp[D.prL]
 |x::l=>by simp[D.prL,D.pr,As l]
theorem xH(op:CmpOp): ∀a b:List Int,(nU op (a.map .int) (b.map .int)).isSome=true
 |[],b=>by simp[nU]
 |x::a,[]=>by simp[nU]
 |x::a,y::b=>by
  simp only[ic,nU];split
  ·exact xH op a b
  ·simp[lr]
theorem pj(cs:jk)(h: ∀c∈cs,c≠[]):rX (cs.map cD)=true:=by
 have hk: ∀c:List Int,c≠[]->jJ (cD c)=some 1:=fun c hc=>by
  cases c with
  |nil=>exact absurd rfl hc
  |cons=>rfl
 unfold rX
 cases cs with
 |nil=>rfl
 |cons c cs=>
  rw[Bl];right;simp only[ic];rw[lE,lE,hk c (h c jg)];refine⟨⟨rfl,?_⟩,?_⟩
  ·rw[nH];intro d hd;rw[<-ic (f:=cD)] at hd;obtain⟨x,hx,rfl⟩:=oS.mp hd;rw[hk x (h x hx),IF];simp[D.pr,As]
  ·rw[nH];intro d hd;rw[nH];intro e he;rw[<-ic (f:=cD)] at hd he;obtain⟨x,hx,rfl⟩:=oS.mp hd;obtain⟨y,hy,rfl⟩:=oS.mp he;simp only[lr];exact xH _ _ _
def unC:D->List Int
 | .tup l=>l.map iOf
 |_=>[]
theorem yO(c:gS):unC (cD c)=c:=by
 simp only[unC,jP];rw[qm (g:=id),qa];intro x _;rfl
theorem CS(h:m.Perm (cs.map cD)): ∃ks:List (List Int),m=ks.map cD/\ks.Perm cs:=by
 refine⟨m.map unC,?_,?_⟩
 ·rw[jP]
  symm
  rw[qm (g:=id),qa];intro d hd;obtain⟨c,_,rfl⟩:=oS.mp (h.mem_iff.mp hd);simp only[Function.comp,yO];rfl
 ·have:=h.map unC;rw[jP] at this;rw[show List.map (unC∘cD) cs=List.map id cs from qm (fun c _=>yO c),qa] at this;exact this
def SrtC(ks:jk):Prop:=ks.Pairwise fun a b=>ltT (cD b) (cD a)=false
theorem SrtC.take(h:SrtC ks)(m:Nat):SrtC (ks.take m):=List.Pairwise.sublist (lZ m ks) h
theorem CsOk.take(h:CsOk n ks)(m:Nat):CsOk n (ks.take m):=⟨List.Nodup.sublist (lZ m ks) h.1,fun c hc=>h.2 c (lK hc)⟩
def OF(n:Nat)(ks:jk):Prop:=n<=5/\CsOk n ks/\SrtC ks/\ks.length<=30
abbrev rD'(n:Nat)(ks:jk):D:= .tup [.int n,.tup (ks.map cD)]
abbrev ii(n:Int):Sl:=some (.int n,false)
abbrev frz(ds:List D):Dn:=ds.map fun d=>some (d,false)
theorem vL: ∀(os:List Opd) (ds:List D),gM os (ds.map fun d=>(d,false))=[]
 |[],_=>by simp[gM]
 |_::_,[]=>by simp[gM]
 |o::os,d::ds=>by cases o<;>simp[gM,vL os ds]
theorem Gp: ∀(os:List Opd) (ds:List D) (outs δ:Dn),wb os (ds.map fun d=>(d,false)) outs δ=δ
 |[],_,_,_=>by simp[wb]
 |_::_,[],_,_=>by simp[wb]
 |_::_,_::_,[],_=>by simp[wb]
 |o::os,d::ds,x::xs,δ=>by cases o<;>simp[wb,Gp os ds xs]
theorem Nk{f:F}{ti:FT}{g:D->D}{p:D->Bool}{pre:Dn}: ∀(l acc:List D) (x:Sl),(∀d∈l,ti (pre++[some (d,false)])=some (p d,pre++[some (d,false)])/\(p d=true-> ∃o,f (pre++[some (d,false)])=some ((g d,o),pre++[some (d,false)])))->acc.length+l.length<=sizeLine->
  ∃x',lb (gx pre.length) ti (iP f) l acc (pre++[x])=some (acc++(l.filter p).map g,pre++[x'])
 |[],acc,x,_,_=>⟨x,by simp[lb]⟩
 |d::l,acc,x,h,hl=>by
  obtain⟨h1,h2⟩:=h d jg;have hs:acc.length<sizeLine:=by simp at hl;omega
  rw[lb,Jk];simp only[iH];rw[h1]
  cases hp:p d with
  |false=>
   obtain⟨x',e⟩:=Nk l acc (some (d,false)) (fun d' h'=>h d' (jf _ h')) (by simp at hl ⊢;omega);exact⟨x',by simp[e,hp]⟩
  |true=>
   obtain⟨o,hd⟩:=h2 hp;obtain⟨x',e⟩:=Nk l (acc++[g d]) (some (d,false)) (fun d' h'=>h d' (jf _ h')) (by simp at hl ⊢;omega);refine⟨x',?_⟩;simp only[iH,hV,uf];rw[hd];simp only[iH];rw[gq hs];simp only[iH];rw[e];simp[hp]
theorem Ng{caps:gW}{fi:FIt}{f:F}{ti:FT}{δ δ1:Dn}{l args:List D}(g:D->D)(p:D->Bool)(h1:fi δ=some (l,δ1))(h2:iI δ1 (caps.map .slot)=some (args.map fun d=>(d,false)))(hc:args.length=caps.length)
  (h: ∀d∈l,ti (frz args++[some (d,false)])=some (p d,frz args++[some (d,false)])/\(p d=true-> ∃o,f (frz args++[some (d,false)])=some ((g d,o),frz args++[some (d,false)])))(hl:l.length<=10000):
  iR caps 1 fi (gx caps.length) ti (iP f) δ=some ((.lst ((l.filter p).map g),true),δ1):=by
 obtain⟨x',e⟩:=Nk (f:=f) (ti:=ti) (g:=g) (p:=p) (pre:=frz args) l [] none h (by rw[je];simp;omega);unfold iR;rw[h1];simp only[iH];rw[h2];simp only[iH,vL,qb,hV,jP,Gp];rw[show gx caps.length=gx (frz args).length from by rw[jF,hc]];rw[show((args.map (some∘fun d=>(d,false)))++List.replicate 1 none:Dn)=frz args++[none] from rfl,e];simp
theorem CU{caps:gW}{fi:FIt}{f:F}{δ δ1:Dn}{l args:List D}(g:D->D)(h1:fi δ=some (l,δ1))(h2:iI δ1 (caps.map .slot)=some (args.map fun d=>(d,false)))(hc:args.length=caps.length)
  (h: ∀d∈l,∃o,f (frz args++[some (d,false)])=some ((g d,o),frz args++[some (d,false)]))(hl:l.length<=10000):
  iR caps 1 fi (gx caps.length) jK (iP f) δ=some ((.lst (l.map g),true),δ1):=by
 rw[Ng g (fun _=>true) h1 h2 hc (fun d hd=>⟨rfl,fun _=>h d hd⟩) hl,List.filter_eq_self.mpr fun _ _=>rfl]
theorem qT{tg:Tg}{fb:FS}(I:List D->Dn->Prop)(step: ∀d ds δ,I (d::ds) δ-> ∃δ1 δ2,tg d δ=some δ1/\fb δ1=some (.nx δ2)/\I ds δ2): ∀(ds:List D) (δ:Dn),I ds δ-> ∃δ',I [] δ'/\tV tg fb ds δ=some (.nx δ')
 |[],δ,h=>⟨δ,h,rfl⟩
 |d::ds,δ,h=>by
  obtain⟨δ1,δ2,h1,h2,h3⟩:=step d ds δ h;obtain⟨δ',h4,h5⟩:=qT I step ds δ2 h3;refine⟨δ',h4,?_⟩;unfold tV;rw[h1];simp only[iH];rw[h2];exact h5
theorem AU{caps:gW}{k:Nat}{fi:FIt}{tg:Tg}{ti:FT}{fb:FB}{δ δ1 δ':Dn}{l acc:List D}{args:List (D×Bool)}(h1:fi δ=some (l,δ1))(h2:iI δ1 (caps.map .slot)=some args)(h3:(gM (caps.map .slot) args).Nodup)(h4:lb tg ti fb l [] (args.map some++List.replicate k none)=some (acc,δ')):
  iR caps k fi tg ti fb δ=some ((.lst acc,true),wb (caps.map .slot) args (iE args δ') δ1):=by
 unfold iR;rw[h1];simp only[iH];rw[h2];simp only[iH];rw[gq h3,h4];rfl
theorem Nc(h:f δ=some ((.bl true,o),δ1)):E7 f g δ=g δ1:=by rw[LP,h];rfl
theorem Kt(L:jk):(D.lst (L.map cD)).dep<=50:=by have:=D4 L;rw[D.dep];omega
theorem IH(l:List D)(v:Nat):PX.zu l none (some (v:Int))=l.take v:=by
 unfold PX.zu;rw[HT.Nv,HT.NU,uE,Nat.sub_zero];by_cases h:v<=l.length
 ·rw[qo h]
 ·rw[Nat.min_eq_right (by omega),qp (ig _),qp (by omega)]
def TT(n:Nat)(t:gS):Prop:=(t.map ab).Perm (st n)
def SG(n:Nat)(s:Int):Prop:=1<=ab s/\ab s<=n
theorem TT.len{n:Nat}{t:gS}(h:TT n t):t.length=n:=by simpa using(Mt.mp h).1
theorem TT.sg{n:Nat}{t:gS}(h:TT n t){x:Int}(hx:x∈t):SG n x:=(Mt.mp h).2.1 _ (uC hx)
theorem TT.tok{n:Nat}{t:gS}(h:TT n t):TOk n t:=⟨h.len,fun x hx=>h.sg hx⟩
theorem NT{n:Nat}{s:Int}(h:SG n s):s≠0:=by rintro rfl;have:=h.1;simp[ab] at this
theorem Lz{n:Nat}{s:Int}(h:SG n s):SG n (-s):=by unfold SG;rw[nE];exact h
theorem oB{n:Nat}{s:Int}(h:SG n s): ∃k:Nat,k<n/\(s=(k:Int)+1\/s= -((k:Int)+1)):=by
 have:=h;unfold SG ab at this;split at this
 ·exact⟨(-s-1).toNat,by omega,.inr (by omega)⟩
 ·exact⟨(s-1).toNat,by omega,.inl (by omega)⟩
theorem pA(t:gS)(k:Nat):led t ((k:Int)+1)=t.getD k 0:=by
 unfold led;rw[gq (by omega),show((k:Int)+1-1).toNat=k by omega]
theorem nv(t:gS)(k:Nat):led t (-((k:Int)+1))= -t.getD k 0:=by
 unfold led;rw[gv (by omega),show(- -((k:Int)+1)-1).toNat=k by omega]
theorem Kf{n:Nat}(t:gS){s:Int}(h:SG n s):led t (-s)= -led t s:=by
 obtain⟨k,_,rfl|rfl⟩:=oB h
 ·rw[pA,nv]
 ·rw[Int.neg_neg,pA,nv,Int.neg_neg]
theorem TT.led{n:Nat}{t:gS}(h:TT n t){s:Int}(hs:SG n s):SG n (led t s):=MR h.tok hs.1 hs.2
theorem DO{n:Nat}{t:gS}(h:TT n t){s r:Int}(hs:SG n s)(hr:SG n r)(e:PV.led t s=PV.led t r):s=r:=by
 have nd:=(Mt.mp h).2.2
 have ix: ∀{i j:Nat},i<n->j<n->ab (t.getD i 0)=ab (t.getD j 0)->i=j:=fun {i j} hi hj e=>by
  have l:=h.len
  have:=(List.getElem_inj (xs:=t.map ab) (i:=i) (j:=j) (h₀:=by simpa[l] using hi) (h₁:=by simpa[l] using hj) nd).mp (by
   simp only[List.getElem_map];simpa[pZ,l,hi,hj] using e)
  exact this
 have nz: ∀{i:Nat},i<n->t.getD i 0≠0:=fun {i} hi=>NT (h.sg (pE (by rw[h.len];exact hi)));obtain⟨i,hi,rfl|rfl⟩:=oB hs<;>obtain⟨j,hj,rfl|rfl⟩:=oB hr
 ·rw[pA,pA] at e;rw[ix hi hj (by rw[e])]
 ·rw[pA,nv] at e;have:=ix hi hj (by rw[e,nE]);subst this;exact absurd (show t.getD i 0=0 by omega) (nz hi)
 ·rw[pA,nv] at e;have:=ix hi hj (by rw[<-e,nE]);subst this;exact absurd (show t.getD i 0=0 by omega) (nz hi)
 ·rw[nv,nv] at e;rw[ix hi hj (by rw[show t.getD i 0=t.getD j 0 by omega])]
theorem Lv(n:Nat):(st n).length=n:=by simp[st]
theorem qg: ∀(k:Nat) (r f t:gS),r.length=k->(∀x∈r,0<=x)->t∈pS k r f->(t.map ab).Perm (f.map ab++r)
 |0,r,f,t,hr,_,h=>by
  simp[pS] at h;subst h;rw[Lg.mp hr];simp
 |k+1,r,f,t,hr,h0,h=>by
  simp only[pS,List.mem_flatMap,nG,List.mem_range] at h;obtain⟨v,hv,h⟩:=h;have hl:(r.eraseIdx v).length=k:=by rw[Bf,gq hv];omega
  have hz: ∀x∈r.eraseIdx v,0<=x:=fun x hx=>h0 x (Fn hx);have hx:=h0 _ (pE hv)
  have fin: ∀y:Int,ab y=r.getD v 0->(List.map ab (f++[y])++r.eraseIdx v).Perm (f.map ab++r):=fun y hy=>by
   rw[sL,jQ];refine qr _ ?_;simp only[ic,qw,List.cons_append,ur,hy];have e:r.getD v 0=r[v]:=by simp[pZ,hv]
   rw[e];rw[FD];have e2:r=r.take v++r[v]::r.drop (v+1):=by rw[<-sO hv,lD]
   conv=>rhs;rw[e2]
   exact Fi.symm
  rcases h with h|h
  ·exact(qg k _ _ t hl hz h).trans (fin _ (by rw[uP];exact Dc hx))
  ·exact(qg k _ _ t hl hz h).trans (fin _ (by rw[Int.mul_neg,uP];exact Dd hx))
theorem Jj{n:Nat}{t:gS}(h:t∈pS n (st n) []):TT n t:=by
 have:=qg n (st n) [] t (Lv n) (fun x hx=>by have:=Lu.mp hx;omega) h;unfold TT;simpa using this
def lc(t c:gS):List Int:=(kc ltA ((c.map (led t)).map D.int)).map iOf
def LCs(t c d:gS):Prop:=d.Perm (c.map (led t))/\(d.map ab).Pairwise (· < ·)
theorem Np(i:Int):aD (.int i)=ab i:=rfl
theorem Ib{m:List D}{l:gS}(h:m.Perm (l.map D.int)):m=(m.map iOf).map D.int/\(m.map iOf).Perm l:=by
 obtain⟨k,rfl⟩:=zm h;have e:(k.map D.int).map iOf=k:=by rw[jP];exact qa k
 rw[e];refine⟨rfl,?_⟩;have:=h.map iOf
 rwa [e,jP,show List.map (iOf∘D.int) l=l from qa l] at this
theorem yb{n:Nat}{t c:gS}(ht:TT n t)(h1:(c.map ab).Nodup)(h2: ∀s∈c,SG n s):((c.map (led t)).map ab).Nodup:=by
 rw[jP,List.Nodup,mz];rw[List.Nodup,mz] at h1;refine h1.imp_of_mem fun {a b} ha hb hab e=>hab ?_;have e:ab (led t a)=ab (led t b):=e;have l1:=h2 a ha;have l2:=h2 b hb;by_cases q:led t a=led t b
 ·rw[DO ht l1 l2 q]
 ·have:led t a=led t (-b):=by
   rw[Kf t l2];unfold ab at e;split at e<;>split at e<;>omega
  rw[DO ht l1 (Lz l2) this,nE]
theorem DP{n:Nat}{t c:gS}(ht:TT n t)(hc:ClOk n c):LCs t c (lc t c)/\(kc ltA ((c.map (led t)).map D.int))=(lc t c).map D.int:=by
 obtain⟨e,hp⟩:=Ib (jM ltA ((c.map (led t)).map D.int));refine⟨⟨hp,?_⟩,e⟩;have nd:=yb ht (DC hc.2.1) fun s hs=>hc.2.2 s hs;have nd2:((lc t c).map ab).Nodup:=(hp.map ab).symm.nodup nd;have hs:=rY ((c.map (led t)).map D.int);rw[e,mz] at hs;rw[mz];rw[List.Nodup,mz] at nd2;refine(hs.and nd2).imp fun {a b} h=>?_;have h1:ab a<=ab b:=h.1;have h2:ab a≠ab b:=h.2;omega
theorem LCs.uniq{n:Nat}{t c d e:gS}(h1:LCs t c d)(h2:LCs t c e):d=e:=by
 have p1:=h1.2;have p2:=h2.2;rw[mz] at p1 p2;refine(h1.1.trans h2.1.symm).eq_of_pairwise (le:=fun a b=>ab a<ab b) (fun a b _ _ x y=>absurd x (by omega)) p1 p2
theorem LCs.cl{n:Nat}{t c d:gS}(h:LCs t c d)(ht:TT n t)(hc:ClOk n c):ClOk n d:=by
 refine⟨fun e=>hc.1 ?_,h.2,fun s hs=>?_⟩
 ·have:=h.1.length_eq;rw[e] at this;simp at this;exact Lg.mp this.symm
 ·obtain⟨x,hx,rfl⟩:=oS.mp (h.1.mem_iff.mp hs);exact ht.led (hc.2.2 x hx)
theorem Of{n:Nat}{t c:gS}(ht:TT n t)(hc:ClOk n c):ClOk n (lc t c):=(DP ht hc).1.cl ht hc
def RJ(fo:FO)(δ:Dn)(d:D):Prop:= ∃o,fo δ=some (o,δ)/\res δ o=some d
def FJ(fo:FO)(δ:Dn)(d:D):Prop:= ∃o,fo δ=some (o,δ)/\res δ o=some d/\wm δ o=some (d,false)
theorem FJ.r{fo:FO}{δ:Dn}{d:D}(h:FJ fo δ d):RJ fo δ d:=let⟨o,a,b,_⟩:=h;⟨o,a,b⟩
theorem jV{i:Nat}{δ:Dn}{d:D}(h:δ[i]?=some (some (d,false))):FJ (gf i) δ d:=⟨.slot i,by unfold gf;rw[h],by unfold res;simp[h],by simp[h]⟩
theorem jR{i:Nat}{δ:Dn}{d:D}{b:Bool}(h:δ[i]?=some (some (d,b))):RJ (gf i) δ d:=⟨.slot i,by unfold gf;rw[h],by unfold res;simp[h]⟩
theorem jE{f:F}{δ:Dn}{d:D}{b:Bool}(h:f δ=some ((d,b),δ)):FJ (gc f) δ d:=⟨.val (d,b),gE h,rfl,rfl⟩
theorem jU2{ev:EvF}{fa fb:FO}{δ:Dn}{a b:D}{r:D×Bool}{outs:Dn}(h:ev [(a,false),(b,false)]=some (r,outs))(ha:FJ fa δ a)(hb:FJ fb δ b):gD ev [fa,fb] δ=some (r,δ):=by
 obtain⟨o,h1,_,h3⟩:=ha;obtain⟨o',k1,_,k3⟩:=hb;refine(ke (ll h1 k1) (args:=[a,b].map fun d=>(d,false)) (by simp[h3,k3]) (by rw[vL];exact qb) h).trans ?_;rw[Gp]
theorem jO{g:D->D->Option (D×Bool)}{fa fb:FO}{δ:Dn}{a b:D}{r:D×Bool}(h:g a b=some r)(ha:RJ fa δ a)(hb:RJ fb δ b):gn g fa fb δ=some (r,δ):=by
 obtain⟨o,h1,h2⟩:=ha;obtain⟨o',k1,k2⟩:=hb;exact jB h1 k1 h2 k2 h
theorem jC{g:D->Option (D×Bool)}{fa:FO}{δ:Dn}{a:D}{r:D×Bool}(h:g a=some r)(ha:RJ fa δ a):gL (g1 g) [fa] δ=some (r,δ):=by
 obtain⟨o,h1,h2⟩:=ha;exact qV (ds:=[a]) (zr h1) (by simp[h2]) h
theorem Pw{f:F}{np:Nat}{args:List (D×Bool)}{r:D×Bool}{δ:Dn}(h1:args.length=np/\np<=np/\(args.zipIdx.all fun p=>!(p.1.2&&([]:List Nat).contains p.2))=true)(h2:f (args.map some++List.replicate (np-np) none)=some (r,δ)):evF np np [] (gw (kd f) gZ) args=some (r,iE args δ):=
 kM h1 (iV (jX h2))
theorem KQ{n:Nat}{s:Int}(h:SG n s):s≠0/\ -(n:Int)<=s/\s<=n:=by
 obtain⟨k,hk,rfl|rfl⟩:=oB h<;>omega
theorem Qp{n:Nat}{u:gS}(hu:u.length=n){s:Int}(h:SG n s):lH [enc u,(.int s,false)]=some ((.int (led u s),false),[some (enc u),some (.int s,false)]):=by
 obtain⟨a,b,c⟩:=KQ h;exact MQ u s a (by rw[hu];exact b) (by rw[hu];exact c)
theorem HN(f:Int->Int)(l:gS):(l.map D.int).map (fun d=>D.int (f (iOf d)))=(l.map f).map D.int:=by rw[jP,jP];rfl
theorem xG{caps:gW}{fi:FIt}{f:F}{δ δ1:Dn}{l:gS}{args:List D}(g:Int->Int)(h1:fi δ=some (l.map D.int,δ1))(h2:iI δ1 (caps.map .slot)=some (args.map fun d=>(d,false)))(hc:args.length=caps.length)
  (h: ∀x∈l,∃o,f (frz args++[some (.int x,false)])=some ((.int (g x),o),frz args++[some (.int x,false)]))(hl:l.length<=10000):
  iR caps 1 fi (gx caps.length) jK (iP f) δ=some ((.lst ((l.map g).map D.int),true),δ1):=by
 rw[CU (fun d=> .int (g (iOf d))) h1 h2 hc (fun d hd=>by obtain⟨x,hx,rfl⟩:=oS.mp hd;exact h x hx) (by simpa using hl),HN]
theorem Jf{ft:FT}{fb:FS}{k:Nat}{δ δ1 δ2:Dn}(h:ft δ=some (true,δ1))(hb:fb δ1=some (.nx δ2)):lj ft fb (k+1) δ=lj ft fb k δ2:=by
 rw[lj,h];simp only[iH,hV];rw[hb];rfl
theorem Jg{ft:FT}{fb:FS}{k:Nat}{δ δ1:Dn}(h:ft δ=some (false,δ1)):lj ft fb (k+1) δ=some (.nx δ1):=by
 rw[lj,h];rfl
theorem Kv{caps:gW}{fi:FIt}{f:F}{δ δ1:Dn}{l:jk}{args:List D}(g:List Int->List Int)(h1:fi δ=some (l.map cD,δ1))(h2:iI δ1 (caps.map .slot)=some (args.map fun d=>(d,false)))(hc:args.length=caps.length)
  (h: ∀x∈l,∃o,f (frz args++[some (cD x,false)])=some ((cD (g x),o),frz args++[some (cD x,false)]))(hl:l.length<=10000):
  iR caps 1 fi (gx caps.length) jK (iP f) δ=some ((.lst ((l.map g).map cD),true),δ1):=by
 rw[CU (fun d=>cD (g (unC d))) h1 h2 hc (fun d hd=>by obtain⟨x,hx,rfl⟩:=oS.mp hd;rw[yO];exact h x hx) (by simpa using hl)];rw[jP,jP,qm (g:=cD∘g) fun x _=>by simp only[Function.comp,yO]]
theorem ud{cs:jk}(h:rX (cs.map cD)=true)(hl:cs.length<=10000): ∃ds:List (List Int),ds.Perm cs/\SrtC ds/\jS (cs.map cD)=some (.lst (ds.map cD),true):=by
 obtain⟨ds,e,hp⟩:=CS (jM ltT (cs.map cD));refine⟨ds,hp,?_,?_⟩
 ·have:=wZ (cs.map cD);rw[e,mz] at this;exact this
 ·unfold jS;rw[gq ⟨h,by rw[jF];exact yT hl⟩,e]
theorem vV{f g:F}{δ:Dn}{a b:D×Bool}(h1:f δ=some (a,δ))(h2:g δ=some (b,δ)):jh [f,g] δ=some ((.tup [a.1,b.1],false),δ):=by
 rw[LO,show[f,g].map gc=[gc f,gc g] from rfl,ll (gE h1) (gE h2)];simp[je]
theorem IM: ∀(l:jk) (acc:List D) (x y:Sl),(∀p∈l,∃i j,p=[i,j])->acc.length+l.length<=1000-> ∃x' y',lb (oy [(gx 0),(gx 1)]) jK (iP (kW 1)) (l.map cD) acc [x,y]=some (acc++l.map fun p=>D.int (p.getD 1 0),[x',y'])
 |[],acc,x,y,_,_=>⟨x,y,by simp[lb]⟩
 |p::l,acc,x,y,h,hl=>by
  obtain⟨i,j,rfl⟩:=h p jg;obtain⟨x',y',e⟩:=IM l (acc++[.int j]) (ii i) (ii j) (fun q hq=>h q (jf _ hq)) (by simp at hl ⊢;omega);refine⟨x',y',?_⟩;rw[ic,lb];rw[show oy [(gx 0),(gx 1)] (cD [i,j]) [x,y]=some [ii i,ii j] from rfl];simp only[iH,Dy,hV,uf];rw[show kW 1 [ii i,ii j]=some ((.int j,false),[ii i,ii j]) from rfl];simp only[iH];rw[gq (yS (by simp at hl;omega))];simp only[iH];rw[e];simp
theorem Ky{a s b r:Int}(h:ltT (cD [b,r]) (cD [a,s])=false):a<=b:=by
 rw[lT] at h;by_cases q:b<a
 ·exact absurd (by simp[cT,cL,q]) h
 ·omega
theorem MO{n:Nat}(hn:n<=5){t c:gS}(ht:TT n t)(hc:ClOk n c): ∃sl,jb [enc c,enc t]=some (enc (lc t c),[some (enc c),sl])/\sl=some (enc t):=by
 have hl:=hc.len
 let pr:Int->List Int:=fun s=>[ab (led t s),led t s]
 obtain⟨ds,hp,hs,e⟩:=ud (cs:=c.map pr) (pj _ fun x hx=>by obtain⟨y,_,rfl⟩:=oS.mp hx;simp[pr]) (by simp;omega)
 have c1:iR [1] 1 (ky (kW 0)) (gx 1) jK (iP (jh [(gL (g1 Ik) [(gc (gD hG [(gf 0),(gf 1)]))]),(gD hG [(gf 0),(gf 1)])])) [some (enc c),some (enc t),none]=some ((.lst ((c.map pr).map cD),true),[some (enc c),some (enc t),none]):=by
  refine(CU (caps:=[1]) (args:=[cD t]) (l:=c.map D.int) (δ1:=[some (enc c),some (enc t),none]) (fun d=>cD (pr (iOf d))) rfl rfl rfl (fun d hd=>?_) (by simp;omega)).trans ?_
  rotate_left
  ·rw[jP,jP];rfl
  ·obtain⟨x,hx,rfl⟩:=oS.mp hd;obtain⟨a1,b1,c1⟩:=KQ (hc.2.2 x hx);have e1:gD hG [(gf 0),(gf 1)] (frz [cD t]++[some (.int x,false)])=some ((.int (led t x),false),frz [cD t]++[some (.int x,false)]):=jU2 (Kc t x a1 (by rw[ht.len];exact b1) (by rw[ht.len];exact c1)) (jV rfl) (jV rfl);exact⟨false,vV (jC (NZ _) (jE e1).r) e1⟩
 have c2: ∀v:Sl,∃x' y',lb (oy [(gx 0),(gx 1)]) jK (iP (kW 1)) (ds.map cD) [] [none,none]=some (ds.map fun p=>D.int (p.getD 1 0),[x',y']):=fun v=>by
  obtain⟨x',y',e⟩:=IM ds [] none none (fun p hm=>by
   obtain⟨y,_,rfl⟩:=oS.mp (hp.mem_iff.mp hm);exact⟨_,_,rfl⟩) (by rw[hp.length_eq];simp;omega)
  exact⟨x',y',by simpa using e⟩
 obtain⟨x',y',c2⟩:=c2 none
 have hlc:(ds.map fun p=>p.getD 1 0)=lc t c:=by
  have e1:(ds.map fun p=>p.getD 1 0).Perm (c.map (led t)):=by
   have:=hp.map fun p=>p.getD 1 0
   rwa [jP] at this
  have ab2: ∀p∈ds,p=[ab (p.getD 1 0),p.getD 1 0]:=fun p hm=>by
   obtain⟨y,_,rfl⟩:=oS.mp (hp.mem_iff.mp hm);rfl
  refine LCs.uniq (n:=n) (t:=t) (c:=c) ⟨e1,?_⟩ (DP ht hc).1;have nd:((ds.map fun p=>p.getD 1 0).map ab).Nodup:=(e1.map ab).symm.nodup (yb ht (DC hc.2.1) fun s hs=>hc.2.2 s hs);rw[jP,mz];rw[jP,List.Nodup,mz] at nd;refine(List.Pairwise.and hs nd).imp_of_mem fun {p q} h1 h2 h=>?_;have h3:=h.1;rw[ab2 p h1,ab2 q h2] at h3;have:=Ky h3;have h4:=h.2;simp only[Function.comp] at h4 ⊢;omega
 refine⟨_,?_,rfl⟩;refine kM (δ:=[some (enc c),some (enc t),some (.lst ((c.map pr).map cD),true)]) ⟨rfl,by decide,rfl⟩ ?_;refine(gJ (ki (i:=2) c1 (show 2<3 by decide))).trans (iV (jX (jC (a:= .lst ((lc t c).map D.int)) rfl (jE (b:=true) ?_).r)));rw[AU (l:=ds.map cD) (δ1:=[some (enc c),some (enc t),some (.lst ((c.map pr).map cD),true)]) (args:=[]) (fi:=ky (gL (g1 mK) [(gf 2)])) ?_ rfl (by simp[gM]) c2]
 ·have e5:(ds.map fun p=>D.int (p.getD 1 0))=(lc t c).map D.int:=by rw[<-hlc,jP];rfl
  rw[e5];rfl
 ·rw[yZ,jC (show mK (.lst ((c.map pr).map cD))=some (.lst (ds.map cD),true) from e) (jR rfl)];rfl
abbrev fsg:F:=(gn gIx (gc (kF [(fC (.int 1)),(jw oI (gc (fC (.int 1))))])) (gc (gD gu [(gf 0),(gc (fC (.int 2)))])))
theorem GK(a:Int)(b:Bool): ∃(s a':Int),(s=1\/s= -1)/\ ∀δ:Dn,fsg (stt a b::δ)=some ((.int s,false),stt a' b::δ):=by
 obtain⟨v,a',v0,v1,e⟩:=kg a b 2 (by omega) (by omega);refine⟨if v=0 then 1 else -1,a',by split<;>simp,fun δ=>?_⟩;refine jB (o1:= .val (.lst [.int 1,.int (-1)],true)) (δ1:=stt a b::δ) rfl (gE (e _ δ _ rfl rfl)) rfl rfl ?_;rcases(show v=0\/v=1 by omega) with rfl|rfl<;>rfl
theorem K7{x s:Int}(h:s=1\/s= -1): ∃y,(y=x\/y= -x)/\mq (.int x) (.int s)=some (.int y,false):=by
 rcases h with rfl|rfl
 ·exact⟨x,.inl rfl,Oe x⟩
 ·exact⟨-x,.inr rfl,Od x⟩
abbrev tiC:FT:=(fT (gn gEq (gc (gD gu [(gf 0),(gc (fC (.int 2)))])) (gc (fC (.int 0)))))
theorem Lf(b:Bool): ∀(m j:Nat) (a:Int) (c:gS) (x:Sl),1<=j->CA j c->c.length+m<=10-> ∃a' c' x',CA (j+m:Nat) c'/\c'.length<=10/\lb (gx 1) tiC (iP (gn mq (gf 1) (gc fsg))) ((List.range' j m).map fun(k:Nat)=>D.int (k:Int)) (c.map .int) [stt a b,x]=some (c'.map .int,[stt a' b,x'])
 |0,j,a,c,x,_,hc,hl=>⟨a,c,x,by simpa using hc,by omega,rfl⟩
 |m+1,j,a,c,x,hj,hc,hl=>by
  obtain⟨v,a1,v0,v1,e1⟩:=kg a b 2 (by omega) (by omega)
  have t1:tiC [stt a b,ii j]=some (v==0,[stt a1 b,ii j]):=
   oM (o:=false) (jB (o1:= .val (.int v,false)) (δ1:=[stt a1 b,ii j]) (o2:= .val (.int 0,false)) (gE (e1 _ [ii j] _ rfl rfl)) rfl rfl rfl (G3 _ _))
  rw[Bu,ic]
  have st: ∀(a2:Int) (c2:gS),CA (j+1:Nat) c2->c2.length+m<=10->(if(v==0)=true then iP (gn mq (gf 1) (gc fsg)) (c.map .int) [stt a1 b,ii j] else some (c.map .int,[stt a1 b,ii j]))=some (c2.map .int,[stt a2 b,ii j])->
    ∃a' c' x',CA (j+(m+1):Nat) c'/\c'.length<=10/\lb (gx 1) tiC (iP (gn mq (gf 1) (gc fsg))) (D.int j::(List.range' (j+1) m).map fun(k:Nat)=>D.int (k:Int)) (c.map .int) [stt a b,x]=some (c'.map .int,[stt a' b,x']):=fun a2 c2 h1 h2 e=>by
   obtain⟨a',c',x',k1,k2,k3⟩:=Lf b m (j+1) a2 c2 (ii j) (by omega) h1 h2;refine⟨a',c',x',by rw[show j+(m+1)=j+1+m by omega];exact k1,k2,?_⟩;rw[lb,show gx 1 (.int j) [stt a b,x]=some [stt a b,ii j] from rfl];simp only[iH];rw[t1];simp only[iH];rw[e];exact k3
  by_cases hv:v=0
  ·obtain⟨s,a2,hs,e2⟩:=GK a1 b;obtain⟨y,hy,e3⟩:=K7 (x:=j) hs;refine st a2 (c++[y]) (by have:=hc.snoc (s:=y) (by rcases hy with rfl|rfl;exact Dc (by omega);exact Dd (by omega)) (by omega);simpa using this) (by simp;omega) ?_;rw[hv,gq (show((0:Int)==0)=true from rfl),uf,jB (o1:= .slot 1) (δ1:=[stt a1 b,ii j]) rfl (gE (e2 [ii j])) rfl rfl e3];simp only[iH];rw[gq (yS (by simp;omega))];simp
  ·refine st a1 c (by simpa using hc.up) (by omega) ?_;rw[gv (by simpa using hv)]
theorem Ez(n:Nat):ip 1 n=(List.range' 1 n).map fun(k:Nat)=>D.int (k:Int):=by
 unfold ip;rw[List.range'_eq_map_range,jP];exact qm fun k _=>by simp
theorem CW(a:Int)(b:Bool)(n:Nat)(h1:1<=n)(h5:n<=5): ∃a' c,ClOk n c/\jr [(.lst [.int a,.bl b],true),(.int n,false)]=some (enc c,[stt a' b,ii n]):=by
 obtain⟨a1,c,x,hc,hl,e1⟩:=Lf b n 1 a [] none (by omega) ⟨by simp,by simp⟩ (by simp;omega)
 have r1:zk (gc (fC (.int 1))) (gc (gn jo (gf 1) (gc (fC (.int 1))))) [stt a b,ii n,none]=some (((List.range' 1 n).map fun(k:Nat)=>D.int (k:Int)),[stt a b,ii n,none]):=by
  rw[Kk (o1:= .val (.int 1,false)) (o2:= .val (.int ((n:Int)+1),false)) (i:=1) (j:=(n:Int)+1) rfl rfl rfl rfl (by omega) (by omega),show((n:Int)+1-1).toNat=n by omega,Ez]
 have pre: ∀g,gw (jc 2 (iR [0] 1 (zk (gc (fC (.int 1))) (gc (gn jo (gf 1) (gc (fC (.int 1)))))) (gx 1) tiC (iP (gn mq (gf 1) (gc fsg))))) g [stt a b,ii n,none]=g [stt a1 b,ii n,lsi c]:=fun g=>
  gJ (ki (i:=2) (δ1:=[stt a1 b,ii n,none]) ((AU (caps:=[0]) (args:=[(.lst [.int a,.bl b],true)]) r1 rfl (show([0]:List Nat).Nodup by decide) e1).trans rfl) (show 2<3 by decide))
 have t1:fT (gn gEq (gf 2) (gc (kF []))) [stt a1 b,ii n,lsi c]=some (decide (c=[]),[stt a1 b,ii n,lsi c]):=
  oM (o:=false) (jB (o1:= .slot 2) (o2:= .val (.lst [],true)) (δ2:=[stt a1 b,ii n,lsi c]) rfl (gE (by simp[je])) rfl rfl (EZ c []))
 by_cases hn:c=[]
 ·obtain⟨i,a2,i0,i1,e2⟩:=kg a1 b n (by omega) (by omega);obtain⟨s,a3,hs,e3⟩:=GK a2 b;obtain⟨y,hy,e4⟩:=K7 (x:=1+i) hs;have hay:ab y=1+i:=by rcases hy with rfl|rfl;exact Dc (by omega);exact Dd (by omega)
  refine⟨a3,[y],⟨by simp,by simp,fun z hz=>by simp at hz;subst hz;rw[hay];omega⟩,?_⟩;refine kM (δ:=[stt a3 b,ii n,lsi [y]]) ⟨rfl,by decide,rfl⟩ ((pre _).trans ?_);rw[hn] at t1;rw[hn];refine(gJ ((tf t1).trans ((gJ (δ1:=[stt a3 b,ii n,lsi [y]]) (ki (i:=2) (δ1:=[stt a3 b,ii n,lsi []]) (r:=(.lst [.int y],true)) ?_ (show 2<3 by decide))).trans rfl))).trans (iV (jX (jC (a:= .lst [.int y]) rfl (jR rfl))));refine DY (os:=[.val (.int y,false)]) (zr (gE (jB (o1:= .val (.int (1+i),false)) (δ1:=[stt a2 b,ii n,lsi []]) (gE (jB (o1:= .val (.int 1,false)) (δ1:=[stt a1 b,ii n,lsi []]) rfl (gE (e2 _ [ii n,lsi []] (.slot 1) rfl rfl)) rfl rfl (vp _ _))) (gE (e3 [ii n,lsi []])) rfl rfl e4))) rfl (yT (by simp))
 ·refine⟨a1,c,⟨hn,hc.1,fun s hs=>by have:=hc.2 s hs;omega⟩,?_⟩;refine kM (δ:=[stt a1 b,ii n,lsi c]) ⟨rfl,by decide,rfl⟩ ((pre _).trans ?_);rw[kx hn] at t1;exact(gJ ((vh t1).trans rfl)).trans (iV (jX (jC (a:= .lst (c.map D.int)) rfl (jR rfl))))
def dC(cs:jk):D:= .oth .dct (cs.map cD) (cs.map fun _=> .bl true)
theorem xq: ∀l:List Int,(AG (l.map .int)).isSome=true
 |[]=>rfl
 |x::l=>by
  have:=xq l;simp only[ic,AG,wG]
  cases h:AG (l.map D.int) with
  |none=>rw[h] at this;cases this
  |some k=>rfl
theorem DS(c:gS):(sm (cD c)).isSome=true:=xq c
theorem DR(cs:jk):((cs.map cD).all fun k=>(sm k).isSome)=true:=by
 rw[nH];intro d hd;obtain⟨c,_,rfl⟩:=oS.mp hd;exact DS c
theorem AE(cs:jk)(c:gS):qQ (cs.map cD) (cD c)=true:=by
 unfold qQ;rw[DS,DR];simp
theorem GQ(c:gS): ∀cs:List (List Int),pQ (cs.map cD) (cs.map fun _=> .bl true) (cD c) (.bl true)=cs.map fun _=> .bl true
 |[]=>rfl
 |x::cs=>by simp[pQ,GQ c cs]
theorem Mg(cs:jk)(c:gS):D.oth .dct (pI (cs.map cD) (cs.map fun _=> .bl true) (cD c) (.bl true)).1 (pI (cs.map cD) (cs.map fun _=> .bl true) (cD c) (.bl true)).2=dC (sJ cs c):=by
 unfold pI sJ dC;rw[IQ];by_cases h:c∈cs
 ·rw[gq (by simpa using h),gq h,GQ]
 ·rw[gv (by simpa using h),gv h];simp
theorem DM(c:gS): ∀cs:List (List Int),(kN (cs.map cD) (cs.map fun _=> .bl true) (cD c)).isSome=decide (c∈cs)
 |[]=>rfl
 |x::cs=>by
  simp only[ic,kN,Iy];by_cases h:x=c
  ·simp[h]
  ·have: ¬c=x:=fun e=>h e.symm;simp[h,this,DM c cs]
theorem EL(c:gS)(cs:jk):pF (cD c) (dC cs)=some (.bl (!decide (c∈cs)),false):=by
 show(if qQ (cs.map cD) (cD c)=true then some (D.bl (!(kN (cs.map cD) (cs.map fun _=>D.bl true) (cD c)).isSome),false) else none)=_;rw[gq (AE cs c),DM]
theorem CsOk.add{n:Nat}{cs:jk}{c:gS}(h:CsOk n cs)(hc:ClOk n c):CsOk n (sJ cs c):=by
 unfold sJ;split
 ·exact h
 ·exact h.snoc hc (by assumption)
theorem D3{i:Nat}{f:F}{g:FO}{δ δ1 δ2:Dn}{o:Opd}{x:D×Bool}{b:Bool}{cs:jk}{c:gS}(h1:f δ=some ((.bl true,b),δ1))(h2:δ1[i]?=some (some x))(h3:g δ1=some (o,δ2))(h4:res δ2 o=some (cD c))(h5:δ2[i]?=some (some (dC cs,true)))(h6:cs.length<10000):tj i f g δ=some (.nx (δ2.set i (some (dC (sJ cs c),true)))):=by
 unfold tj;rw[h1];simp only[iH];rw[h2];simp only[];rw[h3];simp only[iH];rw[h4,h5];unfold dC;simp only[];rw[gq ⟨AE cs c,by simpa using h6⟩,Mg];rfl
abbrev fbD:FS:=(gw (tj 3 (fC (.bl true)) (gc (gD jr [(gf 0),(gf 1)]))) gZ)
theorem Na(a:Int)(b:Bool){n:Nat}(h1:1<=n)(h5:n<=5){cs:jk}(hc:CsOk n cs)(c2 c4:Sl): ∃a' ao,CsOk n ao/\fbD [stt a b,ii n,c2,some (dC cs,true),c4,none,none,none]=some (.nx [stt a' b,ii n,c2,some (dC ao,true),c4,none,none,none]):=by
 obtain⟨a',c,l8,e⟩:=CW a b n h1 h5;refine⟨a',sJ cs c,hc.add l8,(gJ (δ1:=[stt a' b,ii n,c2,some (dC (sJ cs c),true),c4,none,none,none]) ?_).trans rfl⟩
 have e2:gc (gD jr [(gf 0),(gf 1)]) [stt a b,ii n,c2,some (dC cs,true),c4,none,none,none]=some (.val (enc c),[stt a' b,ii n,c2,some (dC cs,true),c4,none,none,none]):=
  gE (ke (δ1:=[stt a b,ii n,c2,some (dC cs,true),c4,none,none,none]) (os:=[.slot 0,.slot 1]) (args:=[(.lst [.int a,.bl b],true),(.int n,false)]) rfl rfl (show([0]:List Nat).Nodup by decide) e)
 exact D3 (i:=3) (b:=false) rfl rfl e2 rfl rfl (by have:=hc.len h5;omega)
theorem Qz(b:Bool){n:Nat}(h1:1<=n)(h5:n<=5)(c2:Sl)(ds:List D)(a:Int)(cs:jk)(c4:Sl)(hc:CsOk n cs): ∃a' ao fU,CsOk n ao/\tV (gx 4) fbD ds [stt a b,ii n,c2,some (dC cs,true),c4,none,none,none]=some (.nx [stt a' b,ii n,c2,some (dC ao,true),fU,none,none,none]):=by
 obtain⟨δ',⟨a',ao,fU,k,rfl⟩,e⟩:=qT (fb:=fbD) (tg:=gx 4) (fun _ δ=> ∃a cs c4,CsOk n cs/\δ=[stt a b,ii n,c2,some (dC cs,true),c4,none,none,none]) (fun d ds δ h=>by
  obtain⟨a,cs,c4,hc,rfl⟩:=h;obtain⟨a1,cs1,k1,e1⟩:=Na a b h1 h5 hc c2 (some (d,false));exact⟨_,_,rfl,e1,a1,cs1,_,k1,rfl⟩) ds _ ⟨a,cs,c4,hc,rfl⟩
 exact⟨a',ao,fU,k,e⟩
abbrev ftF:FT:=(fT (gn gNe (gf 6) (gc (kF []))))
abbrev fbF:FS:=(gw (jc 7 (gD jb [(gc (PX.fPop 6)),(gf 5)])) (gw (sIf (fT (gn pF (gf 7) (gf 3))) (gw (tj 3 (fC (.bl true)) (gf 7)) (gw (mn (kn 6 (kW 7))) gZ)) gZ) gZ))
theorem Km(fs:jk):gNe (.lst (fs.map cD)) (.lst [])=some (.bl (!decide (fs=[])),false):=by
 unfold gNe;rw[gq ⟨Kt fs,by decide⟩];cases fs<;>simp[D.eqb,D.eqbL]
theorem M9{n:Nat}(hn:n<=5){t:gS}(ht:TT n t){cs fs:jk}{c:gS}(hc:CsOk n cs)(hl:fs.length<=1000)(l8:ClOk n c)(c0 c1 c2 c4 c7:Sl):
  fbF [c0,c1,c2,some (dC cs,true),c4,some (enc t),lsC (fs++[c]),c7]=some (.nx [c0,c1,c2,some (dC (sJ cs (lc t c)),true),c4,some (enc t),lsC (if lc t c∈cs then fs else fs++[lc t c]),some (enc (lc t c))]):=by
 obtain⟨_,e,rfl⟩:=MO hn ht l8
 have p1:gc (PX.fPop 6) [c0,c1,c2,some (dC cs,true),c4,some (enc t),lsC (fs++[c]),c7]=some (.val (enc c),[c0,c1,c2,some (dC cs,true),c4,some (enc t),lsC fs,c7]):=by
  refine gE ?_;unfold PX.fPop;simp[lsC]
 refine(gJ (δ1:=[c0,c1,c2,some (dC cs,true),c4,some (enc t),lsC fs,some (enc (lc t c))]) (ki (i:=7) (δ1:=[c0,c1,c2,some (dC cs,true),c4,some (enc t),lsC fs,c7]) (ke (δ1:=[c0,c1,c2,some (dC cs,true),c4,some (enc t),lsC fs,c7]) (os:=[.val (enc c),.slot 5]) (args:=[enc c,enc t]) (ll p1 rfl) rfl (by simp[gM]) e) (show 7<8 by decide))).trans ?_
 have t1:fT (gn pF (gf 7) (gf 3)) [c0,c1,c2,some (dC cs,true),c4,some (enc t),lsC fs,some (enc (lc t c))]=some (!decide (lc t c∈cs),[c0,c1,c2,some (dC cs,true),c4,some (enc t),lsC fs,some (enc (lc t c))]):=
  oM (jO (EL _ _) (jV rfl).r (jR rfl))
 by_cases h:lc t c∈cs
 ·rw[oo h] at t1;refine(gJ ((vh t1).trans rfl)).trans ?_;rw[gq h,show sJ cs (lc t c)=cs from gq h];rfl
 ·rw[kx h] at t1;refine(gJ (δ1:=[c0,c1,c2,some (dC (sJ cs (lc t c)),true),c4,some (enc t),lsC (fs++[lc t c]),some (enc (lc t c))]) ((tf t1).trans ((gJ (δ1:=[c0,c1,c2,some (dC (sJ cs (lc t c)),true),c4,some (enc t),lsC fs,some (enc (lc t c))]) ?_).trans ((CN (i:=6) (l0:=fs.map cD) (l:=fs.map cD) (r:=enc (lc t c)) (δ1:=[c0,c1,c2,some (dC (sJ cs (lc t c)),true),c4,some (enc t),lsC fs,some (enc (lc t c))]) rfl rfl rfl (by simp;omega)).trans ?_)))).trans ?_
  ·exact D3 (i:=3) (b:=false) (o:= .slot 7) (cs:=cs) (δ1:=[c0,c1,c2,some (dC cs,true),c4,some (enc t),lsC fs,some (enc (lc t c))]) (δ2:=[c0,c1,c2,some (dC cs,true),c4,some (enc t),lsC fs,some (enc (lc t c))]) rfl rfl rfl rfl rfl (by have:=hc.len hn;omega)
  ·simp[lsC]
  ·rw[gv h];rfl
theorem Gn{n:Nat}(hn:n<=5){t:gS}(ht:TT n t)(c0 c1 c2 c4:Sl): ∀(fuel:Nat) (cs fs:jk) (c7:Sl),CsOk n cs->(∀c∈fs,ClOk n c)->fs.length<=500->2*(243-cs.length)+fs.length<fuel-> ∃ao fS fR,CsOk n ao/\lj ftF fbF fuel [c0,c1,c2,some (dC cs,true),c4,some (enc t),lsC fs,c7]=some (.nx [c0,c1,c2,some (dC ao,true),c4,some (enc t),fS,fR])
 |0,_,_,_,_,_,_,h=>by omega
 |fuel+1,cs,fs,c7,hc,hf,hl,h=>by
  have t1:ftF [c0,c1,c2,some (dC cs,true),c4,some (enc t),lsC fs,c7]=some (!decide (fs=[]),[c0,c1,c2,some (dC cs,true),c4,some (enc t),lsC fs,c7]):=
   oM (o:=false) (jB (o1:= .slot 6) (o2:= .val (.lst [],true)) (δ2:=[c0,c1,c2,some (dC cs,true),c4,some (enc t),lsC fs,c7]) rfl (gE (by simp[je])) rfl rfl (Km fs))
  by_cases t8:fs=[]
  ·rw[oo t8] at t1;exact⟨cs,_,c7,hc,Jg t1⟩
  ·rw[kx t8] at t1;have e:=Fo t8;have hlen:fs.dropLast.length+1=fs.length:=by rw[FV];have:=List.length_pos_iff.mpr t8;omega
   have l8:=hf _ (List.getLast_mem t8);have b1:=M9 hn ht hc (fs:=fs.dropLast) (by omega) l8 c0 c1 c2 c4 c7;rw[e] at b1;have u9:=Of ht l8;have aL:=hc.add u9;have ag:=aL.len hn
   obtain⟨ao,fS,fR,k1,k2⟩:=Gn hn ht c0 c1 c2 c4 fuel _ (if lc t (fs.getLast t8)∈cs then fs.dropLast else fs.dropLast++[lc t (fs.getLast t8)]) (some (enc (lc t (fs.getLast t8)))) aL (fun c hm=>by
    have dl: ∀c∈fs.dropLast,ClOk n c:=fun c hm=>hf c (List.dropLast_subset _ hm);split at hm
    ·exact dl c hm
    ·rcases nG.mp hm with z|z
     ·exact dl c z
     ·cases nZ.mp z;exact u9) (by split<;>simp<;>omega) (by
    unfold sJ at ag ⊢;split
    ·rename_i q;simp only[q,hV] at ag ⊢;omega
    ·rename_i q;simp only[q,iJ] at ag ⊢;simp at ag ⊢;omega)
   exact⟨ao,fS,fR,k1,(Jf t1 b1).trans k2⟩
theorem Qo(cs:jk)(hl:cs.length<=243){k:Int}(h:k=0\/k=1): ∃fs:List (List Int),(∀c∈fs,c∈cs)/\fs.length<=243/\AO (.lst (cs.map cD)) (.int k)=some (.lst (fs.map cD),true):=by
 have hs:=yT (n:=243) (by decide);rcases h with rfl|rfl
 ·refine⟨[],by simp,by simp,?_⟩;show(if(0:Int)<=0/\(0:Int)<1000/\(cs.map cD).length*0<=sizeLine then some (D.lst (List.replicate 0 (cs.map cD)).flatten,true) else none)=_;rw[gq ⟨by decide,by decide,by simp⟩];rfl
 ·refine⟨cs,fun _ h=>h,hl,?_⟩;show(if(0:Int)<=1/\(1:Int)<1000/\(cs.map cD).length*1<=sizeLine then some (D.lst (List.replicate 1 (cs.map cD)).flatten,true) else none)=_;rw[gq ⟨by decide,by decide,by simp;exact mE hl hs⟩];simp
theorem Cc(a:Int)(b:Bool)(n:Nat)(h5:n<=5): ∃a' ks,OF n ks/\lp [(.lst [.int a,.bl b],true),(.int n,false)]=some ((rD' n ks,false),[stt a' b,ii n]):=by
 have t0: ∀δ:Dn,fT (gn gEq (gf 1) (gc (fC (.int 0)))) (stt a b::ii n::δ)=some (decide ((n:Int)=0),stt a b::ii n::δ):=fun δ=>
  oM (o:=false) (jO ((G3 _ _).trans (by rw[zD])) (jV rfl).r (jE rfl).r)
 by_cases hz:n=0
 ·subst hz;refine⟨a,[],⟨by omega,⟨by simp,by simp⟩,List.Pairwise.nil,by simp⟩,?_⟩;refine kM (δ:=[stt a b,ii (0:Nat),none,none,none,none,none,none]) ⟨rfl,by decide,rfl⟩ (iV ((tf (t0 _)).trans (iV (jX ?_))));exact vV (a:=(.int 0,false)) (b:=(.tup [],false)) rfl (by simp)
 ·have n1:1<=n:=by omega
  obtain⟨u,a1,u0,u1,e1⟩:=kg a b 3 (by omega) (by omega)
  let mL:List Int:=[3,5,12]
  let m:=mL.getD u.toNat 0
  have hm:0<m/\m<=12:=by
   rcases(show u=0\/u=1\/u=2 by omega) with rfl|rfl|rfl<;>decide
  obtain⟨q,a2,q0,q1,e2⟩:=kg a1 b (m+1) (by omega) (by omega);obtain⟨qn,rfl⟩: ∃qn:Nat,q=qn:=⟨q.toNat,by omega⟩
  obtain⟨a3,cs,c4,bK,e3⟩:=Qz b n1 h5 (ii m) (ip 0 qn) a2 [] none ⟨by simp,by simp⟩;obtain⟨a4,t,ht,e4⟩:=BZ a3 b n h5;have ht:=Jj ht;obtain⟨v,a5,v0,v1,e5⟩:=kg a4 b 2 (by omega) (by omega);have ag:=bK.len h5;obtain⟨fs,fq,hfl,e6⟩:=Qo cs ag (k:=if v=0 then 1 else 0) (by split<;>simp);obtain⟨cP,c6,c7,bx,e7⟩:=Gn h5 ht (stt a5 b) (ii n) (ii m) c4 OI cs fs none bK (fun c h=>bK.2 c (fq c h)) (by omega) (by show _<100000;omega);have h2432:=bx.len h5;obtain⟨ks,hp,hs,e8⟩:=ud (cs:=cP) (pj _ fun c hc=>(bx.2 c hc).1) (by omega);have hk:CsOk n ks:=⟨hp.symm.nodup bx.1,fun c h=>bx.2 c (hp.mem_iff.mp h)⟩
  refine⟨a5,ks.take 30,⟨h5,hk.take 30,hs.take 30,by rw[pN];omega⟩,?_⟩;refine kM (δ:=[stt a5 b,ii n,ii m,some (dC cP,true),c4,some (enc t),c6,c7]) ⟨rfl,by decide,rfl⟩ ?_;have t1:=t0 [none,none,none,none,none,none];rw[kx (show ¬(n:Int)=0 by omega)] at t1;refine(gJ ((vh t1).trans rfl)).trans ?_;refine(gJ (ki (i:=2) (δ1:=[stt a1 b,ii n,none,none,none,none,none,none]) (jB (o1:= .val (.lst (mL.map .int),true)) (o2:= .val (.int u,false)) (gE (δ1:=[stt a b,ii n,none,none,none,none,none,none]) (by simp[mL,je])) (gE (e1 _ [ii n,none,none,none,none,none,none] _ rfl rfl)) rfl rfl (Qs u0 (by simpa[mL] using u1))) (show 2<8 by decide))).trans ?_;refine(gJ (δ1:=[stt a1 b,ii n,ii m,some (dC [],true),none,none,none,none]) rfl).trans ?_;refine(gJ ((qF (uj (o:= .val (.int qn,false)) (δ1:=[stt a2 b,ii n,ii m,some (dC [],true),none,none,none,none]) (gE (e2 _ [ii n,ii m,some (dC [],true),none,none,none,none] (.val (.int (m+1),false)) rfl rfl)) rfl (by omega))).trans e3)).trans ?_;refine(gJ (ki (i:=5) (δ1:=[stt a4 b,ii n,ii m,some (dC cs,true),c4,none,none,none]) (ke (δ1:=[stt a3 b,ii n,ii m,some (dC cs,true),c4,none,none,none]) (os:=[.slot 0,.slot 1]) (args:=[(.lst [.int a3,.bl b],true),(.int n,false)]) rfl rfl (show([0]:List Nat).Nodup by decide) e4) (show 5<8 by decide))).trans ?_;refine(gJ (ki (i:=6) (δ1:=[stt a5 b,ii n,ii m,some (dC cs,true),c4,some (enc t),none,none]) (jB (o1:= .val (.lst (cs.map cD),true)) (o2:= .val (.int (if v=0 then 1 else 0),false)) (δ1:=[stt a4 b,ii n,ii m,some (dC cs,true),c4,some (enc t),none,none]) rfl (gE (jB (o1:= .val (.lst [.int 1,.int 0],true)) (δ1:=[stt a4 b,ii n,ii m,some (dC cs,true),c4,some (enc t),none,none]) rfl (gE (e5 _ [ii n,ii m,some (dC cs,true),c4,some (enc t),none,none] _ rfl rfl)) rfl rfl ?_)) rfl rfl e6) (show 6<8 by decide))).trans ?_
  ·rcases(show v=0\/v=1 by omega) with rfl|rfl<;>rfl
  refine(gJ e7).trans (iV (jX (vV (a:=(.int n,false)) (b:=(.tup ((ks.take 30).map cD),false)) rfl (jC (a:= .lst ((ks.take 30).map cD)) rfl (jE (b:=true) ?_).r))))
  have e9:qR (dC cP)=some (.lst (ks.map cD),true):=by
   show(if((cP.map cD).all fun k=>(sm k).isSome)=true then jS (cP.map cD) else none)=_;rw[gq (DR cP),e8]
  unfold vW;rw[gE (jC e9 (jR rfl))];simp only[iH,GZ,NW,GY];rw[show gSl none (some 30) (.lst (ks.map cD))=some (.lst (PX.zu (ks.map cD) none (some ((30:Nat):Int))),true) from rfl,IH,List.map_take];rfl
theorem no{t:FT}{f:FS}{δ:Dn}(g:FS)(h:t δ=some (false,δ)):gw (sIf t f gZ) g δ=g δ:=(gJ ((vh h).trans rfl))
theorem Cy(cs:jk):nR (.tup (cs.map cD))=some (.int cs.length,false):=by rw[LM,jF]
def yc(ev:EvF)(d:D):Prop:=ev [(d,false),(d,false)]=some ((.bl true,false),[some (d,false),some (d,false)])
theorem blU{ev:EvF}: ∀(l acc:List D) (x y:Sl),(∀d∈l,yc ev d)->acc.length+l.length<=10000-> ∃x' y',lb (oy [(gx 0),(gx 1)]) jK (iP (gD ev [(gf 0),(gf 1)])) ((l.zip l).map fun p=> .tup [p.1,p.2]) acc [x,y]=some (acc++l.map fun _=> .bl true,[x',y'])
 |[],acc,x,y,_,_=>⟨x,y,by simp[lb]⟩
 |d::l,acc,x,y,h,hl=>by
  obtain⟨x',y',e⟩:=blU l (acc++[.bl true]) (some (d,false)) (some (d,false)) (fun d' h'=>h d' (jf _ h')) (by simp at hl ⊢;omega);refine⟨x',y',?_⟩;have hs:acc.length<sizeLine:=by rw[je];simp at hl;omega
  simp only[List.zip_cons_cons,ic,lb];rw[show oy [(gx 0),(gx 1)] (.tup [d,d]) [x,y]=some [some (d,false),some (d,false)] from rfl];simp only[iH,Dy,hV,uf];rw[jU2 (h d jg) (jV rfl) (jV rfl)];simp only[iH];rw[gq hs];simp only[iH];rw[e];simp
theorem LA{ev:EvF}{l:List D}(h: ∀d∈l,yc ev d)(hl:l.length<=1000):yc (evF 2 2 [] (ji ev)) (.tup l):=by
 obtain⟨x',y',e⟩:=blU (ev:=ev) l [] none none h (by simp;omega)
 let δ:Dn:=[some (.tup l,false),some (.tup l,false)]
 have hc:iR [] 2 (sv (gf 0) (gf 1)) (oy [(gx 0),(gx 1)]) jK (iP (gD ev [(gf 0),(gf 1)])) δ=some ((.lst (l.map fun _=> .bl true),true),δ):=by
  unfold iR;rw[show sv (gf 0) (gf 1) δ=some ((l.zip l).map fun p=> .tup [p.1,p.2],δ) from rfl];simp only[iH,qw,EA,gM,qb,hV,ur,sQ,List.replicate_zero];rw[e];rfl
 have ha:gL (g1 Ij) [(gc (iR [] 2 (sv (gf 0) (gf 1)) (oy [(gx 0),(gx 1)]) jK (iP (gD ev [(gf 0),(gf 1)]))))] δ=some ((.bl true,false),δ):=
  jC (a:= .lst (l.map fun _=> .bl true)) (by rw[IS (fun _=>true)];simp) (jE hc).r
 refine kM (δ:=δ) ⟨rfl,by decide,rfl⟩ (iV ((tf (δ1:=δ) rfl).trans ?_));refine(gJ ((vh (δ1:=δ) (by simp[δ,isT])).trans rfl)).trans (iV (jX ((Nc (δ1:=δ) (o:=false) ?_).trans ha)));simp[δ]
theorem Oi(ev:EvF)(i:Int):yc (evF 2 2 [] (ji ev)) (.int i):=by
 simp[yc,ji,evF,iE,isT]
theorem rdU(n:Nat){ks:jk}(hl:ks.length<=1000)(h: ∀c∈ks,c.length<=1000):yc (ie RD) (rD' n ks):=
 LA (ev:=ie 5) (fun d hd=>by
  rcases kb.mp hd with rfl|hd
  ·exact Oi (ie 4) n
  ·cases nZ.mp hd
   exact LA (ev:=ie 4) (fun d hd=>by
    obtain⟨t,ht,rfl⟩:=oS.mp hd
    exact LA (ev:=ie 3) (fun d hd=>by
     obtain⟨i,_,rfl⟩:=oS.mp hd;exact Oi (ie 2) i) (by simpa using h t ht)) (by simpa using hl)) (by simp)
def sh(n:Nat)(s:Int):Int:=if s<0 then s-n else s+n
def fu(n m:Nat):List Int:=(List.range m).map fun i:Nat=>(n:Int)+1+(i:Int)
theorem OE(n:Nat)(s:Int):ab (sh n s)=ab s+n:=by unfold sh ab;split<;>split<;>(try split)<;>omega
theorem MP{n m:Nat}{s:Int}(h:SG m s):led (fu n m) s=sh n s:=by
 obtain⟨k,hk,rfl|rfl⟩:=oB h
 ·unfold led sh fu;rw[gq (by omega),gv (by omega),show((k:Int)+1-1).toNat=k by omega,pZ,jd,BC hk];simp;omega
 ·unfold led sh fu;rw[gv (by omega),gq (by omega),show(-(-((k:Int)+1))-1).toNat=k by omega,pZ,jd,BC hk];simp;omega
theorem M1(n m:Nat):(fu n m).length=m:=by simp[fu]
theorem Dr{α:Type}(lt:α->α->Bool): ∀{l:List α},l.Pairwise (fun a b=>lt b a=false)->kc lt l=l
 |[],_=>rfl
 |x::l,h=>by
  obtain⟨h1,h2⟩:=nY.mp h;rw[kc,Dr lt h2]
  cases l with
  |nil=>rfl
  |cons y l=>rw[pJ,h1 y jg];rfl
theorem N6{n m:Nat}{c:gS}(hc:ClOk m c):((c.map (sh n)).map ab).Pairwise (· < ·):=by
 have:=hc.2.1;rw[jP,mz] at*;refine this.imp fun {a b} h=>?_;simp only[Function.comp,OE];omega
theorem GI{n m:Nat}{c:gS}(hm:m<=5)(hc:ClOk m c):sx (.lst ((c.map (sh n)).map D.int))=some (.lst ((c.map (sh n)).map D.int),true):=by
 have hl:=hc.len;have hp:=N6 (n:=n) hc;show(if((c.map (sh n)).map D.int).all isI=true/\(((c.map (sh n)).map D.int).map aD).Nodup/\((c.map (sh n)).map D.int).length<64 then some (D.lst (kc ltA ((c.map (sh n)).map D.int)),true) else none)=_
 have hA:((c.map (sh n)).map D.int).all isI=true:=by
  rw[nH];intro d hd;obtain⟨x,_,rfl⟩:=oS.mp hd;rfl
 have hB:(((c.map (sh n)).map D.int).map aD).Nodup:=by
  rw[jP];exact DC hp
 rw[gq ⟨hA,hB,by simp;omega⟩,Dr];rw[mz];rw[mz] at hp;refine hp.imp fun {a b} h=>?_;unfold ltA;rw[kx];simp only[Np];omega
theorem Ke{n m:Nat}(hm:m<=5){c:gS}(hc:ClOk m c):kG [enc c,enc (fu n m)]=some (enc (c.map (sh n)),[some (enc c),some (enc (fu n m))]):=by
 have:=hc.len;refine Pw ⟨rfl,by decide,rfl⟩ (jC (a:= .lst ((c.map (sh n)).map D.int)) rfl (jE (b:=true) (jC (GI hm hc) (jE (b:=true) (xG (args:=[cD (fu n m)]) (sh n) rfl rfl rfl (fun x hx=>⟨false,?_⟩) (by omega))).r)).r);exact(jU2 (Qp (M1 n m) (hc.2.2 x hx)) (jV rfl) (jV rfl)).trans (by rw[MP (hc.2.2 x hx)])
def RB(n:Nat)(ks:jk):Prop:=n<=5/\(∀c∈ks,ClOk n c)/\ks.length<=30
abbrev rr(n:Nat)(ks:jk):Sl:=some (rD' n ks,false)
abbrev jn(n:Nat)(ks js:jk):List (List Int):=ks++js.map (List.map (sh n))
theorem NV{n m:Nat}(hn:n<=5)(hm:m<=5):gRg .tup false [.int ((n:Int)+1),.int ((n:Int)+m+1)]=some (cD (fu n m),false):=by
 have h1:RgOk ((n:Int)+1) ((n:Int)+m+1):=by unfold RgOk;refine⟨by omega,by omega,by omega,by omega,by omega⟩
 show(if RgOk ((n:Int)+1) ((n:Int)+m+1) then some (D.tup (ip ((n:Int)+1) ((n:Int)+m+1-((n:Int)+1)).toNat),false) else none)=_;rw[gq h1,show((n:Int)+m+1-((n:Int)+1)).toNat=m by omega];simp[fu,ip]
theorem ix0{fo:FO}{δ:Dn}{m:Nat}{cs:jk}(h:RJ fo δ (rD' m cs)):FJ (gc (gn gIx fo (gc (fC (.int 0))))) δ (.int m):=jE (jO rfl h (jE rfl).r)
theorem ix1{fo:FO}{δ:Dn}{m:Nat}{cs:jk}(h:RJ fo δ (rD' m cs)):gn gIx fo (gc (fC (.int 1))) δ=some ((.tup (cs.map cD),false),δ):=jO rfl h (jE rfl).r
theorem Nn{a b:jk}(ha:a.length<=1000)(hb:b.length<=1000):jo (.tup (a.map cD)) (.tup (b.map cD))=some (.tup ((a++b).map cD),false):=by
 show(if(a.map cD).length+(b.map cD).length<=sizeLine then some (D.tup (a.map cD++b.map cD),false) else none)=_;rw[gq (by rw[je];simp;omega),sL]
abbrev bs1:FS:=(jc 2 (gn jo (gc (gn gIx (gf 0) (gc (fC (.int 0))))) (gc (gn gIx (gf 1) (gc (fC (.int 0)))))))
abbrev bs2:FS:=(jc 3 (gL (gRg .tup false) [(gc (gn jo (gc (gn gIx (gf 0) (gc (fC (.int 0))))) (gc (fC (.int 1))))),(gc (gn jo (gf 2) (gc (fC (.int 1)))))]))
abbrev bs3:FS:=(jc 4 (gn jo (gc (gn gIx (gf 0) (gc (fC (.int 1))))) (gc (gL (g1 kz) [(gc (iR [3] 1 (ky (gn gIx (gf 1) (gc (fC (.int 1))))) (gx 1) jK (iP (gD kG [(gf 1),(gf 0)]))))]))))
section
variable {n m:Nat}{ks js:jk}
theorem C7:bs1 [rr n ks,rr m js,none,none,none]=some (.nx [rr n ks,rr m js,ii ((n:Int)+m),none,none]):=
 ki (i:=2) (δ1:=[rr n ks,rr m js,none,none,none]) (jO (vp _ _) (ix0 (jV rfl).r).r (ix0 (jV rfl).r).r) (show 2<5 by decide)
theorem C6(hn:n<=5)(hm:m<=5):bs2 [rr n ks,rr m js,ii ((n:Int)+m),none,none]=some (.nx [rr n ks,rr m js,ii ((n:Int)+m),some (enc (fu n m)),none]):=
 ki (i:=3) (δ1:=[rr n ks,rr m js,ii ((n:Int)+m),none,none]) (qV (os:=[.val (.int ((n:Int)+1),false),.val (.int ((n:Int)+m+1),false)]) (ll (gE (jO (vp _ _) (ix0 (jV rfl).r).r (jE rfl).r)) (gE (jO (vp _ _) (jV rfl).r (jE rfl).r))) rfl (NV hn hm)) (show 3<5 by decide)
theorem C5(h1:RB n ks)(h2:RB m js):bs3 [rr n ks,rr m js,ii ((n:Int)+m),some (enc (fu n m)),none]=some (.nx [rr n ks,rr m js,ii ((n:Int)+m),some (enc (fu n m)),some (.tup ((jn n ks js).map cD),false)]):=by
 have a1:=h1.2.2;have a2:=h2.2.2;refine ki (i:=4) (δ1:=[rr n ks,rr m js,ii ((n:Int)+m),some (enc (fu n m)),none]) (jO (Nn (by omega) (by simp;omega)) (jE (ix1 (jV rfl).r)).r (jE (jC (a:= .lst ((js.map (List.map (sh n))).map cD)) rfl (jE (b:=true) (Kv (caps:=[3]) (args:=[cD (fu n m)]) (l:=js) (List.map (sh n)) ?_ rfl rfl (fun x hx=>⟨false,?_⟩) (by omega))).r)).r) (show 4<5 by decide)
 ·rw[yZ,ix1 (jV rfl).r];rfl
 ·exact jU2 (Ke h2.1 (h2.2.1 x hx)) (jV rfl) (jV rfl)
theorem CB:(jn n ks js).length=ks.length+js.length:=by simp
abbrev dB(n m:Nat)(ks js:jk):Dn:=[rr n ks,rr m js,ii ((n:Int)+m),some (enc (fu n m)),some (.tup ((jn n ks js).map cD),false)]
theorem bt1:fT (gn (lh .Gt) (gf 2) (gc (fC (.int 5)))) (dB n m ks js)=some (decide (5<n+m),dB n m ks js):=
 (oM (o:=false) (jO (Jr _ _) (jV rfl).r (jE rfl).r)).trans (by congr 3;exact propext ⟨fun h=>by omega,fun h=>by omega⟩)
theorem bt2:fT (gn (lh .Gt) (gc (gL (g1 nR) [(gf 4)])) (gc (fC (.int 30)))) (dB n m ks js)=some (decide (30<ks.length+js.length),dB n m ks js):=
 (oM (o:=false) (jO (Jr _ _) (jE (jC (Cy _) (jV rfl).r)).r (jE rfl).r)).trans (by rw[CB];congr 3;exact propext ⟨fun h=>by omega,fun h=>by omega⟩)
theorem Et(h1:RB n ks)(h2:RB m js): ∃ds:List (List Int),ds.Perm (jn n ks js)/\jS ((jn n ks js).map cD)=some (.lst (ds.map cD),true):=by
 have a1:=h1.2.2;have a2:=h2.2.2
 obtain⟨ds,hp,_,e⟩:=ud (cs:=jn n ks js) (pj _ fun c hc=>by
  rcases nG.mp hc with z|z
  ·exact(h1.2.1 c z).1
  ·obtain⟨x,hx,rfl⟩:=oS.mp z;have:=(h2.2.1 x hx).1;simpa using this) (by simp;omega)
 exact⟨ds,hp,e⟩
theorem Ff(h1:RB n ks)(h2:RB m js)(h5:n+m<=5)(h30:ks.length+js.length<=30){ds:jk}(e:jS ((jn n ks js).map cD)=some (.lst (ds.map cD),true)):lU [(rD' n ks,false),(rD' m js,false)]=some ((rD' (n+m) ds,false),[rr n ks,rr m js]):=by
 refine kM (δ:=dB n m ks js) ⟨rfl,by decide,rfl⟩ ?_;refine(gJ C7).trans ((gJ (C6 h1.1 h2.1)).trans ((gJ (C5 h1 h2)).trans ?_));refine(no _ (bt1.trans (by rw[kx (by omega)]))).trans ((no _ (bt2.trans (by rw[kx (by omega)]))).trans (iV (jX ?_)));exact vV (a:=(.int ((n+m:Nat):Int),false)) (b:=(.tup (ds.map cD),false)) rfl (jC (a:= .lst (ds.map cD)) rfl (jE (b:=true) (jC e (jV rfl).r)).r)
theorem tY{f:FS}{x:XS}{δ δ1:Dn}(h:f δ=some (.nx δ1))(hf:AQ δ1=true):yL f x δ=x δ1:=by unfold yL;rw[h];simp only[iH];rw[gq hf]
theorem KN{t:FT}{x y:XS}{δ:Dn}(h:t δ=some (true,δ))(hf:AQ δ=true):zIf t x y δ=x δ:=by unfold zIf;rw[h];simp only[iH];rw[gq hf];rfl
theorem NB{t:FT}{x y:XS}{δ:Dn}(h:t δ=some (false,δ))(hf:AQ δ=true):zIf t x y δ=y δ:=by unfold zIf;rw[h];simp only[iH];rw[gq hf];rfl
theorem Iv{n np:Nat}{asg:gW}{f:FS}{args:List (D×Bool)}(h:f (args.map some++List.replicate (n-np) none)=none):evF n np asg f args=none:=by
 unfold evF;split
 ·rw[h]
 ·rfl
theorem Fe(h1:RB n ks)(h2:RB m js)(h:5<n+m\/30<ks.length+js.length):lU [(rD' n ks,false),(rD' m js,false)]=none/\oU [rD' n ks,rD' m js]=some "TooMany":=by
 constructor
 ·have:sy [rr n ks,rr m js,none,none,none]=none:=by
   refine(gJ C7).trans ((gJ (C6 h1.1 h2.1)).trans ((gJ (C5 h1 h2)).trans ?_));by_cases q:5<n+m
   ·rw[yY,tf (bt1.trans (by rw[oo q]))];rfl
   ·refine(no _ (bt1.trans (by rw[kx q]))).trans ?_;rw[yY,tf (bt2.trans (by rw[oo (by omega)]))];rfl
  exact Iv this
 ·show rQ [rr n ks,rr m js,none,none,none]=some "TooMany";refine(tY C7 rfl).trans ((tY (C6 h1.1 h2.1) rfl).trans ((tY (C5 h1 h2) rfl).trans ?_));unfold zOr;by_cases q:5<n+m
  ·rw[KN (bt1.trans (by rw[oo q])) rfl];rfl
  ·rw[NB (bt1.trans (by rw[kx q])) rfl];show yL _ _ _=_;rw[tY ((vh (bt1.trans (by rw[kx q]))).trans rfl) rfl,KN (bt2.trans (by rw[oo (by omega)])) rfl];rfl
end
theorem B8:wY 5 1 (iZ CT wN) (.oth (.exc 121) [] [])=some (.str "many"):=by
 kernel_rfl
theorem Kr{caps:gW}{f:F}{x:XS}{n i:Nat}{fs:FS}{CI:Str->Option Nat}{δ:Dn}{args:List (D×Bool)}{c:Str}{C:Nat}{d:D}(h1:iI δ (caps.map .slot)=some args)(h2:(args.all fun a=>!a.2)=true)(h3:f (args.map some)=none)(h4:x (args.map some)=some c)(h5:CI c=some C)(h6:wY n i fs (.oth (.exc C) [] [])=some d):E5 caps f x n i fs CI δ=some ((d,false),δ):=by
 unfold E5;rw[h1];simp only[iH];rw[gq h2,h3];simp only[];rw[h4];simp only[iH];rw[h5];simp only[iH];rw[h6];rfl
theorem CM{ev:EvF}{fs:List FO}{δ δ1:Dn}{os:List Opd}{args:List (D×Bool)}(h1:iN fs δ=some (os,δ1))(h2:iI δ1 os=some args)(h3:ev args=none):gD ev fs δ=none:=by
 rw[Js,h1];simp only[iH];rw[h2];simp only[iH];rw[h3];split<;>rfl
theorem Gg{xc:List D->Option Str}{fs:List FO}{δ δ1:Dn}{os:List Opd}{args:List (D×Bool)}{c:Str}(h1:iN fs δ=some (os,δ1))(h2:iI δ1 os=some args)(h3:(args.all fun a=>!a.2)=true)(h4:xc (args.map (·.1))=some c):wU xc fs δ=some c:=by
 unfold wU;rw[h1];simp only[iH];rw[h2];simp only[iH];rw[gq h3];exact h4
theorem Pu:(fun z=>wN.lookup z) ("TooMany":Str)=some 121:=by kernel_rfl
section
variable {n m:Nat}{ks js:jk}
theorem GU(h1:RB n ks)(h2:RB m js)(h:5<n+m\/30<ks.length+js.length)(δ:Dn):E5 [0,1] (gD lU [(gf 0),(gf 1)]) (wU oU [(gf 0),(gf 1)]) 5 1 (iZ CT wN) (fun z=>wN.lookup z) (rr n ks::rr m js::δ)=some ((.str "many",false),rr n ks::rr m js::δ):=by
 obtain⟨e1,e2⟩:=Fe h1 h2 h;exact Kr (args:=[(rD' n ks,false),(rD' m js,false)]) rfl rfl (CM (os:=[.slot 0,.slot 1]) (δ1:=[rr n ks,rr m js]) (ll rfl rfl) rfl e1) (Gg (os:=[.slot 0,.slot 1]) (δ1:=[rr n ks,rr m js]) (args:=[(rD' n ks,false),(rD' m js,false)]) (ll rfl rfl) rfl rfl e2) Pu B8
abbrev fbR:FS:=(gw (mn (kn 4 (gL (g1 kz) [(gc (iR [0] 1 (ky (kW 5)) (gx 1) jK (iP (gn gIx (gc (kF [(gn jo (gf 1) (gc (gn gIx (gf 0) (gc (fC (.int 0)))))),(gn gSub (gf 1) (gc (gn gIx (gf 0) (gc (fC (.int 0))))))])) (gc (gL (g1 CG) [(gc (gn (lh .Lt) (gf 1) (gc (fC (.int 0)))))]))))))]))) gZ)
theorem M8{c:gS}(hc:c.length<=1000){L:jk}(hL:L.length<=1000)(c1 c2 c3:Sl):fbR [rr n ks,c1,c2,c3,lsC L,some (enc c)]=some (.nx [rr n ks,c1,c2,c3,lsC (L++[c.map (sh n)]),some (enc c)]):=by
 refine(gJ (δ1:=[rr n ks,c1,c2,c3,lsC (L++[c.map (sh n)]),some (enc c)]) (qG ((qi (i:=4) (l0:=L.map cD) (l:=L.map cD) (r:=(cD (c.map (sh n)),false)) (δ1:=[rr n ks,c1,c2,c3,lsC L,some (enc c)]) rfl (jC (a:= .lst ((c.map (sh n)).map D.int)) rfl (jE (b:=true) (xG (caps:=[0]) (args:=[rD' n ks]) (sh n) rfl rfl rfl (fun x hx=>⟨false,?_⟩) (by omega))).r) rfl (by rw[je];simp;omega)).trans (by simp[lsC];rfl)))).trans rfl;by_cases h:x<0<;>simp[frz,sh,h,gIx,atI,ixN,je]
theorem Jo(h1:RB n ks)(h2:RB m js):gX [(rD' n ks,false),(rD' m js,false)]=some ((.bl true,false),[rr n ks,rr m js]):=by
 have a1:=h1.2.2;have a2:=h2.2.2
 let δ1:Sl->Sl->Dn:=fun x y=>[rr n ks,rr m js,ii ((n:Int)+m),ii ((ks.length:Int)+js.length),x,y]
 have s1: ∀g:FS,gw (Al 2 3 [(gn jo (gc (gn gIx (gf 0) (gc (fC (.int 0))))) (gc (gn gIx (gf 1) (gc (fC (.int 0)))))),(gn jo (gc (gL (g1 nR) [(gc (gn gIx (gf 0) (gc (fC (.int 1)))))])) (gc (gL (g1 nR) [(gc (gn gIx (gf 1) (gc (fC (.int 1)))))])))]) g [rr n ks,rr m js,none,none,none,none]=g (δ1 none none):=fun g=>gJ (by
  unfold Al;simp only[ic,qw];rw[ll (gE (jO (vp _ _) (ix0 (jV rfl).r).r (ix0 (jV rfl).r).r)) (gE (jO (vp _ _) (jE (jC (Cy _) (jE (ix1 (jV rfl).r)).r)).r (jE (jC (Cy _) (jE (ix1 (jV rfl).r)).r)).r))];rfl)
 have t1:fT (gn (lh .Gt) (gf 2) (gc (fC (.int 5)))) (δ1 none none)=some (decide (5<n+m),δ1 none none):=
  (oM (o:=false) (jO (Jr _ _) (jV rfl).r (jE rfl).r)).trans (by congr 3;exact propext ⟨fun h=>by omega,fun h=>by omega⟩)
 have t2:fT (gn (lh .Gt) (gf 3) (gc (fC (.int 30)))) (δ1 none none)=some (decide (30<ks.length+js.length),δ1 none none):=
  (oM (o:=false) (jO (Jr _ _) (jV rfl).r (jE rfl).r)).trans (by congr 3;exact propext ⟨fun h=>by omega,fun h=>by omega⟩)
 by_cases h:5<n+m\/30<ks.length+js.length
 ·refine kM (δ:=δ1 none none) ⟨rfl,by decide,rfl⟩ ((s1 _).trans (iV ((tf (δ1:=δ1 none none) ?_).trans (iV (jX (jO (r:=(.bl true,false)) (a:= .str "many") (b:= .str "many") ?_ (jE (GU h1 h2 h _)).r (jE rfl).r))))))
  ·by_cases q:5<n+m
   ·exact Nb (t1.trans (by rw[oo q]))
   ·exact(vX (t1.trans (by rw[kx q]))).trans (t2.trans (by rw[oo (by omega)]))
  ·unfold gEq;rw[gq (by simp[D.dep])];simp[D.eqb]
 ·obtain⟨ds,hp,e⟩:=Et h1 h2;have e0:=Ff h1 h2 (by omega) (by omega) e
  obtain⟨_,⟨x5,ps,hps,rfl⟩,ef⟩:=qT (tg:=gx 5) (fb:=fbR) (fun l δ=> ∃x ps,(∃qs,js=ps++qs/\l=qs.map cD)/\δ=δ1 (lsC (jn n ks ps)) x) (fun d l δ ⟨x,ps,⟨qs,hq,hl⟩,h⟩=>by
   subst h
   cases qs with
   |nil=>simp at hl
   |cons c qs=>
    simp only[ic,List.cons.injEq] at hl;obtain⟨rfl,rfl⟩:=hl;have hj:js.length=ps.length+(qs.length+1):=by rw[hq];simp
    have hc:=(h2.2.1 c (by rw[hq];simp)).len;refine⟨_,_,rfl,M8 (by have:=h2.1;omega) (by rw[CB];omega) _ _ _,some (enc c),ps++[c],⟨qs,by rw[hq];simp,rfl⟩,?_⟩;simp[δ1,jn]) (js.map cD) (δ1 (lsC ks) none) ⟨none,[],⟨js,rfl,rfl⟩,by simp[jn]⟩
  obtain⟨qs,hq,hl⟩:=hps;have:qs=[]:=by simpa using hl.symm
  subst this;have:ps=js:=by simpa using hq.symm
  subst this;refine kM (δ:=δ1 (lsC (jn n ks ps)) x5) ⟨rfl,by decide,rfl⟩ ((s1 _).trans ((no _ ((vX (t1.trans (by rw[kx (by omega)]))).trans (t2.trans (by rw[kx (by omega)])))).trans ?_));refine(gJ (δ1:=δ1 (lsC ks) none) (ki (i:=4) (δ1:=δ1 none none) (jC (a:= .tup (ks.map cD)) rfl (jE (ix1 (jV rfl).r)).r) (show 4<6 by decide))).trans ?_;refine(gJ ((qF (ds:=ps.map cD) (δ1:=δ1 (lsC ks) none) ?_).trans ef)).trans (iV (jX (jU2 (rdU (n+m) (ks:=ds) ?_ ?_) (jE (jU2 e0 (jV rfl) (jV rfl))) (jE (b:=false) (vV (a:=(.int ((n+m:Nat):Int),false)) (b:=(.tup (ds.map cD),false)) rfl (jC (a:= .lst (ds.map cD)) rfl (jE (b:=true) (jC e (jR rfl))).r))))))
  ·rw[yZ,ix1 (jV rfl).r];rfl
  ·rw[hp.length_eq,CB];omega
  ·intro c hc;rcases nG.mp (hp.mem_iff.mp hc) with z|z
   ·have:=(h1.2.1 c z).len;have:=h1.1;omega
   ·obtain⟨y,hy,rfl⟩:=oS.mp z;have:=(h2.2.1 y hy).len;have:=h2.1;simp;omega
end
theorem D1{α β:Type}(f:α->β): ∀(l:List α) (k:Nat),(l.map f).eraseIdx k=(l.eraseIdx k).map f
 |[],_=>rfl
 |_::_,0=>rfl
 |x::l,k+1=>by simp[D1 f l k]
theorem Qn{i:Nat}{fo:FO}{δ δ1:Dn}{o:Opd}{L:jk}{k:Int}(h0:δ[i]?=some (lsC L))(h1:fo δ=some (o,δ1))(h2:res δ1 o=some (.int k))(h3:δ1[i]?=some (lsC L))(k0:0<=k)(k1:k<L.length)(hl:L.length<=1000):mv i fo δ=some ((cD (L.getD k.toNat []),false),δ1.set i (lsC (L.eraseIdx k.toNat))):=by
 have hk:k.toNat<L.length:=by omega
 unfold mv;rw[h0];simp only[];rw[h1];simp only[iH];rw[h2,h3];simp only[];rw[gq ⟨by omega,by omega⟩,show ixN (L.map cD).length k=some k.toNat by simp[ixN,k0,k1]];simp only[iH];rw[jd,iu hk];simp[pZ,hk,D1]
def gr(i:Int)(l:jk):List (List Int):=l++l.map (· ++[i])++l.map (· ++[-i])
def L2':List (List Int):=(gr 2 (gr 1 [[]])).tail
def L3':List (List Int):=(gr 3 (gr 2 (gr 1 [[]]))).tail
theorem OH:(∀c∈L2',ClOk 2 c)/\L2'.length=8:=by unfold ClOk;decide+kernel
theorem OG:(∀c∈L3',ClOk 3 c)/\L3'.length=26:=by unfold ClOk;decide+kernel
abbrev sa:FS:=(jc 2 (kF [(jh [])]))
abbrev sb:FS:=(tN (zk (gc (fC (.int 1))) (gc (gn jo (gf 1) (gc (fC (.int 1)))))) (gx 3) (gw (jc 2 (gn jo (gc (gn jo (gf 2) (gc (iR [3] 1 (ky (kW 2)) (gx 1) jK (iP (gn jo (gf 1) (gc (jh [(kW 0)])))))))) (gc (iR [3] 1 (ky (kW 2)) (gx 1) jK (iP (gn jo (gf 1) (gc (jh [(jw oI (gf 0))])))))))) gZ))
abbrev sc:FS:=(jc 4 (iR [] 1 (ky (kW 2)) (gx 0) (fT (gn gNe (gf 0) (gc (jh [])))) (iP (kW 0))))
theorem Ot(x:Sl):gw sa (gw sb sc) [x,ii 2,none,none,none,none]=some (.nx [x,ii 2,some (.lst ((gr 2 (gr 1 [[]])).map cD),false),ii 2,lsC L2',none]):=by kernel_rfl
theorem Oq(x:Sl):gw sa (gw sb sc) [x,ii 3,none,none,none,none]=some (.nx [x,ii 3,some (.lst ((gr 3 (gr 2 (gr 1 [[]]))).map cD),false),ii 3,lsC L3',none]):=by kernel_rfl
theorem Pq{f g h k:FS}{δ δ1:Dn}(e:gw f (gw g h) δ=some (.nx δ1)):gw f (gw g (gw h k)) δ=k δ1:=by
 rw[yY] at e ⊢
 cases h1:f δ with
 |none=>rw[h1] at e;cases e
 |some o=>
  rw[h1] at e;simp only[iH] at e ⊢
  cases o with
  |nx δ2=>
   rw[G2,yY] at e ⊢
   cases h2:g δ2 with
   |none=>rw[h2] at e;cases e
   |some o=>
    rw[h2] at e;simp only[iH] at e ⊢
    cases o with
    |nx δ3=>rw[G2] at e ⊢;exact gJ e
    |_=>cases e
  |_=>cases e
abbrev fbP:FS:=(gw (mn (mv 4 (gc (gD gu [(gf 0),(gc (gL (g1 nR) [(gf 4)]))])))) gZ)
theorem Ko(a:Int)(b:Bool){n:Nat}(hn:n=2\/n=3): ∃a' ks,RB n ks/\oN [(.lst [.int a,.bl b],true),(.int n,false)]=some ((rD' n ks,false),[stt a' b,ii n]):=by
 obtain⟨L,X,hL,bt,u9,e0⟩: ∃(L:jk) (X:Sl),(∀c∈L,ClOk n c)/\6<L.length/\L.length<=26/\gw sa (gw sb sc) [stt a b,ii n,none,none,none,none]=some (.nx [stt a b,ii n,X,ii n,lsC L,none]):=by
  rcases hn with rfl|rfl
  ·exact⟨L2',_,OH.1,by rw[OH.2];decide,by rw[OH.2];decide,Ot _⟩
  ·exact⟨L3',_,OG.1,by rw[OG.2];decide,by rw[OG.2];decide,Oq _⟩
 obtain⟨q,a1,q0,q1,e1⟩:=kg a b 6 (by omega) (by omega);obtain⟨qn,rfl⟩: ∃qn:Nat,q=qn:=⟨q.toNat,by omega⟩
 obtain⟨_,⟨a2,M,x,hM,_,hm,rfl⟩,ef⟩:=qT (tg:=gx 5) (fb:=fbP) (fun ds δ=> ∃(a:Int) (L:jk) (x:Sl),(∀c∈L,ClOk n c)/\ds.length<L.length/\L.length<=26/\δ=[stt a b,ii n,X,ii n,lsC L,x]) (fun d ds δ ⟨a,L,x,h1,h2,h3,h⟩=>by
  subst h;simp only[lX] at h2;obtain⟨k,a',k0,k1,e⟩:=kg a b (L.length:Int) (by omega) (by omega);have hk:k.toNat<L.length:=by omega
  refine⟨_,[stt a' b,ii n,X,ii n,lsC (L.eraseIdx k.toNat),some (d,false)],rfl,(gJ (qG (Qn (i:=4) (L:=L) (k:=k) (o:= .val (.int k,false)) (δ1:=[stt a' b,ii n,X,ii n,lsC L,some (d,false)]) rfl (gE (e _ [ii n,X,ii n,lsC L,some (d,false)] (.val (.int L.length,false)) (gE (jC (by rw[LN,jF]) (jR rfl))) rfl)) rfl rfl k0 k1 (by omega)))).trans rfl,a',L.eraseIdx k.toNat,some (d,false),fun c hc=>h1 c (Fn hc),?_,?_,rfl⟩
  ·rw[Fm hk];omega
  ·rw[Fm hk];omega) (ip 0 qn) [stt a1 b,ii n,X,ii n,lsC L,none] ⟨a1,L,none,hL,by simp[ip];omega,u9,rfl⟩
 obtain⟨ks,hp,hs,e8⟩:=ud (cs:=M) (pj _ fun c hc=>(hM c hc).1) (by omega);refine⟨a2,ks.take 30,⟨by omega,fun c hc=>hM c (hp.mem_iff.mp (lK hc)),by rw[pN];omega⟩,?_⟩;refine kM (δ:=[stt a2 b,ii n,X,ii n,lsC M,x]) ⟨rfl,by decide,rfl⟩ ((Pq e0).trans ?_);refine(gJ ((qF (uj (o:= .val (.int qn,false)) (δ1:=[stt a1 b,ii n,X,ii n,lsC L,none]) (gE (e1 _ [ii n,X,ii n,lsC L,none] (.val (.int 6,false)) rfl rfl)) rfl (by omega))).trans ef)).trans ?_;refine iV (jX (vV (a:=(.int n,false)) (b:=(.tup ((ks.take 30).map cD),false)) rfl (jC (a:= .lst ((ks.take 30).map cD)) rfl (jE (b:=true) ?_).r)));have e9:mK (.lst (M.map cD))=some (.lst (ks.map cD),true):=e8;unfold vW;rw[gE (jC e9 (jR rfl))];simp only[iH,GZ,NW,GY];rw[show gSl none (some 30) (.lst (ks.map cD))=some (.lst (PX.zu (ks.map cD) none (some ((30:Nat):Int))),true) from rfl,IH,List.map_take];rfl
theorem RB.of{n:Nat}{ks:jk}(h:OF n ks):RB n ks:=⟨h.1,h.2.1.2,h.2.2.2⟩
theorem AX(a:Int)(b:Bool): ∃a' n ks,RB n ks/\jq [(.lst [.int a,.bl b],true)]=some ((rD' n ks,false),[stt a' b]):=by
 obtain⟨v,a1,v0,v1,e1⟩:=kg a b 3 (by omega) (by omega)
 have t1:fT (gn gEq (gc (gD gu [(gf 0),(gc (fC (.int 3)))])) (gc (fC (.int 0)))) [stt a b]=some (decide (v=0),[stt a1 b]):=
  oM (o:=false) (jB (o1:= .val (.int v,false)) (o2:= .val (.int 0,false)) (δ1:=[stt a1 b]) (gE (e1 _ [] (.val (.int 3,false)) rfl rfl)) rfl rfl rfl ((G3 _ _).trans (by rw[zD])))
 by_cases hv:v=0
 ·obtain⟨w,a2,w0,w1,e2⟩:=kg a1 b 2 (by omega) (by omega);obtain⟨n,hn⟩: ∃n:Nat,(2:Int)+w=n:=⟨(2+w).toNat,by omega⟩
  obtain⟨a3,ks,hr,e3⟩:=Ko a2 b (n:=n) (by omega);refine⟨a3,n,ks,hr,kM (δ:=[stt a3 b]) ⟨rfl,by decide,rfl⟩ (iV ((tf (t1.trans (by rw[oo hv]))).trans (iV (jX ?_))))⟩;exact ke (δ1:=[stt a2 b]) (os:=[.slot 0,.val (.int n,false)]) (args:=[(.lst [.int a2,.bl b],true),(.int n,false)]) (ll rfl (gE (jB (o1:= .val (.int 2,false)) (o2:= .val (.int w,false)) (δ1:=[stt a1 b]) rfl (gE (e2 _ [] (.val (.int 2,false)) rfl rfl)) rfl rfl ((vp _ _).trans (by rw[hn]))))) rfl (show([0]:List Nat).Nodup by decide) e3
 ·obtain⟨p,a2,p0,p1,e2⟩:=kg a1 b 6 (by omega) (by omega);obtain⟨r,a3,r0,r1,e3⟩:=kg a2 b 4 (by omega) (by omega);obtain⟨w,a4,w0,w1,e4⟩:=kg a3 b 2 (by omega) (by omega);obtain⟨n,hn⟩: ∃n:Nat,(if w=0 then p else r)=n:=⟨(if w=0 then p else r).toNat,by split<;>omega⟩
  obtain⟨a5,ks,hr,e5⟩:=Cc a4 b n (by split at hn<;>omega);refine⟨a5,n,ks,RB.of hr,kM (δ:=[stt a5 b]) ⟨rfl,by decide,rfl⟩ ((gJ ((vh (t1.trans (by rw[kx hv]))).trans rfl)).trans (iV (jX ?_)))⟩
  have g1:iN (([(gD gu [(gf 0),(gc (fC (.int 6)))]),(gD gu [(gf 0),(gc (fC (.int 4)))])]:List F).map gc) [stt a1 b]=some ([.val (.int p,false),.val (.int r,false)],[stt a3 b]):=
   ll (gE (e2 _ [] (.val (.int 6,false)) rfl rfl)) (gE (e3 _ [] (.val (.int 4,false)) rfl rfl))
  refine ke (δ1:=[stt a4 b]) (os:=[.slot 0,.val (.int n,false)]) (args:=[(.lst [.int a4,.bl b],true),(.int n,false)]) (ll rfl (gE (jB (o1:= .val (.lst [.int p,.int r],true)) (o2:= .val (.int w,false)) (δ1:=[stt a3 b]) (gE (DY (os:=[.val (.int p,false),.val (.int r,false)]) g1 rfl (by rw[je];simp))) (gE (e4 _ [] (.val (.int 2,false)) rfl rfl)) rfl rfl ?_))) rfl (show([0]:List Nat).Nodup by decide) e5;rw[<-hn];rcases(show w=0\/w=1 by omega) with rfl|rfl<;>rfl
theorem rb0:RB 0 []:=⟨by decide,by simp,by simp⟩
theorem fj0(δ:Dn):FJ (gc (jh [(fC (.int 0)),(jh [])])) δ (rD' 0 []):=jE (b:=false) (vV (a:=(.int 0,false)) (b:=(.tup [],false)) rfl (by simp))
theorem yes{n m:Nat}{ks js:jk}(h1:RB n ks)(h2:RB m js){fa fb:FO}{δ:Dn}(ha:FJ fa δ (rD' n ks))(hb:FJ fb δ (rD' m js)):mw (fT (gD gX [fa,fb])) δ=some (false,δ):=Ir (oM (jU2 (Jo h1 h2) ha hb))
abbrev Lb:FS:=(gw (jc 2 (gD kr [(gf 0),(gf 1)])) (gw (Al 3 4 [(gD jq [(gf 2)]),(gD jq [(gf 2)])]) (gw (sIf (qh (mw (fT (gD gX [(gf 3),(gf 4)]))) (qh (mw (fT (gD gX [(gf 4),(gf 3)]))) (mw (fT (gD gX [(gf 3),(gc (jh [(fC (.int 0)),(jh [])]))]))))) (gw (kd (fC (.bl false))) gZ) gZ) gZ)))
theorem Iq(ns:gS)(k:Nat)(c2 c3 c4:Sl): ∃d2 d3 d4,Lb [some (.lst (ns.map .int),false),ii k,c2,c3,c4]=some (.nx [some (.lst (ns.map .int),false),ii k,d2,d3,d4]):=by
 let z0:Sl:=some (.lst (ns.map .int),false)
 obtain⟨a,b,e0⟩:=GB ns k;obtain⟨a1,n,ks,h1,e1⟩:=AX a b;obtain⟨a2,m,js,h2,e2⟩:=AX a1 b;refine⟨stt a2 b,rr n ks,rr m js,?_⟩;refine(gJ (δ1:=[z0,ii k,stt a b,c3,c4]) (ki (i:=2) (δ1:=[z0,ii k,c2,c3,c4]) (jU2 e0 (jV rfl) (jV rfl)) (show 2<5 by decide))).trans ?_;have d1:gD jq [(gf 2)] [z0,ii k,stt a b,c3,c4]=some ((rD' n ks,false),[z0,ii k,stt a1 b,c3,c4]):=ke (δ1:=[z0,ii k,stt a b,c3,c4]) (os:=[.slot 2]) (args:=[(.lst [.int a,.bl b],true)]) (zr rfl) rfl (show([2]:List Nat).Nodup by decide) e1;have d2:gD jq [(gf 2)] [z0,ii k,stt a1 b,c3,c4]=some ((rD' m js,false),[z0,ii k,stt a2 b,c3,c4]):=ke (δ1:=[z0,ii k,stt a1 b,c3,c4]) (os:=[.slot 2]) (args:=[(.lst [.int a1,.bl b],true)]) (zr rfl) rfl (show([2]:List Nat).Nodup by decide) e2;refine(gJ (δ1:=[z0,ii k,stt a2 b,rr n ks,rr m js]) ?_).trans ?_
 ·unfold Al;simp only[ic,qw];rw[ll (gE d1) (gE d2)];rfl
 exact(no (δ:=[z0,ii k,stt a2 b,rr n ks,rr m js]) _ ((vX (yes h1 h2 (jV rfl) (jV rfl))).trans ((vX (yes h2 h1 (jV rfl) (jV rfl))).trans (yes h1 rb0 (jV rfl) (fj0 _))))).trans rfl
theorem Nw(ns:gS)(hl:ns.length<=63): ∃o outs,pX [(.lst (ns.map .int),false)]=some ((.bl true,o),outs):=by
 let z0:Sl:=some (.lst (ns.map .int),false)
 let N:Nat:=if 1<min ns.length 6 then min ns.length 6 else 1
 obtain⟨_,⟨d1,d2,d3,d4,_,rfl⟩,e⟩:=qT (tg:=gx 1) (fb:=Lb) (fun ds δ=> ∃d1 d2 d3 d4,(∀d∈ds,∃k:Nat,d= .int k)/\δ=[z0,d1,d2,d3,d4]) (fun d ds δ ⟨d1,d2,d3,d4,h1,h⟩=>by
  subst h;obtain⟨k,rfl⟩:=h1 d jg;obtain⟨g2,g3,g4,e⟩:=Iq ns k d2 d3 d4
  exact⟨_,_,rfl,e,_,_,_,_,fun x hx=>h1 x (jf _ hx),rfl⟩) (ip 0 N) [z0,none,none,none,none] ⟨none,none,none,none,fun d hd=>by
   obtain⟨k,_,rfl⟩:=oS.mp hd;exact⟨k,by simp⟩,rfl⟩
 refine⟨false,_,kM (δ:=[z0,d1,d2,d3,d4]) ⟨rfl,by decide,rfl⟩ ?_⟩;have c1: ∀(δ:Dn) (i:Int),jh [(jh [(fC (.int i))])] δ=some ((.tup [cD [i]],false),δ):=fun δ i=>by simp[je]
 have r1:RB 1 [[1]]:=⟨by decide,by unfold ClOk;decide+kernel,by decide⟩
 have r2:RB 1 [[-1]]:=⟨by decide,by unfold ClOk;decide+kernel,by decide⟩
 have f1: ∀δ:Dn,FJ (gc (jh [(fC (.int 1)),(jh [(jh [(fC (.int 1))])])])) δ (rD' 1 [[1]]):=fun δ=>jE (b:=false) (by simp[je]);have f2: ∀δ:Dn,FJ (gc (jh [(fC (.int 1)),(jh [(jh [(jw oI (gc (fC (.int 1))))])])])) δ (rD' 1 [[-1]]):=fun δ=>jE (b:=false) (by simp[je]);refine(no (δ:=[z0,none,none,none,none]) _ ((vX (yes rb0 rb0 (fj0 _) (fj0 _))).trans (yes r1 r2 (f1 _) (f2 _)))).trans ?_;refine(gJ ((qF (ds:=ip 0 N) (δ1:=[z0,none,none,none,none]) ?_).trans e)).trans (iV rfl);refine uj (o:= .val (.int N,false)) (gE ?_) rfl (by simp only[N];split<;>omega)
 have hN:(N:Int)=if(if(6:Int)<ns.length then 6 else(ns.length:Int))>1 then(if(6:Int)<ns.length then 6 else(ns.length:Int)) else 1:=by
  simp only[N];split<;>split<;>split<;>omega
 rw[hN];simp[z0]
end PV
theorem K82.main(ns:gS)(hl:ns.length<=63): ∃o outs,PV.pX [(.lst (ns.map .int),false)]=some ((.bl true,o),outs):=PV.Nw ns hl
namespace PySem.W.Fast
def tw12925533289862172672:=()
def tw15293136271443099004:=()
def tw9328780224119396267:=()
def tw1920750636438049392:=()
def tw15613787279780079105:=()
def tw12951832727033163110:=()
def tw18377313106298859796:=()
def tw6395220662864779511:=()
def tw9395817936511941878:=()
def tw10392853054571852895:=()
def tw1695352709943393574:=()
def tw12784068225696041010:=()
def tw11349554553855894168:=()
def tw18190957597038943406:=()
def tw6161989916487577218:=()
def tw1564153882913371443:=()
def tw6550889329766307900:=()
def tw874922778814449809:=()
def tw1577896743557014256:=()
def tw9326602779124863007:=()
def tw12917034208556503281:=()
def tw11638575014173710044:=()
def tw16265616033844464061:=()
def tw2260808413076018924:=()
def tw17565418648842451364:=()
def tw10537344531402212643:=()
def tw514994829838098890:=()
def tw7469565010707965169:=()
def tw7833805643705344948:=()
def tw12825663535210781996:=()
def tw777077745637033487:=()
def tw17232282732689030491:=()
def tw2463378738729519256:=()
def tw11577975534711889040:=()
def tw7049007762398064983:=()
def tw1441320946432747922:=()
def tw1602027540954022065:=()
def tw11247550767679300326:=()
def tw14146740393539795217:=()
def tw12810622856256804925:=()
def tw509599448949365347:=()
def tw9967402403148086176:=()
def tw1221499686285553992:=()
def tw11370418225710443582:=()
def tw3849515380679646174:=()
def tw5254958653476910278:=()
def tw5561185004530620029:=()
def tw9776193214294146745:=()
def tw1976122341723403026:=()
def tw8640785736745482723:=()
def tw17115650553862625270:=()
def tw15918608837580938237:=()
def tw9571724897235292928:=()
def tw12583733210606756073:=()
def tw13947972660323992523:=()
def tw791459004515866608:=()
def tw129464251368154231:=()
def tw4065123692843406583:=()
def tw6310352805497289233:=()
def tw7986877111848181496:=()
def tw18044883805361027296:=()
def tw1867771213182009027:=()
def tw10796322415095449416:=()
def tw15887710869353187341:=()
def tw1955036566763041937:=()
def tw9334349091438581027:=()
def tw10921247176489637115:=()
end PySem.W.Fast
open PySem PySem.W PyProof.Rows PX
set_option maxRecDepth 100000 in
set_option maxHeartbeats 0 in
theorem PySem.Challenge.cw_twinriddles_k82_riddles_beside_holds : PySem.Challenge.rw_twinriddles_k82_riddles_beside.Holds := by
  w_on; o_law; k_head; (case hw => w_witness2)
  k_fill
  refine walkT (TB := K82.TB82) (l := PySem.Challenge.rw_twinriddles_k82_riddles_beside) (LV := 12) (x := "_law_script") ⟨rfl, by decide, by decide⟩ rfl rfl (fun w h Y => PySem.W.km_in_of Y) (fun w h Y => aC (PySem.W.km_tabs_of Y _ List.mem_cons_self) aN) (fun w => aC ?K aN) (by decide) ?F K82.main
  case K => show List.lookup 245 _ = none; kernel_rfl
  case F =>
   intro w mg fa h KX G hmg
   refine' K82.all_mk hmg (txK KX G ?_ ?_ ?_ ?_ ?_ ?_ ?_ ?_ ?_ ?_ ?_ ?_ ?_ ?_ ?_ ?_) (fz KX G ?_ ?_ ?_ ?_) (fz KX G ?_ ?_ ?_ ?_) (fz KX G ?_ ?_ ?_ ?_) (fz KX G ?_ ?_ ?_ ?_) (fz KX G ?_ ?_ ?_ ?_) (fz KX G ?_ ?_ ?_ ?_) (fz KX G ?_ ?_ ?_ ?_) (fz KX G ?_ ?_ ?_ ?_) (fz KX G ?_ ?_ ?_ ?_) (fz KX G ?_ ?_ ?_ ?_) (fz KX G ?_ ?_ ?_ ?_) (fz KX G ?_ ?_ ?_ ?_) (fz KX G ?_ ?_ ?_ ?_) (fz KX G ?_ ?_ ?_ ?_) (fz KX G ?_ ?_ ?_ ?_) (fzT KX G ?_ ?_ ?_ ?_ ?_) (fz KX G ?_ ?_ ?_ ?_) ⟨(aC (PySem.W.mg_of KX G ?_) (aC (PySem.W.mg_of KX G ?_) (aC (PySem.W.mg_of KX G ?_) (aC (PySem.W.mg_of KX G ?_) (aC (PySem.W.mg_of KX G ?_) (aC (PySem.W.mg_of KX G ?_) (aC (PySem.W.mg_of KX G ?_) (aC (PySem.W.mg_of KX G ?_) (aC (PySem.W.mg_of KX G ?_) (aC (PySem.W.mg_of KX G ?_) aN)))))))))), (aC (PySem.W.mg_of KX G ?_) aN), (aC (aC (show PySem.W.kitOne _ (.ref 121) (.ref 37) = some false from ?_) (aC (show PySem.W.kitOne _ (.ref 121) (.ref 49) = some false from ?_) (aC (show PySem.W.kitOne _ (.ref 121) (.ref 61) = some false from ?_) (aC (show PySem.W.kitOne _ (.ref 121) (.ref 73) = some false from ?_) (aC (show PySem.W.kitOne _ (.ref 121) (.ref 85) = some false from ?_) (aC (show PySem.W.kitOne _ (.ref 121) (.ref 97) = some false from ?_) (aC (show PySem.W.kitOne _ (.ref 121) (.ref 109) = some false from ?_) (aC (show PySem.W.kitOne _ (.ref 121) (.ref 121) = some true from ?_) (aC (show PySem.W.kitOne _ (.ref 121) (.ref 133) = some false from ?_) (aC (show PySem.W.kitOne _ (.ref 121) (.ref 145) = some false from ?_) aN)))))))))) aN), (aC (show PySem.W.kitOne _ (.ref 121) (.type "ValueError") = some true from ?_) aN), (aC (show ClK _ 121 24 from ⟨⟨?_, ?_, ?_, ?_, ?_, ?_, ?_, ?_⟩, (aC ?_ (aC ?_ (aC ?_ (aC ?_ (aC ?_ (aC ?_ aN)))))), ?_⟩) aN), (aC (show PySem.W.excIn _ 121 _ _ = true from ?_) aN), PySem.W.mg_none_of KX G ?_, PySem.W.mg_none_of KX G ?_, PySem.W.mg_of KX G ?_⟩ (mgI KX G ?_) (mgI KX G ?_) <;> try first | k_is | kernel_rfl
