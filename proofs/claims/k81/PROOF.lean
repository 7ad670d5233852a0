import PyProof.Rows.All
import Wide.All
import OpenK.AllK
import Wide.FinOn
import PyProof.EqAt
import PyProof.EqKinds
import PyProof.TupleCall
import Lean
import PySem.Challenge.RW_twinriddles_k81_crowds
set_option Elab.async false
set_option linter.all false
set_option maxRecDepth 100000
set_option maxHeartbeats 8000000
noncomputable section
section
open PySem PySem.Spec PyProof.Rows
abbrev gw:=Value->Shared->Prop
abbrev gq:=List (Addr×Obj)
abbrev fX:=PySem.W.Frag
abbrev nQ:=List Int
abbrev gJ:=List Value
abbrev iF:=Str->Option Value
abbrev gx:=List Nat
abbrev jD:=Nat->Nat->Bool
abbrev iQ:=Array Nat
abbrev jR:=Array Value
abbrev gf:=List Str
abbrev gX:=List Expr
abbrev zq:=Option Value->Shared->Prop
abbrev pe:=Value->Value->Sem Value
abbrev mf:=Array (Option Value)
abbrev iw:=List (Str×Addr)
abbrev md:=List Comprehension
abbrev ku:=Array Keyed
abbrev kr:=Nat->Keyed
abbrev sh:=Option Nat->SortSt->Prop
abbrev gG:=Nat->Prop
abbrev ic:=List Addr
abbrev fQ:=Shared
abbrev gi:=Program
abbrev gc:=Around
abbrev gd:=World
abbrev gK:=SortSt
abbrev fW:=Value
abbrev kY:=Comprehension
abbrev jq:=FuncData
abbrev gF:=Scope
abbrev fV:=Expr
abbrev fZ:=Heap
abbrev fM:=Addr
end
section
open PySem PySem.Spec PyProof.Rows PySem.SeqAt
def fU:=@wpAny_bind
theorem gh:type_of% @if_pos:=@if_pos
theorem gk:type_of% @if_neg:=@if_neg
def gv:=@wpAny_pure
def gO:=@Nat.le_refl
def gZ:=@Heap.lt_size
def hW:=@Heap.get?_push_of_some
theorem iA:type_of% @List.size_toArray:=@List.size_toArray
def iG:=@Option.some.inj
theorem iL:type_of% @if_false:=@if_false
theorem gQ:type_of% @if_true:=@if_true
def gW:=@List.getElem?_eq_getElem
theorem hG:type_of% @Bool.false_eq_true:=@Bool.false_eq_true
theorem jC:type_of% @List.mem_cons:=@List.mem_cons
def ig:=@Nat.ne_of_lt
theorem iO:type_of% @List.mem_cons_of_mem:=@List.mem_cons_of_mem
theorem iN:type_of% @List.getElem?_map:=@List.getElem?_map
theorem iM:type_of% @Option.bind_some:=@Option.bind_some
def iY:=@Heap.get?_push_size
def kW:=@List.pairwise_append
def pS:=@List.mem_append
def pR:=@List.getElem?_eq_some_iff
def jb:=@Bool.false_ne_true
theorem ja:type_of% @List.append_assoc:=@List.append_assoc
def jm:=@List.mem_cons_self
def js:=@wpAny_field
def jr:=@List.getElem_mem
def jA:=@PySem.strLen_append
theorem jF:type_of% @List.not_mem_nil:=@List.not_mem_nil
def jJ:=@List.getElem?_set_self
def ma:=@List.mem_singleton
def jI:=@List.mem_of_mem_drop
def jS:=@Nat.lt_of_lt_of_le
theorem kg:type_of% @List.lookup_cons:=@List.lookup_cons
def kf:=@List.take_append_drop
def ke:=@PySem.W.mg_none_of
def kz:=@List.getElem?_set_ne
def ky:=@wpAny_mono
def kx:=@Nat.ne_of_gt
theorem kv:type_of% @Bool.and_eq_true:=@Bool.and_eq_true
def kH:=@List.mem_of_mem_take
def ll:=@Ne.symm
def lj:=@List.mem_append_right
def lh:=@PySem.mem_of_lookup
def lg:=@List.take_sublist
theorem kZ:type_of% @List.drop_drop:=@List.drop_drop
def lT:=@Nat.le_trans
def lS:=@congrArg
theorem lR:type_of% @or_false:=@or_false
def lQ:=@List.drop_sublist
def mn:=@Nat.lt_irrefl
def mm:=@wpAny_truthy_bool
theorem ml:type_of% @sizeLine_eq:=@sizeLine_eq
def mh:=@wpAny_setField_rec
def nA:=@wpAny_holding
def ny:=@wpAny_newObj_type
theorem nv:type_of% @List.length_map:=@List.length_map
theorem nu:type_of% @List.length_set:=@List.length_set
theorem nk:type_of% @List.map_cons:=@List.map_cons
def pY:=@List.pairwise_cons
theorem nY:type_of% @List.getElem?_replicate:=@List.getElem?_replicate
def nX:=@wpAny_call_entry
def nW:=@eq_of_beq
def nV:=@Heap.size_push
def nU:=@Prod.mk.inj
def nS:=@PySem.W.kia_one
def nR:=@PySem.W.kia_tup
def pD:=@wpAny_rule
def pB:=@List.append_nil
def pA:=@codeAny_mono
theorem pz:type_of% @List.length_append:=@List.length_append
def pv:=@wpAny_callSpecial?_slot
theorem pq:type_of% @List.length_cons:=@List.length_cons
theorem vI:type_of% @List.all_eq_true:=@List.all_eq_true
def pk:=@wpAny_seqItems
def pj:=@List.Perm.append_left
def ph:=@Nat.min_eq_left
def qt:=@Nat.le_of_lt
def qr:=@wpAny_Call_Name_kw
theorem qp:type_of% @List.length_take:=@List.length_take
def qo:=@List.mem_of_getElem?
def qm:=@decide_eq_true
def qk:=@Nat.zero_le
def qj:=@List.drop_eq_getElem_cons
def qi:=@wpAny_attempt
theorem qh:type_of% @List.take_take:=@List.take_take
def sJ:=@decide_eq_false
theorem sH:type_of% @Array.length_toList:=@Array.length_toList
def sG:=@wpAny_standAt
def FQ:=@Option.isSome_iff_exists
def xy:=@PyProof.Rows.slot_tuple_getitem
def FP:=@Nat.not_lt
def sD:=@wpAny_onRaise
theorem sA:type_of% @Bool.not_true:=@Bool.not_true
def sy:=@List.Perm.append_right
theorem sx:type_of% @Bool.not_eq_true':=@Bool.not_eq_true'
theorem sv:type_of% @List.extract_toArray:=@List.extract_toArray
theorem sm:type_of% @List.extract_eq_take_drop:=@List.extract_eq_take_drop
def sj:=@List.take_of_length_le
theorem si:type_of% @List.nodup_nil:=@List.nodup_nil
def D6:=@List.mem_map
def qF:=@IsTup.new
def qE:=@PyProof.Rows.callWith_type1
def qD:=@wpAny_passesOwn
def B6:=@List.nodup_cons
theorem qC:type_of% @List.forIn_cons:=@List.forIn_cons
theorem qB:type_of% @bne_self_eq_false:=@bne_self_eq_false
def qA:=@List.getElem?_set
def qz:=@List.drop_eq_nil_of_le
def qy:=@List.ext_getElem?
def qx:=@Nat.le_succ
def FW:=@Array.perm_iff_toList_perm
def qw:=@List.Perm.refl
def qv:=@List.getElem_of_mem
def FV:=@beq_iff_eq
def qu:=@joinParts_cons
def uB:=@List.filterMap_cons
def uA:=@Array.append_assoc
def uz:=@Calls.Constant_str
def uy:=@wpAny_execs_nil
def ux:=@boot_range
def uw:=@wpAny_call
def uv:=@List.of_mem_zip
def uu:=@PySem.W.cellsFrom_some
def ur:=@concat_meets
def uq:=@wpAny_typeOf
def uo:=@codeAny_builtin
theorem um:type_of% @List.getElem?_eq_none:=@List.getElem?_eq_none
def uk:=@F.slot_tuple_iterator_next
def uj:=@wpAny_letGo
def ui:=@F.slot_enumerate_next
def uh:=@F.slot_zip_next
def ug:=@Nat.lt_succ_self
def uf:=@Nat.lt_or_ge
def ue:=@List.perm_append_comm
def AE:=@List.pairwise_iff_getElem
def ud:=@List.Perm.of_eq
def uc:=@List.drop_zero
def ub:=@Nat.lt_of_le_of_lt
def ua:=@AutoSeq1.sub_tuple_tuple
def tY:=@wpAny_forIn_list
def tX:=@richCompare_meets_room
def yn:=@assignInOrder_cons
def ym:=@wpAny_bindName
def yk:=@wpAny_pyIter_list
def Ib:=@List.mem_filterMap
def yj:=@Calls.spliced_nil
def yi:=@Calls.spliced_cons
def yh:=@List.getElem?_append_right
def yg:=@List.getElem?_append_left
def yf:=@noFill_tuple_add
def ye:=@seq_tuple_add
def yd:=@PySem.F.slot_tuple_add
def yc:=@PySem.F.entry_tuple_add
def yb:=@PySem.F.args_tuple_add_2
def ya:=@seqIndex_of
def xZ:=@seqIndex_neg
def xY:=@Nat.lt_asymm
def xX:=@codeAny_of_tree
def xS:=@wpAny_of_eq
def xR:=@List.getElem?_zipIdx
def xQ:=@Around.under_plainId
def D5:=@F.called_tuple
def xP:=@wpAny_newTuple
def xN:=@wpAny_updateSeq_pair
def xM:=@List.pairwise_singleton
def xK:=@List.take_succ
def xJ:=@List.singleton_append
def xH:=@List.drop_left
def xG:=@listUpdate_at
def xF:=@get?_update_seq
def xD:=@seqEpoch_at
def FU:=@beq_eq_false_iff_ne
def BZ:=@List.mem_append_left
def BY:=@wpAny_storeName_local
def BX:=@Calls.Name_function_global
def BW:=@Int.fdiv_eq_ediv_of_nonneg
def BV:=@Around.frames_deeper
def BU:=@List.length_replicate
def BR:=@codeAny_call_function
def BQ:=@wpAny_newFunctionEnv_cells
def BP:=@entry_tuple_getitem
def BO:=@subscriptTail_builtinR
def BN:=@Heap.get?_update_self
def BM:=@Heap.get?_update_other
def BL:=@Calls.evalArgs_plain
def BK:=@F.entry_list_append
def BJ:=@F.args_list_append_2
def BI:=@List.length_singleton
def BH:=@wpAny_comprehension_free
def BG:=@PySem.F.plainAttrs_list
def FR:=@List.getElem?_zip_eq_some
def BF:=@F.args_object_init_2
def BE:=@F.entry_tuple_iterator_next
def BD:=@F.args_tuple_iterator_next_1
def BC:=@Heap.SameBut.update
def Bz:=@F.entry_enumerate_next
def By:=@F.args_enumerate_next_1
def Bx:=@PySem.W.kas_swaps_map
def Bw:=@List.take_set_of_le
def Bv:=@List.drop_set_of_lt
def Bu:=@List.take_succ_cons
def Bt:=@Array.getElem?_eq_getElem
def Bs:=@Heap.get?_update_ne
def Br:=@Array.toList_append
def Ih:=@PySem.F.attr_TypeError
def Bp:=@codeAny_call_builtin
def Bo:=@FormattedValue_plain
def Bn:=@formatField_int_small
end
namespace TT
open PySem
noncomputable def adv(mask:Nat)(p:SetTable.Probe):SetTable.Probe:=
 if p.more>0 then {p with j:=p.j+1,more:=p.more-1} else
 {p with j:=(SetTable.leap mask p.i p.perturb).1,more:=SetTable.runEnd mask (SetTable.leap mask p.i p.perturb).1-(SetTable.leap mask p.i p.perturb).1,i:=(SetTable.leap mask p.i p.perturb).1,perturb:=(SetTable.leap mask p.i p.perturb).2}
noncomputable def stt(mask:Nat)(h:Int):SetTable.Probe:={j:=SetTable.bits h%(mask+1),more:=SetTable.runEnd mask (SetTable.bits h%(mask+1))-SetTable.bits h%(mask+1),i:=SetTable.bits h%(mask+1),perturb:=SetTable.bits h,dummy:=none}
noncomputable def pr(mask:Nat)(h:Int):Nat->SetTable.Probe
 |0=>stt mask h
 |n+1=>adv mask (pr mask h n)
structure TabOk(hs:nQ)(t:SetTable):Prop where
 pow: ∃k,3<=k/\k<=11/\t.mask+1=2^k
 dum:t.dummies= #[]
 len:t.place.size=hs.length
 room:5*hs.length<3*t.mask
 ris:t.place.toList.Pairwise (· < ·)
 bd: ∀j∈t.place.toList,j<=t.mask
 road: ∀(i:Nat) (h:Int) (j:Nat),hs[i]?=some h->t.place[i]?=some j-> ∃n,(pr t.mask h n).j=j/\ ∀m,m<n->(pr t.mask h m).j∈t.place.toList
end TT
namespace L2
open PySem PySem.Spec PyProof.Rows
abbrev Key:=Sum Int Str
noncomputable def Ga:Key->Value->Bool
 | .inl k,v=>Value.isInt k v
 | .inr x,v=>Value.isStrOf x v
noncomputable def KP(w:gd):Key->Int
 | .inl k=>hashInt k
 | .inr x=>hashStr w x
theorem iz: ∀{k:Key} {v:fW},Ga k v=true->(∃i t,k=Sum.inl i/\v=Value.int i t)\/(∃x t,k=Sum.inr x/\v=Value.str x t)
 | .inl i,v,h=>by
  obtain⟨t,e⟩:=Value.isInt_shape (k:=i) (v:=v) h;exact .inl ⟨i,t,rfl,e⟩
 | .inr x,v,h=>by
  obtain⟨t,e⟩:=Value.isStrOf_shape (x:=x) (v:=v) h;exact .inr ⟨x,t,rfl,e⟩
theorem HE(a b:Int):decide ((Sum.inl a:Key)=Sum.inl b)=(a==b):=by
 by_cases e:a=b
 ·subst e;simp
 ·have h: ¬(Sum.inl a:Key)=Sum.inl b:=fun q=>e (Sum.inl.inj q);rw[sJ h];exact(FU.mpr e).symm
theorem HB(a b:Str):decide ((Sum.inr a:Key)=Sum.inr b)=decide (a=b):=by
 by_cases e:a=b
 ·subst e;simp
 ·have h: ¬(Sum.inr a:Key)=Sum.inr b:=fun q=>e (Sum.inr.inj q);rw[sJ h,sJ e]
theorem HD(a:Int)(b:Str):decide ((Sum.inl a:Key)=Sum.inr b)=false:=sJ (fun q=>nomatch q)
theorem HC(a:Str)(b:Int):decide ((Sum.inr a:Key)=Sum.inl b)=false:=sJ (fun q=>nomatch q)
noncomputable def Af(prog:gi)(w:gd):PySem.KeyKind prog w Key where
 is:=Ga
 hash:=KP w
 inj:=fun v a b ha hb=>by
  rcases iz ha with⟨i,t,rfl,rfl⟩|⟨x,t,rfl,rfl⟩
  ·rcases iz hb with⟨j,u,rfl,e⟩|⟨y,u,rfl,e⟩
   ·injection e with e1 _;rw[e1]
   ·exact nomatch e
  ·rcases iz hb with⟨j,u,rfl,e⟩|⟨y,u,rfl,e⟩
   ·exact nomatch e
   ·injection e with e1 _;rw[e1]
 byValue:=fun k v h=>by
  rcases iz h with⟨i,t,rfl,rfl⟩|⟨x,t,rfl,rfl⟩<;>rfl
 pyHash:=fun hv h=>by
  rcases iz hv with⟨i,t,rfl,rfl⟩|⟨x,t,rfl,rfl⟩
  ·exact wpAny_pyHash_int h
  ·exact wpAny_pyHash_str h
 eqBool:=fun hu hv h=>by
  rcases iz hu with⟨i,t,rfl,rfl⟩|⟨x,t,rfl,rfl⟩
  ·rcases iz hv with⟨j,u,rfl,rfl⟩|⟨y,u,rfl,rfl⟩
   ·rw[HE] at h;exact wpAny_eqBool_int h
   ·rw[HD] at h;exact SeqAt.EqAt.int_str i t y u _ _ _ _ h
  ·rcases iz hv with⟨j,u,rfl,rfl⟩|⟨y,u,rfl,rfl⟩
   ·rw[HC] at h;exact SeqAt.EqAt.str_int x t j u _ _ _ _ h
   ·rw[HB] at h;exact wpAny_eqBool_str h
 «strs»:=fun k x t v h=>by
  rcases iz h with⟨i,u,rfl,e⟩|⟨y,u,rfl,e⟩
  ·exact nomatch e
  ·injection e with e1 _
   subst e1;cases v<;>rfl
inductive V where
 |non|bl(b:Bool)|int(i:Int)|str(x:Str)|byt(b:Array UInt8)|flt(b:UInt64)|ref(a:fM)|ty(n:String)
 deriving DecidableEq
def RelV:V->Value->Prop
 | .non,u=>u=Value.none
 | .bl b,u=>u=Value.bool b
 | .int i,u=> ∃t,u=Value.int i t
 | .str x,u=> ∃t,u=Value.str x t
 | .byt b,u=> ∃t,u=Value.bytes b t
 | .flt b,u=> ∃t,u=Value.float b t
 | .ref a,u=>u=Value.ref a
 | .ty n,u=>u=Value.type n
abbrev Vals:List V->List Value->Prop:=Paired RelV
theorem Vals.length{xs:List V}{us:gJ}(r:Vals xs us):xs.length=us.length:=Paired.length r
theorem Vals.get: ∀{xs:List V} {us:gJ} {i:Nat} {x:V},Vals xs us->xs[i]?=some x-> ∃u,us[i]?=some u/\RelV x u
 |_,_,_,_,.nil,e=>by simp at e
 |_,_,0,_,.cons r _,e=>by simp at e;subst e;exact⟨_,rfl,r⟩
 |_,_,i+1,x,.cons _ t,e=>by
  obtain⟨u,h1,h2⟩:=Vals.get (i:=i) (x:=x) t (by simpa using e);exact⟨u,by simpa using h1,h2⟩
theorem Vals.set{x:V}{u:fW}(r:RelV x u): ∀{xs:List V} {us:gJ} (i:Nat),Vals xs us->Vals (xs.set i x) (us.set i u)
 |_,_,_,.nil=> .nil
 |_,_,0,.cons _ t=> .cons r t
 |_,_,i+1,.cons q t=> .cons q (Vals.set r i t)
theorem Vals.append: ∀{xs ys:List V} {us ws:gJ},Vals xs us->Vals ys ws->Vals (xs++ys) (us++ws)
 |_,_,_,_,.nil,s=>s
 |_,_,_,_,.cons r t,s=> .cons r (Vals.append t s)
theorem Vals.take: ∀{xs:List V} {us:gJ} (n:Nat),Vals xs us->Vals (xs.take n) (us.take n)
 |_,_,0,_=> .nil
 |_,_,_+1,.nil=> .nil
 |_,_,n+1,.cons r t=> .cons r (Vals.take n t)
theorem Vals.drop: ∀{xs:List V} {us:gJ} (n:Nat),Vals xs us->Vals (xs.drop n) (us.drop n)
 |_,_,0,r=>r
 |_,_,_+1,.nil=> .nil
 |_,_,n+1,.cons _ t=>Vals.drop n t
def Jo:Option V->Option Value->Prop
 |some v,some u=>RelV v u
 |none,none=>True
 |_,_=>False
def KV{κ:Type}:List (κ×V)->List (κ×Value)->Prop:=Paired fun(p:κ×V) (q:κ×Value)=>p.1=q.1/\RelV p.2 q.2
noncomputable def kV:Key->V
 | .inl i=> .int i
 | .inr x=> .str x
inductive HO where
 /-- a list -/
 |lst(xs:List V)
 /-- a tuple(never changes) -/
 |tup(xs:List V)
 /-- a dict whose keys are ints and texts;one whose keys are tuples of ints and texts(the empty one is both) -/
 |dK(l3:List (Key×V))|dT(l3:List (List Key×V))
 /-- a set of ints:b6 members,b6 size -/
 |set (S:Int->Bool) (n:Nat)
 |stt (zs:List (Int×V))
 /-- an instance of the class at C,b6 dict at dx,b6 attributes -/
 |ins (C dx:fM) (fs:List (Str×V))
 /-- the dict of the instance at x -/
 |own (x:fM)
 /-- the dict of an exception -/
 |xd (fs:List (Str×V))
 /-- a bound method,f of x -/
 |met (f x:fM)
 /-- a range object lo,lo+1,.. below hi -/
 |rng (lo hi:Int)
 /-- a thing that is known to the object (the script;a dict while a loop walks it):read,never written while it is so -/
 |frz (o:Obj) (u:HO)
 /-- a code object's table -/
 |tbl (ps:jR)
 /-- any other thing,by what is true of b6 one object (a def of one's own:SetO a S n:=HO.ext fun h=> ..) -/
 |ext (φ:Heap->Prop)
abbrev Hp:=Addr->Option HO
noncomputable def upd(H:Hp)(a:fM)(o:HO):Hp:=fun b=>if b=a then some o else H b
theorem gA{H:Hp}{a:fM}{o:HO}:upd H a o a=some o:=by unfold upd;rw[gh rfl]
theorem gu{H:Hp}{a b:fM}{o:HO}(h:b≠a):upd H a o b=H b:=by unfold upd;rw[gk h]
theorem iC{H:Hp}{a b:fM}{o:HO}(h:H a=some o)(h':H b=none):a≠b:=by
 intro e;subst e;rw[h] at h';cases h'
section
variable(P:gi)(w:gd)
def ObjOk(H:Hp)(h:fZ)(a:fM):HO->Prop
 | .lst xs=>xs.length<=sizeLine/\ ∃(b6:gJ) (n:Nat),Vals xs b6/\h.get? a=some {cls:= .type "list",data:= .seq b6.toArray n}
 | .tup xs=>xs.length<=sizeLine/\ ∃b6:List Value,Vals xs b6/\IsTup h a b6.toArray
 | .dK l3=>l3.length<=sizeLine/\(a==sysModules)=false/\ ∃vs,KV l3 vs/\h.DictOf (Af P w) a vs
 | .dT l3=>l3.length<=sizeLine/\(a==sysModules)=false/\ ∃xs:List (List Key×Addr×Value),
   Paired (fun(p:List Key×V) (q:List Key×Addr×Value)=>p.1=q.1/\H q.2.1=some (.tup (p.1.map kV))/\RelV p.2 q.2.2) l3 xs/\
   ∃o es ep,h.get? a=some o/\o.ExactDict/\o.data= .dict es ep/\es.toList=xs.map (entryOfKey (tupleKind (Af P w)))/\(xs.map (·.1)).Nodup
 | .set S n=>h.SetOf (intKind P w) a S n
 | .stt zs=> ∃(es:Array (Int×Value)) (n:Nat) (t:SetTable),h.get? a=some {cls:= .type "set",data:= .set es n t}/\Paired (fun(z:Int×V) (e:Int×Value)=>z.1=e.1/\RelV z.2 e.2) zs es.toList/\
   TT.TabOk (zs.map (·.1)) t/\t.plain=true/\t.led=!w.params.followText "set-order"
 | .ins C dx fs=>H dx=some (.own a)/\fs.length<=1000/\dx≠a/\h.get? a=some (PySem.W.instObj C dx)/\
   ∃mA,h.Ns1 dx mA/\(∀f,Jo (fs.lookup f) (mA f))/\PySem.Within mA (fs.map (·.1))
 | .own _=> ∃o,h.get? a=some o
 | .xd fs=> ∃mA,h.Ns1 a mA/\ ∀f,Jo (fs.lookup f) (mA f)
 | .rng lo hi=> ∃t u v,h.get? a=some {cls:= .type "range",data:= .fields #[.int lo t,.int hi u,.int 1 v]}
 | .frz o u=>h.get? a=some o/\ObjOk H h a u
 | .tbl ps=> ∃q t qs,ps[0]?=some (.str q t)/\h.get? a=some {cls:= .none,data:= .fields qs}/\TriplesOk qs.toList/\ ∀pos cv,codeAmong pos qs.toList=some cv-> ∃c ob u vs t,cv= .ref c/\H c=some (.frz ob u)/\ob.data= .fields vs/\vs[1]?=some (.str q t)
 | .met f x=>h.get? a=some (PySem.W.methodObj (.ref f) (.ref x))
 | .ext φ=>φ h/\(∃o,h.get? a=some o)/\ ∀h1 h2:Heap,φ h1->(∀o,h1.get? a=some o->h2.get? a=some o)->φ h2
def HOk(H:Hp)(h:fZ):Prop:= ∀a o,H a=some o->ObjOk P w H h a o
end
section
variable {P:gi}{w:gd}{H H':Hp}{h h':fZ}{a:fM}{o:HO}
theorem ObjOk.lt(x:ObjOk P w H h a o):a<h.objs.size:=by
 cases o with
 |lst xs=>obtain⟨_,_,_,_,e⟩:=x;exact gZ e
 |tup xs=>obtain⟨_,_,_,p⟩:=x;exact p.lt
 |dK l3=>obtain⟨_,_,_,_,o,_,_,e,_⟩:=x;exact gZ e
 |dT l3=>obtain⟨_,_,_,_,o,_,_,e,_⟩:=x;exact gZ e
 |set S n=>obtain⟨o,_,_,_,e,_⟩:=x;exact gZ e
 |stt zs=>obtain⟨_,_,_,e,_⟩:=x;exact gZ e
 |ins C dx fs=>obtain⟨_,_,_,e,_⟩:=x;exact gZ e
 |own y=>obtain⟨_,e⟩:=x;exact gZ e
 |xd fs=>obtain⟨_,⟨_,_,_,e,_⟩,_⟩:=x;exact gZ e
 |rng lo hi=>obtain⟨_,_,_,e⟩:=x;exact gZ e
 |frz ob u=>obtain⟨e,_⟩:=x;exact gZ e
 |tbl ps=>obtain⟨_,_,_,_,e,_⟩:=x;exact gZ e
 |met f y=>exact gZ (show h.get? a=some _ from x)
 |ext φ=>obtain⟨_,⟨_,e⟩,_⟩:=x;exact gZ e
theorem Paired.mapP{α β:Type}{F G:α->β->Prop}: ∀{l₁:List α} {l₂:List β},Paired F l₁ l₂->(∀a b,F a b->G a b)->Paired G l₁ l₂
 |_,_,.nil,_=> .nil
 |_,_,.cons r t,f=> .cons (f _ _ r) (Paired.mapP t f)
theorem ObjOk.stay(x:ObjOk P w H h a o)(k: ∀b u,(b=a\/H b=some (.own a))->h.get? b=some u->h'.get? b=some u)
  (ho: ∀b,H b=some (.own a)->H' b=some (.own a))(ht: ∀b xs,H b=some (.tup xs)->H' b=some (.tup xs))(hz: ∀b ob u,H b=some (.frz ob u)->H' b=some (.frz ob u):=by exact fun _ _ _ q=>q):ObjOk P w H' h' a o:=by
 induction o with
 |lst xs=>obtain⟨z,b6,n,r,e⟩:=x;exact⟨z,b6,n,r,k _ _ (.inl rfl) e⟩
 |tup xs=>obtain⟨z,b6,r,ob,e,c⟩:=x;exact⟨z,b6,r,ob,k _ _ (.inl rfl) e,c⟩
 |dK l3=>obtain⟨z,y,vs,r,ob,es,ep,e,c⟩:=x;exact⟨z,y,vs,r,ob,es,ep,k _ _ (.inl rfl) e,c⟩
 |dT l3=>
  obtain⟨z,y,xs,r,ob,es,ep,e,c⟩:=x;exact⟨z,y,xs,Paired.mapP r fun p q z=>⟨z.1,ht _ _ z.2.1,z.2.2⟩,ob,es,ep,k _ _ (.inl rfl) e,c⟩
 |set S n=>obtain⟨ob,es,ep,t,e,c⟩:=x;exact⟨ob,es,ep,t,k _ _ (.inl rfl) e,c⟩
 |stt zs=>obtain⟨es,n,t,e,c⟩:=x;exact⟨es,n,t,k _ _ (.inl rfl) e,c⟩
 |ins C dx fs=>
  obtain⟨d,z,ne,e,mA,⟨od,es,ep,e2,c⟩,r⟩:=x;exact⟨ho _ d,z,ne,k _ _ (.inl rfl) e,mA,⟨od,es,ep,k _ _ (.inr d) e2,c⟩,r⟩
 |own y=>obtain⟨ob,e⟩:=x;exact⟨ob,k _ _ (.inl rfl) e⟩
 |xd fs=>obtain⟨mA,⟨od,es,ep,e,c⟩,r⟩:=x;exact⟨mA,⟨od,es,ep,k _ _ (.inl rfl) e,c⟩,r⟩
 |rng lo hi=>obtain⟨t,u,v,e⟩:=x;exact⟨t,u,v,k _ _ (.inl rfl) e⟩
 |frz ob u ih=>obtain⟨e,q⟩:=x;exact⟨k _ _ (.inl rfl) e,ih q⟩
 |tbl ps=>obtain⟨q,t,qs,e0,e,tr,m⟩:=x;exact⟨q,t,qs,e0,k _ _ (.inl rfl) e,tr,fun pos cv z=>let⟨c,ob,u,vs,t,h1,h2,h3⟩:=m pos cv z;⟨c,ob,u,vs,t,h1,hz _ _ _ h2,h3⟩⟩
 |met f y=>
  have e:h.get? a=some (PySem.W.methodObj (.ref f) (.ref y)):=x;show h'.get? a=some (PySem.W.methodObj (.ref f) (.ref y));exact k a _ (.inl rfl) e
 |ext φ=>obtain⟨p,⟨o,e⟩,st⟩:=x;exact⟨st _ _ p fun o q=>k _ _ (.inl rfl) q,⟨o,k _ _ (.inl rfl) e⟩,st⟩
theorem HOk.lt(x:HOk P w H h)(e:H a=some o):a<h.objs.size:=(x a o e).lt
theorem HOk.fresh(x:HOk P w H h)(e:h.objs.size<=a):H a=none:=by
 cases q:H a with
 |none=>rfl
 |some u=>exact absurd (jS (x.lt q) e) (mn _)
theorem HOk.kept(x:HOk P w H h)(k: ∀b u,h.get? b=some u->h'.get? b=some u):HOk P w H h':=fun a o e=>
 (x a o e).stay (fun b u _ q=>k b u q) (fun _ q=>q) fun _ _ q=>q
theorem HOk.laid(x:HOk P w H h)(k: ∀b u,h.get? b=some u->h'.get? b=some u)(hp:h.objs.size<=a)(new:ObjOk P w (upd H a o) h' a o):HOk P w (upd H a o) h':=fun b u e=>by
 have hn:=x.fresh hp;by_cases hb:b=a
 ·subst hb;rw[gA] at e;cases e;exact new
 ·rw[gu hb] at e;exact(x b u e).stay (fun c v _ q=>k c v q) (fun c q=>by rw[gu (iC q hn)];exact q) (fun c xs q=>by rw[gu (iC q hn)];exact q) fun c _ _ q=>by rw[gu (iC q hn)];exact q
end
def Rd(H:Hp)(a:fM)(u:HO):Prop:=H a=some u\/ ∃o,H a=some (.frz o u)
theorem Rd.ok{P:gi}{w:gd}{H:Hp}{h:fZ}{a:fM}{u:HO}(r:Rd H a u)(x:HOk P w H h):ObjOk P w H h a u:=by
 rcases r with r|⟨o,r⟩
 ·exact x a u r
 ·obtain⟨_,q⟩:=x a _ r;exact q
def Mut:Option HO->Prop
 |some (.lst _)=>True
 |some (.dK _)=>True
 |some (.dT _)=>True
 |some (.set _ _)=>True
 |some (.stt _)=>True
 |some (.ins _ _ _)=>True
 |some (.ext _)=>True
 |_=>False
section
variable {P:gi}{w:gd}{H:Hp}{h h':fZ}{x e:fM}{o':HO}
theorem HOk.write(ok:HOk P w H h)(mu:Mut (H x))(he:e=x\/H e=some (.own x))(k: ∀b u,b≠e->h.get? b=some u->h'.get? b=some u)(cS: ∃u,h'.get? e=some u)
  (new:ObjOk P w (upd H x o') h' x o'):HOk P w (upd H x o') h':=fun b u q=>by
 have nown: ∀c y,H c=some (.own y)->c≠x:=fun c y r z=>by subst z;rw[r] at mu;exact mu
 have ntup: ∀c xs,H c=some (.tup xs)->c≠x:=fun c xs r z=>by subst z;rw[r] at mu;exact mu
 by_cases hb:b=x
 ·subst hb;rw[gA] at q;cases q;exact new
 ·rw[gu hb] at q;by_cases bK:b=e
  ·have q':H b=some (.own x):=by
    rcases he with z|z
    ·exact absurd (bK.trans z) hb
    ·rw[bK];exact z
   rw[q] at q';cases q';obtain⟨v,hv⟩:=cS;exact⟨v,by rw[bK];exact hv⟩
  ·refine(ok b u q).stay (fun c v hc r=>k c v ?_ r) (fun c r=>by rw[gu (nown c b r)];exact r) (fun c xs r=>by rw[gu (ntup c xs r)];exact r) fun c _ _ r=>by rw[gu (fun z=>by subst z;rw[r] at mu;exact mu)];exact r
   rcases hc with rfl|hc
   ·exact bK
   ·rintro rfl;rcases he with z|z
    ·exact nown c b hc z
    ·rw[hc] at z;cases z;exact hb rfl
end
structure Un(fs ex:ic)(H H':Hp)(h h':fZ):Prop where
 keep: ∀b o,h.get? b=some o->H b=none->b∉fs->b∉ex->h'.get? b=some o
 slot: ∀b o,h.get? b=some o->H b=none->b∈fs->b∉ex-> ∃sl,h'.get? b=some {o with slots:=sl}
 free: ∀b o,h.get? b=some o->H b=none->b∉ex->H' b=none
 there: ∀b o,h.get? b=some o->b∉ex-> ∃o',h'.get? b=some o'
 tups: ∀b xs,H b=some (.tup xs)->H' b=some (.tup xs)
 frzs: ∀b o u,H b=some (.frz o u)->H' b=some (.frz o u)
 tbls: ∀b ps,H b=some (.tbl ps)-> ∃more,H' b=some (.tbl (ps++more))
section
variable {fs fs' ex ex':ic}{H H1 H2:Hp}{h h1 h2 h':fZ}{a x e:fM}{o:HO}
theorem Un.any(u:Un fs ex H H1 h h1){b:fM}{ob:Obj}(q:h.get? b=some ob)(n:H b=none)(hx:b∉ex): ∃sl,h1.get? b=some {ob with slots:=sl}:=by
 by_cases hb:b∈fs
 ·exact u.slot b ob q n hb hx
 ·exact⟨ob.slots,u.keep b ob q n hb hx⟩
theorem Un.kept(k: ∀b u,h.get? b=some u->h'.get? b=some u):Un fs ex H H h h':=
 ⟨fun b ob q _ _ _=>k b ob q,fun b ob q _ _ _=>⟨ob.slots,k b ob q⟩,fun _ _ _ n _=>n,fun b ob q _=>⟨ob,k b ob q⟩,fun _ _ q=>q,fun _ _ _ q=>q,fun _ ps q=>⟨#[],by rw[q];simp⟩⟩
theorem Un.refl:Un fs ex H H h h:=Un.kept fun _ _ q=>q
theorem Un.laid(k: ∀b u,h.get? b=some u->h'.get? b=some u)(hp:h.objs.size<=a)(hn:H a=none):Un fs ex H (upd H a o) h h' where
 keep:=fun b u q _ _ _=>k b u q
 slot:=fun b u q _ _ _=>⟨u.slots,k b u q⟩
 free:=fun b u q n _=>by rw[gu (ig (jS (gZ q) hp))];exact n
 there:=fun b u q _=>⟨u,k b u q⟩
 tups:=fun b xs q=>by rw[gu (iC q hn)];exact q
 frzs:=fun b u xs q=>by rw[gu (iC q hn)];exact q
 tbls:=fun b ps q=>⟨#[],by rw[gu (iC q hn),q];simp⟩
theorem Un.write(mu:Mut (H x))(he:e=x\/H e=some (.own x))(k: ∀b u,b≠e->h.get? b=some u->h'.get? b=some u)(cS: ∃u,h'.get? e=some u):Un fs ex H (upd H x o) h h':=by
 have hx: ∀b,H b=none->b≠x:=fun b n z=>by subst z;rw[n] at mu;exact mu
 have hb: ∀b,H b=none->b≠e:=fun b n z=>by
  subst z;rcases he with r|r
  ·exact hx b n r
  ·rw[n] at r;cases r
 have hm: ∀b u,H b=some u-> ¬Mut (some u)->b≠x:=fun b u q nm z=>by subst z;rw[q] at mu;exact nm mu
 refine⟨fun b u q n _ _=>k b u (hb b n) q,fun b u q n _ _=>⟨u.slots,k b u (hb b n) q⟩,fun b u q n _=>by rw[gu (hx b n)];exact n,fun b u q _=>?_,
  fun b xs q=>by rw[gu (hm b _ q fun z=>z)];exact q,fun b u xs q=>by rw[gu (hm b _ q fun z=>z)];exact q,fun b ps q=>⟨#[],by rw[gu (hm b _ q fun z=>z),q];simp⟩⟩
 by_cases bK:b=e
 ·subst bK;exact cS
 ·exact⟨u,k b u bK q⟩
end
noncomputable def trk(h:fZ)(H:Hp):List Addr:=(List.range h.objs.size).filter fun a=>(H a).isSome
noncomputable def sd(h:fZ)(H:Hp):Heap:=PySem.W.hideAll h (trk h H)
theorem Bc(h:fZ)(H:Hp):(sd h H).objs.size=h.objs.size:=PySem.W.hideAll_size _ _
theorem Dz{h:fZ}{H:Hp}{b:fM}{o:Obj}(e:h.get? b=some o)(n:H b=none):(sd h H).get? b=some o:=
 PySem.W.hideAll_get _ e fun hm=>by
  have q:(H b).isSome=true:=(List.mem_filter.mp hm).2;rw[n] at q;simp at q
theorem Fh{h:fZ}{H:Hp}{b:fM}{o:Obj}(e:(sd h H).get? b=some o):h.get? b=some o/\H b=none:=by
 have e':h.get? b=some o:=PySem.W.of_hideAll (trk h H) e;refine⟨e',?_⟩
 cases q:H b with
 |none=>rfl
 |some x=>
  have hm:b∈trk h H:=List.mem_filter.mpr ⟨List.mem_range.mpr (gZ e'),by simp[q]⟩;have z:(sd h H).get? b=none:=PySem.W.hideAll_none (trk h H) hm;rw[z] at e;cases e
noncomputable def FK(g h:fZ)(L:fM):List (Addr×Obj):=(List.range h.objs.size).filterMap fun a=>if a=L\/(g.get? a).isSome=true then none else(h.get? a).map fun o=>(a,o)
noncomputable def gE(g h:fZ)(L d:fM):List (Addr×Obj):=(FK g h L).filter fun p=>decide (p.1≠d)
structure Mod(K:fX)(mg:iF)(base:fZ):Prop where
 kin:K.In base
 glob:base.Ns mainGlobals mg
 blt: ∃mb,base.Ns builtinsNs mb/\ ∀x:Str,x≠"__name__"->mb x=bootBuiltins x
 nolimit:base.NoLimit
structure Cx where
 prog:Program
 w:World
 K:PySem.W.Frag
 mg:Str->Option Value
 base:Heap
 A:Around
 N:List Str
 s₀:Shared
 H₀:Hp
 env:Env
 outer:List Env
 stack:List Env
 ex:List Addr
 fn:Str->Bool
 calm:Bool
 pn:List (Addr×Obj)
 xe:Value->Shared->Prop
noncomputable def frs(l:List Env):List Addr:=l.filterMap (·.frame)
abbrev Cx.fs(X:Cx):List Addr:=frs X.outer
def Vis(sc:gF)(x:Str):Prop:=sc.names.lookup x=some .local\/sc.names.lookup x=some .cell\/sc.names.lookup x=some .free
def Loc(sc:gF)(x:Str):Prop:=sc.names.lookup x=some .local\/sc.names.lookup x=some .cell
def K8(env:Env)(h:fZ)(m:iF)(x:Str)(u:fW):Prop:=
 (env.kindOf x=some .local/\m x=some u)\/((env.kindOf x=some .cell\/env.kindOf x=some .free)/\ ∃c,env.cells.lookup x=some c/\h.IsCell c (some u))
structure Cx.Ok(X:Cx):Prop where
 mod:Mod X.K X.mg X.base
 kind:X.env.scope.kind= .function
 glob:X.env.globals=mainGlobals
 blt:X.env.builtins=builtinsNs
 above:X.s₀.heap.objs.size<=X.env.locals
 inj: ∀x y c,X.env.cells.lookup x=some c->X.env.cells.lookup y=some c->x=y
 has: ∀x,(X.env.kindOf x=some .cell\/X.env.kindOf x=some .free)-> ∃c,X.env.cells.lookup x=some c
 cab: ∀x c,X.fn x=true->X.env.cells.lookup x=some c->X.s₀.heap.objs.size<=c
 hd:X.calm=true->X.A.handled=none
 frames:X.A.frames=some X.stack
 stk:X.stack=X.outer\/(X.stack=X.env::X.outer/\X.env.frame=some X.env.locals)
 exf: ∀b∈X.ex,b≠X.env.locals/\ ∀x c,X.env.cells.lookup x=some c->c≠b
 bs: ∀b o,X.base.get? b=some o->X.s₀.heap.get? b=some o/\X.H₀ b=none
 bsz:X.base.objs.size<=X.s₀.heap.objs.size
 noex: ∀b o,X.base.get? b=some o->b∉X.ex
 exfs: ∀b∈X.ex,b∉X.fs
 funs:X.s₀.heap.FunFrames X.base X.outer
 frf: ∀b∈X.fs,X.H₀ b=none
structure Inv(X:Cx)(pins:gq)(σ:List (Option V))(H:Hp)(s:fQ):Prop where
 ok:X.Ok
 os:s.os=X.s₀.os
 bare:AllBare s.gens
 base:Un X.fs X.ex X.H₀ H X.s₀.heap s.heap
 loc: ∃m,s.heap.Ns X.env.locals m/\ ∀(i:Nat) (x:Str) (v:V),X.N[i]?=some x->σ[i]?=some (some v)->Vis X.env.scope x-> ∃u,RelV v u/\K8 X.env s.heap m x u
 cell: ∀x c,X.env.cells.lookup x=some c-> ∃v,s.heap.IsCell c v
 free:H X.env.locals=none
 freeC: ∀x c,X.env.cells.lookup x=some c->H c=none
 pin: ∀p∈X.pn++pins,s.heap.get? p.1=some p.2/\H p.1=none/\p.1≠X.env.locals/\p.1∉X.fs/\ ∀v,p.2.data≠ .cell v
 hok:HOk X.prog X.w H s.heap
 len:σ.length=X.N.length
section
variable {X:Cx}{pins:gq}{σ:List (Option V)}{H H':Hp}{s:fQ}{h':fZ}
theorem Cx.Ok.nofr(ok:X.Ok){b:fM}{o:Obj}(e:X.base.get? b=some o):b∉X.fs:=fun hb=>by
 have:=(ok.funs.mem hb).1;rw[e] at this;cases this
theorem Inv.bs(I:Inv X pins σ H s): ∀b o,X.base.get? b=some o->s.heap.get? b=some o/\H b=none:=fun b o e=>
 ⟨I.base.keep b o (I.ok.bs b o e).1 (I.ok.bs b o e).2 (I.ok.nofr e) (I.ok.noex b o e),I.base.free b o (I.ok.bs b o e).1 (I.ok.bs b o e).2 (I.ok.noex b o e)⟩
theorem Inv.bk(I:Inv X pins σ H s): ∀b o,X.base.get? b=some o->s.heap.get? b=some o:=fun b o e=>(I.bs b o e).1
theorem Inv.mod(I:Inv X pins σ H s):Mod X.K X.mg X.base:=I.ok.mod
theorem Inv.kIn(I:Inv X pins σ H s):X.K.In s.heap:=I.ok.mod.kin.keeps I.bk
theorem Inv.lt(I:Inv X pins σ H s):X.env.locals<s.heap.objs.size:=let⟨_,hn,_⟩:=I.loc;hn.lt
theorem Inv.sz(I:Inv X pins σ H s):X.s₀.heap.objs.size<=s.heap.objs.size:=lT I.ok.above (qt I.lt)
theorem Inv.nofs(I:Inv X pins σ H s){a:fM}(h:s.heap.objs.size<=a):a∉X.fs:=fun hb=>by
 obtain⟨_,o,ho,_⟩:=I.ok.funs.mem hb;exact absurd (jS (gZ ho) (lT I.sz h)) (mn _)
theorem Inv.cne(I:Inv X pins σ H s): ∀x c,X.env.cells.lookup x=some c->c≠X.env.locals:=fun x c e z=>by
 obtain⟨v,o,ho,hd⟩:=I.cell x c e;obtain⟨m,⟨o',es,ep,ah,hd',_⟩,_⟩:=I.loc;rw[z,ah] at ho;cases ho;rw[hd'] at hd;cases hd
theorem Inv.funs(I:Inv X pins σ H s):s.heap.FunFrames X.base X.outer:=by
 have all: ∀(l:List Env),(∀b∈frs l,b∈X.fs)->X.s₀.heap.FunFrames X.base l->s.heap.FunFrames X.base l:=by
  intro l
  induction l with
  |nil=>intro _ _;trivial
  |cons env r ih=>
   intro hs hl;obtain⟨hk,⟨L,o,hf,hn,ho,hd⟩,hr⟩:=hl;have hL:L∈X.fs:=hs L (by unfold frs;rw[uB,hf];exact jm);obtain⟨sl,e⟩:=I.base.slot L o ho (I.ok.frf L hL) hL fun z=>I.ok.exfs L z hL;exact⟨hk,⟨L,_,hf,hn,e,hd⟩,ih (fun b hb=>hs b (by unfold frs;rw[uB,hf];exact iO _ hb)) hr⟩
 exact all X.outer (fun _ hb=>hb) I.ok.funs
theorem Inv.stack(I:Inv X pins σ H s):s.heap.FunFrames X.base X.stack:=by
 rcases I.ok.stk with e|⟨e,hf⟩
 ·rw[e];exact I.funs
 ·rw[e];obtain⟨m,hn,_⟩:=I.loc;refine .cons (by rw[I.ok.kind];decide) hf hn ?_ I.funs;exact Heap.get?_none_of_le (lT I.ok.bsz I.ok.above)
theorem Inv.stkSub(I:Inv X pins σ H s): ∀b∈frs X.stack,b∈X.env.locals::X.fs:=fun b hb=>by
 rcases I.ok.stk with e|⟨e,hf⟩
 ·rw[e] at hb;exact iO _ hb
 ·rw[e] at hb;unfold frs at hb;rw[uB,hf] at hb;exact hb
theorem Inv.stkFree(I:Inv X pins σ H s): ∀b∈frs X.stack,H b=none:=fun b hb=>by
 rcases jC.mp (I.stkSub b hb) with e|hb
 ·rw[e];exact I.free
 ·obtain⟨_,o,ho,_⟩:=I.ok.funs.mem hb;exact I.base.free b o ho (I.ok.frf b hb) fun z=>I.ok.exfs b z hb
theorem Inv.step{g':Array GenState}{t':Nat}{d':Drawn}{ch:ic}(I:Inv X pins σ H s)
  (br: ∀b∈ch,(b∈X.ex\/X.s₀.heap.objs.size<=b)/\b≠X.env.locals/\(∀x c,X.env.cells.lookup x=some c->c≠b)/\ ∀p∈X.pn++pins,p.1≠b)
  (keep: ∀b o,b≠X.env.locals->b∉X.fs->b∉ch->s.heap.get? b=some o->H b=none->h'.get? b=some o)
  (slot: ∀b o,b≠X.env.locals->b∈X.fs->b∉ch->s.heap.get? b=some o->H b=none-> ∃sl,h'.get? b=some {o with slots:=sl})(free: ∀b o,b∉ch->s.heap.get? b=some o->H b=none->H' b=none)
  (there: ∀b o,b∉ch->s.heap.get? b=some o-> ∃o',h'.get? b=some o')
  (tups: ∀b xs,H b=some (.tup xs)->H' b=some (.tup xs))(frzs: ∀b o u,H b=some (.frz o u)->H' b=some (.frz o u))(tbls: ∀b ps,H b=some (.tbl ps)-> ∃more,H' b=some (.tbl (ps++more)))
  (ns: ∀m,s.heap.Ns X.env.locals m->h'.Ns X.env.locals m)(hok:HOk X.prog X.w H' h')(hg:AllBare g'):
  Inv X pins σ H' {s with heap:=h',gens:=g',drawn:=d',toks:=t'}:=by
 have neL: ∀b o,X.s₀.heap.get? b=some o->b≠X.env.locals:=fun b o e=>ig (jS (gZ e) I.ok.above)
 have dE: ∀b o,X.s₀.heap.get? b=some o->b∉X.ex->b∉ch:=fun b o e hx hb=>by
  rcases(br b hb).1 with z|z
  ·exact hx z
  ·exact absurd (jS (gZ e) z) (mn _)
 have cellK: ∀x c,X.env.cells.lookup x=some c-> ∀v,s.heap.IsCell c v->h'.IsCell c v:=fun x c e v ⟨o,ho,hd⟩=>by
  have aP:c∉ch:=fun z=>(br c z).2.2.1 x c e rfl;by_cases hc:c∈X.fs
  ·obtain⟨sl,q⟩:=slot c o (I.cne x c e) hc aP ho (I.freeC x c e);exact⟨_,q,hd⟩
  ·exact⟨o,keep c o (I.cne x c e) hc aP ho (I.freeC x c e),hd⟩
 refine⟨I.ok,I.os,hg,⟨fun b o e n hb hx=>?_,fun b o e n hb hx=>?_,fun b o e n hx=>?_,fun b o e hx=>?_,fun b xs e=>tups b xs (I.base.tups b xs e),fun b o xs e=>frzs b o xs (I.base.frzs b o xs e),fun b ps e=>?_⟩,?_,fun x c e=>?_,?_,fun x c e=>?_,fun p hp=>?_,hok,I.len⟩
 ·exact keep b o (neL b o e) hb (dE b o e hx) (I.base.keep b o e n hb hx) (I.base.free b o e n hx)
 ·obtain⟨sl,e1⟩:=I.base.slot b o e n hb hx;obtain⟨dA,e2⟩:=slot b _ (neL b o e) hb (dE b o e hx) e1 (I.base.free b o e n hx);exact⟨dA,e2⟩
 ·obtain⟨o',e1⟩:=I.base.there b o e hx;exact free b o' (dE b o e hx) e1 (I.base.free b o e n hx)
 ·obtain⟨o',e1⟩:=I.base.there b o e hx;exact there b o' (dE b o e hx) e1
 ·obtain⟨m1,e1⟩:=I.base.tbls b ps e;obtain⟨m2,e2⟩:=tbls b _ e1;exact⟨m1++m2,by rw[e2,uA]⟩
 ·obtain⟨m,hn,hl⟩:=I.loc;refine⟨m,ns m hn,fun i x v e1 e2 e3=>?_⟩;obtain⟨u,r,l⟩:=hl i x v e1 e2 e3;refine⟨u,r,?_⟩;rcases l with l|⟨k,c,e,z⟩
  ·exact .inl l
  ·exact .inr ⟨k,c,e,cellK x c e _ z⟩
 ·obtain⟨v,z⟩:=I.cell x c e;exact⟨v,cellK x c e v z⟩
 ·obtain⟨m,⟨o,_,_,ho,_⟩,_⟩:=I.loc;exact free _ o (fun z=>(br _ z).2.1 rfl) ho I.free
 ·obtain⟨v,o,ho,hd⟩:=I.cell x c e;exact free c o (fun z=>(br c z).2.2.1 x c e rfl) ho (I.freeC x c e)
 ·obtain⟨e,n,ne,nf,d⟩:=I.pin p hp;have aP:p.1∉ch:=fun z=>(br p.1 z).2.2.2 p hp rfl;exact⟨keep p.1 p.2 ne nf aP e n,free p.1 p.2 aP e n,ne,nf,d⟩
theorem Inv.un{t':Nat}(I:Inv X pins σ H s)(u:Un X.fs [] H H' s.heap h')(hok:HOk X.prog X.w H' h'):Inv X pins σ H' {s with heap:=h',toks:=t'}:=by
 obtain⟨m,⟨o,es,ep,ho,r⟩,_⟩:=id I.loc;obtain⟨sl,hL⟩:=u.any ho I.free (by simp)
 exact I.step (g':=s.gens) (d':=s.drawn) (ch:=[]) (fun _ z=>nomatch z) (fun b o _ hb _ e n=>u.keep b o e n hb (by simp)) (fun b o _ hb _ e n=>u.slot b o e n hb (by simp)) (fun b o _ e n=>u.free b o e n (by simp)) (fun b o _ e=>u.there b o e (by simp)) u.tups u.frzs u.tbls (fun m' hm=>by
  obtain⟨o',fG,fH,ah,r'⟩:=hm;rw[ho] at ah;cases ah;exact⟨_,fG,fH,hL,r'⟩) hok I.bare
theorem Inv.call{g':Array GenState}{t':Nat}{d':Drawn}{ch:ic}(I:Inv X pins σ H s)(u:Un (frs X.stack) ch H H' s.heap h')(hok:HOk X.prog X.w H' h')(hg:AllBare g')
  (br: ∀b∈ch,(b∈X.ex\/X.s₀.heap.objs.size<=b)/\b≠X.env.locals/\(∀x c,X.env.cells.lookup x=some c->c≠b)/\ ∀p∈X.pn++pins,p.1≠b):
  Inv X pins σ H' {s with heap:=h',gens:=g',drawn:=d',toks:=t'}:=by
 obtain⟨m,⟨o,es,ep,ho,r⟩,_⟩:=id I.loc;obtain⟨sl,hL⟩:=u.any ho I.free fun z=>(br _ z).2.1 rfl
 exact I.step (ch:=ch) br (fun b o hL hb hc e n=>u.keep b o e n (fun z=>(jC.mp (I.stkSub b z)).elim hL hb) hc) (fun b o _ _ hc e n=>u.any e n hc) (fun b o hc e n=>u.free b o e n hc) (fun b o hc e=>u.there b o e hc) u.tups u.frzs u.tbls (fun m' hm=>by
  obtain⟨o',fG,fH,ah,r'⟩:=hm;rw[ho] at ah;cases ah;exact⟨_,fG,fH,hL,r'⟩) hok hg
theorem Inv.turned{t':Nat}{it:fM}(I:Inv X pins σ H s)(k: ∀b o,b≠it->s.heap.get? b=some o->h'.get? b=some o)(hn:H it=none)(hL:it≠X.env.locals)
  (h1:it∈X.ex\/X.s₀.heap.objs.size<=it)(h2: ∀x c,X.env.cells.lookup x=some c->c≠it)(h3: ∀p∈X.pn++pins,p.1≠it):Inv X pins σ H {s with heap:=h',toks:=t'}:=by
 have nit: ∀b u,H b=some u->b≠it:=fun b u e z=>by rw[z,hn] at e;cases e
 refine I.step (g':=s.gens) (d':=s.drawn) (ch:=[it]) (fun b hb=>?_) (fun b o _ _ hc e _=>k b o (fun z=>hc (by simp[z])) e) (fun b o _ _ hc e _=>⟨o.slots,k b o (fun z=>hc (by simp[z])) e⟩) (fun _ _ _ _ n=>n)
  (fun b o hc e=>⟨o,k b o (fun z=>hc (by simp[z])) e⟩) (fun _ _ e=>e) (fun _ _ _ e=>e) (fun b ps e=>⟨#[],by rw[e];simp⟩) (fun m hm=>?_) (fun b u e=>?_) I.bare
 ·have e:b=it:=by simpa using hb
  subst e;exact⟨h1,hL,h2,h3⟩
 ·obtain⟨o,es,ep,ho,r⟩:=hm;exact⟨o,es,ep,k _ o (ll hL) ho,r⟩
 ·refine(I.hok b u e).stay (fun c v hc q=>k c v ?_ q) (fun _ q=>q) fun _ _ q=>q;rcases hc with z|z
  ·rw[z];exact nit b u e
  ·exact nit c _ z
theorem Inv.tok(I:Inv X pins σ H s)(t:Nat):Inv X pins σ H {s with toks:=t}:=I.un (h':=s.heap) (t':=t) Un.refl I.hok
theorem Inv.kept{t':Nat}(I:Inv X pins σ H s)(k: ∀b u,s.heap.get? b=some u->h'.get? b=some u):Inv X pins σ H {s with heap:=h',toks:=t'}:=I.un (Un.kept k) (I.hok.kept k)
theorem Inv.laid{a:fM}{o:HO}{t':Nat}(I:Inv X pins σ H s)(k: ∀b u,s.heap.get? b=some u->h'.get? b=some u)(hp:s.heap.objs.size<=a)(new:ObjOk X.prog X.w (upd H a o) h' a o):
  Inv X pins σ (upd H a o) {s with heap:=h',toks:=t'}:=I.un (Un.laid k hp (I.hok.fresh hp)) (I.hok.laid k hp new)
theorem Inv.write{x e:fM}{o:HO}{t':Nat}(I:Inv X pins σ H s)(mu:Mut (H x))(he:e=x\/H e=some (.own x))(k: ∀b u,b≠e->s.heap.get? b=some u->h'.get? b=some u)(cS: ∃u,h'.get? e=some u)
  (new:ObjOk X.prog X.w (upd H x o) h' x o):Inv X pins σ (upd H x o) {s with heap:=h',toks:=t'}:=I.un (Un.write mu he k cS) (I.hok.write mu he k cS new)
theorem Inv.pins_of{pins':gq}(I:Inv X pins σ H s)(h: ∀p∈pins',s.heap.get? p.1=some p.2/\H p.1=none/\p.1≠X.env.locals/\p.1∉X.fs/\ ∀v,p.2.data≠ .cell v):Inv X pins' σ H s:=
 ⟨I.ok,I.os,I.bare,I.base,I.loc,I.cell,I.free,I.freeC,fun p hp=>(pS.mp hp).elim (fun z=>I.pin p (BZ _ z)) (h p),I.hok,I.len⟩
theorem rp{N:gf}(hN:N.Nodup){i j:Nat}{x:Str}(a:N[i]?=some x)(b:N[j]?=some x):i=j:=by
 obtain⟨h1,e1⟩:=pR.mp a;obtain⟨h2,e2⟩:=pR.mp b;exact(List.getElem_inj hN).mp (e1.trans e2.symm)
theorem AN{M:Model}{A:gc}{E:gw}{i:Nat}{x:Str}{v:V}{u:fW}{Q:Unit->Shared->Prop}(I:Inv X pins σ H s)(hN:X.N.Nodup)(hi:X.N[i]?=some x)(hx:Loc X.env.scope x)(r:RelV v u)
  (h: ∀s',Inv X pins (σ.set i (some v)) H s'->(∃a,Heap.SameBut a s.heap s'.heap/\(a=X.env.locals\/X.env.cells.lookup x=some a))->Q () s')(hf:X.fn x=true\/X.env.scope.names.lookup x=some .local:=by first|exact .inl rfl|exact .inr rfl|assumption):wpAny M A (storeName X.env x u) Q E s:=by
 obtain⟨m,hn,hl⟩:=id I.loc;have bI:(X.env.scope.kind== .class||(X.env.scope.kind== .module&&X.env.locals !=X.env.globals))=false:=by rw[I.ok.kind];rfl
 have dP:i<σ.length:=by rw[I.len];exact(pR.mp hi).1
 have cne:=I.cne
 have tracked: ∀{a:fM} {h':fZ},(∃o,s.heap.get? a=some o/\H a=none)->Heap.SameBut a s.heap h'->HOk X.prog X.w H h':=fun {a h'} ha hs b ob e=>by
  obtain⟨_,_,n4⟩:=ha;refine(I.hok b ob e).stay (fun c w' hc q=>(hs.2 c ?_).trans q) (fun _ q=>q) fun _ _ q=>q;rintro rfl;rcases hc with rfl|hc
  ·rw[n4] at e;cases e
  ·rw[n4] at hc;cases hc
 rcases hx with hk|hk
 ·refine BY hk hn (fun h' cA hs=>?_) bI;obtain⟨oL,_,_,hoL,_⟩:=id hn;refine h _ ⟨I.ok,I.os,I.bare,⟨fun b o e n hb hx=>?_,fun b o e n hb hx=>?_,I.base.free,fun b o e hx=>?_,I.base.tups,I.base.frzs,I.base.tbls⟩,⟨_,cA,fun j y v' e1 e2 e3=>?_⟩,fun y c e=>?_,I.free,I.freeC,fun p hp=>?_,tracked ⟨oL,hoL,I.free⟩ hs,by simpa using I.len⟩ ⟨_,hs,.inl rfl⟩
  ·exact(hs.2 b (ig (jS (gZ e) I.ok.above))).trans (I.base.keep b o e n hb hx)
  ·obtain⟨sl,e1⟩:=I.base.slot b o e n hb hx;exact⟨sl,(hs.2 b (ig (jS (gZ e) I.ok.above))).trans e1⟩
  ·obtain⟨o',e1⟩:=I.base.there b o e hx;exact⟨o',(hs.2 b (ig (jS (gZ e) I.ok.above))).trans e1⟩
  ·by_cases hj:j=i
   ·subst hj;rw[hi] at e1;cases e1;rw[jJ dP] at e2;cases e2;exact⟨u,r,.inl ⟨hk,by simp⟩⟩
   ·rw[kz (ll hj)] at e2;obtain⟨u',r',q⟩:=hl j y v' e1 e2 e3;refine⟨u',r',?_⟩;rcases q with⟨k,e⟩|⟨k,c,e,z⟩
    ·refine .inl ⟨k,?_⟩;have:y≠x:=fun e=>hj (rp hN e1 (e▸hi));simp[this,e]
    ·exact .inr ⟨k,c,e,z.sameBut hs (cne y c e)⟩
  ·obtain⟨w',z⟩:=I.cell y c e;exact⟨w',z.sameBut hs (cne y c e)⟩
  ·obtain⟨e,n,ne,nf,d⟩:=I.pin p hp;exact⟨(hs.2 p.1 ne).trans e,n,ne,nf,d⟩
 ·have cE:X.fn x=true:=by
   rcases hf with z|z
   ·exact z
   ·rw[z] at hk;cases hk
  obtain⟨c,hc⟩:=I.ok.has x (.inl hk);obtain⟨w',z⟩:=I.cell x c hc;refine wpAny_storeName_cell I.ok.kind hk hc z (fun h' bU hs=>?_);obtain⟨oc,dh,hocd⟩:=id z;refine h {s with heap:=h'} ⟨I.ok,I.os,I.bare,⟨fun b o e n hb hx=>?_,fun b o e n hb hx=>?_,I.base.free,fun b o e hx=>?_,I.base.tups,I.base.frzs,I.base.tbls⟩,⟨m,hn.sameBut hs (ll (cne x c hc)),fun j y v' e1 e2 e3=>?_⟩,fun y c' e=>?_,I.free,I.freeC,fun p hp=>?_,tracked ⟨oc,dh,I.freeC x c hc⟩ hs,by simpa using I.len⟩ ⟨c,hs,.inr hc⟩
  ·exact(hs.2 b (ig (jS (gZ e) (I.ok.cab x c cE hc)))).trans (I.base.keep b o e n hb hx)
  ·obtain⟨sl,e1⟩:=I.base.slot b o e n hb hx;exact⟨sl,(hs.2 b (ig (jS (gZ e) (I.ok.cab x c cE hc)))).trans e1⟩
  ·obtain⟨o',e1⟩:=I.base.there b o e hx;exact⟨o',(hs.2 b (ig (jS (gZ e) (I.ok.cab x c cE hc)))).trans e1⟩
  ·by_cases hj:j=i
   ·subst hj;rw[hi] at e1;cases e1;rw[jJ dP] at e2;cases e2;exact⟨u,r,.inr ⟨.inl hk,c,hc,bU⟩⟩
   ·rw[kz (ll hj)] at e2;obtain⟨u',r',q⟩:=hl j y v' e1 e2 e3;refine⟨u',r',?_⟩;rcases q with q|⟨k,c',e,z'⟩
    ·exact .inl q
    ·refine .inr ⟨k,c',e,z'.sameBut hs ?_⟩;rintro rfl;exact hj (rp hN e1 (I.ok.inj _ _ _ e hc▸hi))
  ·by_cases dW:c'=c
   ·subst dW;exact⟨_,bU⟩
   ·obtain⟨w2,z2⟩:=I.cell y c' e;exact⟨w2,z2.sameBut hs dW⟩
  ·obtain⟨e,n,ne,nf,d⟩:=I.pin p hp;refine⟨(hs.2 p.1 ?_).trans e,n,ne,nf,d⟩;intro q;rw[q,dh] at e;have q':oc=p.2:=iG e;exact d w' (by rw[<-q'];exact hocd)
theorem mx{M:Model}{A:gc}{E:gw}{i:Nat}{x:Str}{v:V}{u:fW}{Q:Unit->Shared->Prop}(I:Inv X pins σ H s)(hN:X.N.Nodup)(hi:X.N[i]?=some x)(hx:Loc X.env.scope x)(r:RelV v u)
  (h: ∀s',Inv X pins (σ.set i (some v)) H s'->Q () s')(hf:X.fn x=true\/X.env.scope.names.lookup x=some .local:=by first|exact .inl rfl|exact .inr rfl|assumption):wpAny M A (storeName X.env x u) Q E s:=
 AN I hN hi hx r (fun s' I' _=>h s' I') hf
theorem Inv.call'{s':fQ}{ch:ic}(I:Inv X pins σ H s)(ho:s'.os=s.os)(u:Un (frs X.stack) ch H H' s.heap s'.heap)(hok:HOk X.prog X.w H' s'.heap)(hg:AllBare s'.gens)
  (br: ∀b∈ch,(b∈X.ex\/X.s₀.heap.objs.size<=b)/\b≠X.env.locals/\(∀x c,X.env.cells.lookup x=some c->c≠b)/\ ∀p∈X.pn++pins,p.1≠b):Inv X pins σ H' s':=by
 obtain⟨h',g',d',t',o'⟩:=s';have e:o'=s.os:=ho;subst e;exact I.call (g':=g') (t':=t') (d':=d') u hok hg br
end
abbrev XK:=Value->Option Addr->Hp->Prop
abbrev St:=List (Option V)
abbrev VK:=V->Hp->Prop
abbrev TE:=St->Hp->VK->Prop
abbrev TT:=St->Hp->(Bool->Hp->Prop)->Prop
abbrev TA:=St->Hp->(List V->Hp->Prop)->Prop
structure Ends where
 nx:St->Hp->Prop
 rt:VK
 bk:St->Hp->Prop:=fun _ _=>False
 ct:St->Hp->Prop:=fun _ _=>False
abbrev TS:=Ends->St->Hp->Prop
def EP(X:Cx)(pins:gq)(σ:St)(Q:VK)(u:fW)(s':fQ):Prop:= ∃v H',Inv X pins σ H' s'/\RelV v u/\Q v H'
def TP(X:Cx)(pins:gq)(σ:St)(Q:Bool->Hp->Prop)(b:Bool)(s':fQ):Prop:= ∃H',Inv X pins σ H' s'/\Q b H'
def AP(X:Cx)(pins:gq)(σ:St)(Q:List V->Hp->Prop)(us:gJ)(s':fQ):Prop:= ∃vs H',Inv X pins σ H' s'/\Vals vs us/\Q vs H'
def SP(X:Cx)(pins:gq)(D:Ends)(f:Flow)(s':fQ):Prop:=
 match f with
 | .next=> ∃σ' H',Inv X pins σ' H' s'/\D.nx σ' H'
 | .brk=> ∃σ' H',Inv X pins σ' H' s'/\D.bk σ' H'
 | .cont=> ∃σ' H',Inv X pins σ' H' s'/\D.ct σ' H'
 | .ret u=> ∃v σ' H',Inv X pins σ' H' s'/\RelV v u/\D.rt v H'
def PE(X:Cx)(e:fV)(t:TE):Prop:=
 ∀(pins:gq) (s:fQ) (σ:St) (H:Hp) (Q:VK),Inv X pins σ H s->t σ H Q->wpAny (model X.prog X.w) X.A (eval e X.env) (EP X pins σ Q) X.xe s
def PT(X:Cx)(e:fV)(t:TT):Prop:=
 ∀(pins:gq) (s:fQ) (σ:St) (H:Hp) (Q:Bool->Hp->Prop),Inv X pins σ H s->t σ H Q->wpAny (model X.prog X.w) X.A (isTrue e X.env (eval e X.env)) (TP X pins σ Q) X.xe s
def PW(X:Cx)(e:fV)(t:TT):Prop:=
 ∀(whole:Sem Value) (pins:gq) (s:fQ) (σ:St) (H:Hp) (Q:Bool->Hp->Prop),Inv X pins σ H s->t σ H Q->wpAny (model X.prog X.w) X.A (isTrue e X.env whole) (TP X pins σ Q) X.xe s
theorem PW.pt{X:Cx}{e:fV}{t:TT}(h:PW X e t):PT X e t:=h _
def PA(X:Cx)(es:gX)(t:TA):Prop:=
 ∀(pos:Pos) (pins:gq) (s:fQ) (σ:St) (H:Hp) (Q:List V->Hp->Prop),Inv X pins σ H s->t σ H Q->wpAny (model X.prog X.w) X.A (spliced (backTo pos (starEach es X.env))) (AP X pins σ Q) X.xe s
def PS(X:Cx)(st:Stmt)(t:TS):Prop:=
 ∀(pins:gq) (s:fQ) (σ:St) (H:Hp) (D:Ends),Inv X pins σ H s->t D σ H->wpAny (model X.prog X.w) X.A (exec st X.env) (SP X pins D) X.xe s
def PSs(X:Cx)(st:List Stmt)(t:TS):Prop:=
 ∀(pins:gq) (s:fQ) (σ:St) (H:Hp) (D:Ends),Inv X pins σ H s->t D σ H->wpAny (model X.prog X.w) X.A (execs st X.env) (SP X pins D) X.xe s
theorem thn{α:Type}{t:Sem α}{Q Q':α->Shared->Prop}{M:Model}{A:gc}{E:gw}{s:fQ}(h:wpAny M A t Q E s)(hQ: ∀a s,Q a s->Q' a s):wpAny M A t Q' E s:=ky h hQ fun _ _ x=>x
section
variable {X:Cx}
def JN(i:Nat):TE:=fun σ H Q=> ∃v,σ[i]?=some (some v)/\Q v H
noncomputable def tC(v:V):TE:=fun _ H Q=>Q v H
theorem rd{i:Nat}{x:Str}{pos:Pos}(hN:X.N[i]?=some x)(hv:Vis X.env.scope x)(hd:(x==("__debug__":Str))=false:=by decide)(n6:(x==("__classdict__":Str))=false:=by decide):PE X (.Name x pos) (JN i):=by
 intro pins s σ H Q I h;obtain⟨v,e,h⟩:=h;obtain⟨m,hn,hl⟩:=I.loc;obtain⟨u,r,l⟩:=hl i x v hN e hv;have fin:EP X pins σ Q u s:=⟨v,H,I,r,h⟩
 rcases l with⟨hk,hm⟩|⟨hk,c,hc,j6⟩
 ·exact wpAny_Name (wpAny_loadName_local I.ok.kind hk hn hm fin) hd
 ·rcases hk with hk|hk
  ·exact wpAny_Name (wpAny_loadName_cell I.ok.kind hk hc j6 fin) hd
  ·exact wpAny_Name (wpAny_loadName_free I.ok.kind hk hc j6 fin n6) hd
theorem Hk{i j pos}:PE X (.Constant (.int i) j pos) (tC (.int i)):=fun _ _ _ H _ I h=>wpAny_Constant_int ⟨.int i,H,I.tok _,⟨_,rfl⟩,h⟩
theorem IT{b j pos}:PE X (.Constant (.bool b) j pos) (tC (.bl b)):=fun _ _ _ H _ I h=>Constant_bool ⟨.bl b,H,I,rfl,h⟩
theorem Hh{j pos}:PE X (.Constant .none j pos) (tC .non):=fun _ _ _ H _ I h=>Constant_none ⟨.non,H,I,rfl,h⟩
theorem He{x j pos}:PE X (.Constant (.str x) j pos) (tC (.str x)):=fun _ _ _ H _ I h=>uz ⟨.str x,H,I.tok _,⟨_,rfl⟩,h⟩
def Gl(X:Cx)(x:Str):Prop:=X.env.kindOf x=some .globalImplicit
theorem mY{E:gw}{pins:gq}{s:fQ}{σ:St}{H:Hp}{x:Str}{u:fW}{pos:Pos}{Q:gw}(I:Inv X pins σ H s)(hg:Gl X x)(hm:X.mg x=some u)(h:Q u s)
  (hd:(x==("__debug__":Str))=false:=by decide):wpAny (model X.prog X.w) X.A (eval (.Name x pos) X.env) Q E s:=
 BX I.ok.kind hg (Calls.loadGlobal_global (by rw[I.ok.glob];exact I.mod.glob.keeps I.bk) hm h) hd
theorem nK{E:gw}{pins:gq}{s:fQ}{σ:St}{H:Hp}{x:Str}{u:fW}{pos:Pos}{Q:gw}(I:Inv X pins σ H s)(hg:Gl X x)(hm:X.mg x=none)(hv:bootBuiltins x=some u)(h:Q u s)
  (hn:x≠"__name__":=by decide)(hd:(x==("__debug__":Str))=false:=by decide):wpAny (model X.prog X.w) X.A (eval (.Name x pos) X.env) Q E s:=by
 obtain⟨mb,h1,h2⟩:=I.mod.blt;exact BX I.ok.kind hg (Calls.loadGlobal_builtin (by rw[I.ok.glob];exact I.mod.glob.keeps I.bk) hm (by rw[I.ok.blt];exact h1.keeps I.bk) ((h2 x hn).trans hv) h) hd
theorem zZ{x:Str}{v:V}{u:fW}{pos:Pos}(hg:Gl X x)(hm:X.mg x=some u)(r:RelV v u)(hd:(x==("__debug__":Str))=false:=by decide):PE X (.Name x pos) (tC v):=
 fun _ _ _ H _ I h=>mY I hg hm ⟨v,H,I,r,h⟩ hd
theorem qc{x:Str}{v:V}{u:fW}{pos:Pos}(hg:Gl X x)(hm:X.mg x=none)(hv:bootBuiltins x=some u)(r:RelV v u)(hn:x≠"__name__":=by decide)(hd:(x==("__debug__":Str))=false:=by decide):PE X (.Name x pos) (tC v):=
 fun _ _ _ H _ I h=>nK I hg hm hv ⟨v,H,I,r,h⟩ hn hd
def t2I(ta tb:TE)(k:Int->Int->Hp->Prop):St->Hp->Prop:=fun σ H=>ta σ H fun x H1=>tb σ H1 fun y H2=> ∃i j,x= .int i/\y= .int j/\k i j H2
variable {a b:fV}{ta tb:TE}{pos:Pos}
noncomputable def tCmp(p:Int->Int->Bool)(ta tb:TE):TE:=fun σ H Q=>t2I ta tb (fun i j H2=>Q (.bl (p i j)) H2) σ H
def tB(t:TE):TT:=fun σ H Q=>t σ H fun x H1=> ∃c,x= .bl c/\Q c H1
theorem GZ{e:fV}{t:TE}(h:PE X e t)(he: ∀whole,isTrue e X.env whole=(do let v <-whole;standAt e.pos;holding [v] (truthy v)):=by intro _;rfl):PT X e (tB t):=by
 intro pins s σ H Q I hw;refine isTrue_plain (thn (h pins s σ H _ I hw) fun v s1 ⟨x,H1,I1,r1,q1⟩=>?_) (he _);obtain⟨d,rfl,q⟩:=q1;cases r1;exact mm ⟨H1,I1,q⟩
variable {tA tB':TT}{gE:gX}
noncomputable def tOr(t u:TT):TT:=fun σ H Q=>t σ H fun c H1=>if c=true then Q true H1 else u σ H1 Q
noncomputable def tNot(t:TT):TT:=fun σ H Q=>t σ H fun c H1=>Q (!c) H1
theorem GY(ha:PT X a tA):PW X (.BoolOp .Or [a] pos) tA:=by
 intro wh pins s σ H Q I h;refine isTrue_or (thn (ha pins s σ H Q I h) fun c s1 e=>?_)
 cases c with
 |false=>exact isTrue_or_nil e
 |true=>exact e
theorem IK(ha:PT X a tA)(hb:PW X (.BoolOp .Or (b::gE) pos) tB'):PW X (.BoolOp .Or (a::b::gE) pos) (tOr tA tB'):=by
 intro wh pins s σ H Q I h;refine isTrue_or (thn (ha pins s σ H _ I h) fun c s1 ⟨H1,I1,q1⟩=>?_)
 cases c with
 |true=>exact⟨H1,I1,q1⟩
 |false=>exact hb wh pins s1 σ H1 Q I1 q1
theorem G2(ha:PT X a tA):PT X (.UnaryOp .Not a pos) (tNot tA):=by
 intro pins s σ H Q I h;exact isTrue_not (ha pins s σ H (fun c H1=>Q (!c) H1) I h)
def IA(ta tb:TE):TE:=fun σ H Q=>ta σ H fun x H1=> ∃c,x= .bl c/\if c=true then tb σ H1 Q else Q (.bl false) H1
def Ir(ta:TE):TE:=fun σ H Q=>ta σ H fun x H1=> ∃c,x= .bl c/\Q (.bl (!c)) H1
theorem Hf{op}{t:TE}(h:PE X a t):PE X (.BoolOp op [a] pos) t:=fun pins s σ H Q I hw=>BoolOp_one (h pins s σ H Q I hw)
theorem Hl(ha:PE X a ta)(hb:PE X (.BoolOp .And (b::gE) pos) tb):PE X (.BoolOp .And (a::b::gE) pos) (IA ta tb):=by
 intro pins s σ H Q I h;refine BoolOp_and (thn (ha pins s σ H _ I h) fun v s1 ⟨x,H1,I1,r1,q1⟩=>?_);obtain⟨c,rfl,q1⟩:=q1;cases r1;refine mm ?_
 cases c with
 |true=>exact hb pins s1 σ H1 Q I1 q1
 |false=>exact⟨.bl false,H1,I1,rfl,q1⟩
theorem Hg(ha:PE X a ta):PE X (.UnaryOp .Not a pos) (Ir ta):=by
 intro pins s σ H Q I h;refine UnaryOp_ (thn (ha pins s σ H _ I h) fun v s1 ⟨x,H1,I1,r1,q1⟩=>?_);obtain⟨c,rfl,q1⟩:=q1;cases r1;exact not_of (mm ⟨.bl (!c),H1,I1,rfl,q1⟩)
end
def SqL(K:fX)(H:Hp)(a:fM)(xs:List V):Prop:=
 Rd H a (.lst xs)\/
  ∃(o:Obj) (b6:jR) (n:Nat),K.lookup a=some o/\o.cls= .type "list"/\o.dict=none/\o.data= .seq b6 n/\b6.size<=sizeLine/\Vals xs b6.toList
def SqT(K:fX)(H:Hp)(a:fM)(xs:List V):Prop:=
 Rd H a (.tup xs)\/
  ∃(o:Obj) (b6:jR) (n:Nat),K.lookup a=some o/\o.cls= .type "tuple"/\o.data= .seq b6 n/\b6.size<=sizeLine/\Vals xs b6.toList
noncomputable def K5:Value->Option V
 | .none=>some .non
 | .bool b=>some (.bl b)
 | .int i _=>some (.int i)
 | .str x _=>some (.str x)
 | .bytes b _=>some (.byt b)
 | .float b _=>some (.flt b)
 | .ref a=>some (.ref a)
 | .type n=>some (.ty n)
 |_=>none
theorem RelV.abs{x:V}{u:fW}(r:RelV x u):K5 u=some x:=by
 cases x with
 |non=>cases r;rfl
 |bl _=>cases r;rfl
 |int _=>obtain⟨t,rfl⟩:=r;rfl
 |str _=>obtain⟨t,rfl⟩:=r;rfl
 |byt _=>obtain⟨t,rfl⟩:=r;rfl
 |flt _=>obtain⟨t,rfl⟩:=r;rfl
 |ref _=>cases r;rfl
 |ty _=>cases r;rfl
theorem RelV.inj{x y:V}{u:fW}(r:RelV x u)(q:RelV y u):x=y:=iG (r.abs.symm.trans q.abs)
theorem Vals.inj: ∀{xs ys:List V} {us:gJ},Vals xs us->Vals ys us->xs=ys
 |_,_,_,.nil,.nil=>rfl
 |_,_,_,.cons r t,.cons r' t'=>by rw[r.inj r',Vals.inj t t']
section
variable {X:Cx}{pins:gq}{σ:St}{H:Hp}{s:fQ}{a:fM}{xs ys:List V}
theorem SqL.of{K:fX}(h:H a=some (.lst xs)):SqL K H a xs:= .inl (.inl h)
theorem Inv.list(I:Inv X pins σ H s)(h:SqL X.K H a xs): ∃b6:List Value,Vals xs b6/\PlainL s.heap a b6.toArray/\xs.length<=sizeLine:=by
 rcases h with h|⟨o,b6,n,hk,hc,hd,hs,hz,r⟩
 ·obtain⟨z,b6,n,r,e⟩:=h.ok I.hok;exact⟨b6,r,⟨_,n,e,rfl,rfl,rfl⟩,z⟩
 ·refine⟨b6.toList,r,⟨o,n,I.kIn a o hk,hc,hd,by simpa using hs⟩,?_⟩;have e:=r.length;simp only[sH] at e;omega
theorem Inv.tuple(I:Inv X pins σ H s)(h:SqT X.K H a xs): ∃b6:List Value,Vals xs b6/\IsTup s.heap a b6.toArray/\xs.length<=sizeLine:=by
 rcases h with h|⟨o,b6,n,hk,hc,hs,hz,r⟩
 ·obtain⟨z,b6,r,p⟩:=h.ok I.hok;exact⟨b6,r,p,z⟩
 ·refine⟨b6.toList,r,⟨o,I.kIn a o hk,hc,n,by simpa using hs⟩,?_⟩;have e:=r.length;simp only[sH] at e;omega
theorem Inv.list_inj(I:Inv X pins σ H s)(h:SqL X.K H a xs)(h':SqL X.K H a ys):xs=ys:=by
 obtain⟨b6,r,⟨o,n,e,_,_,d⟩,_⟩:=I.list h;obtain⟨its',r',⟨o',n',e',_,_,d'⟩,_⟩:=I.list h';rw[e] at e';cases e';rw[d] at d';injection d' with d1 _
 have:b6=its':=by simpa using lS Array.toList d1
 subst this;exact r.inj r'
theorem Inv.tuple_inj(I:Inv X pins σ H s)(h:SqT X.K H a xs)(h':SqT X.K H a ys):xs=ys:=by
 obtain⟨b6,r,⟨o,e,_,n,d⟩,_⟩:=I.tuple h;obtain⟨its',r',⟨o',e',_,n',d'⟩,_⟩:=I.tuple h';rw[e] at e';cases e';rw[d] at d';injection d' with d1 _
 have:b6=its':=by simpa using lS Array.toList d1
 subst this;exact r.inj r'
end
abbrev Cx.wish(X:Cx)(E:gw):Cx:={X with xe:=E}
abbrev Cx.nox(X:Cx):Cx:=X.wish fun _ _=>False
theorem Cx.Ok.wish{X:Cx}(ok:X.Ok)(E:gw):(X.wish E).Ok:=
 ⟨ok.mod,ok.kind,ok.glob,ok.blt,ok.above,ok.inj,ok.has,ok.cab,ok.hd,ok.frames,ok.stk,ok.exf,ok.bs,ok.bsz,ok.noex,ok.exfs,ok.funs,ok.frf⟩
theorem Cx.Ok.unwish{X:Cx}{E:gw}(ok:(X.wish E).Ok):X.Ok:=
 ⟨ok.mod,ok.kind,ok.glob,ok.blt,ok.above,ok.inj,ok.has,ok.cab,ok.hd,ok.frames,ok.stk,ok.exf,ok.bs,ok.bsz,ok.noex,ok.exfs,ok.funs,ok.frf⟩
section
variable {X:Cx}{pins:gq}{σ:St}{H:Hp}{s:fQ}{E:gw}
theorem Inv.wish(I:Inv X pins σ H s)(E:gw):Inv (X.wish E) pins σ H s:=⟨I.ok.wish E,I.os,I.bare,I.base,I.loc,I.cell,I.free,I.freeC,I.pin,I.hok,I.len⟩
theorem Inv.unwish(I:Inv (X.wish E) pins σ H s):Inv X pins σ H s:=⟨I.ok.unwish,I.os,I.bare,I.base,I.loc,I.cell,I.free,I.freeC,I.pin,I.hok,I.len⟩
theorem SP.unwish{D:Ends}{f:Flow}{s':fQ}(h:SP (X.wish E) pins D f s'):SP X pins D f s':=by
 cases f with
 |next=>obtain⟨σ',H',I,q⟩:=h;exact⟨σ',H',I.unwish,q⟩
 |brk=>obtain⟨σ',H',I,q⟩:=h;exact⟨σ',H',I.unwish,q⟩
 |cont=>obtain⟨σ',H',I,q⟩:=h;exact⟨σ',H',I.unwish,q⟩
 |ret u=>obtain⟨v,σ',H',I,r,q⟩:=h;exact⟨v,σ',H',I.unwish,r,q⟩
theorem PSs.nox{st:List Stmt}{t:TS}(h:PSs X.nox st t):PSs X st t:=fun pins s σ H D I hw=>
 ky (h pins s σ H D (I.wish _) hw) (fun _ _ q=>q.unwish) fun _ _ z=>False.elim z
end
section
variable {X:Cx}{st:Stmt}{gE:List Stmt}{t u:TS}{e:fV}{te:TE}{pos:Pos}
noncomputable def Iu:TS:=fun D σ H=>D.nx σ H
noncomputable def JP(t u:TS):TS:=fun D σ H=>t {D with nx:=u D} σ H
theorem zV:PSs X [] Iu:=fun _ _ σ H _ I h=>uy ⟨σ,H,I,h⟩
theorem lu(h1:PS X st t)(h2:PSs X gE u):PSs X (st::gE) (JP t u):=by
 intro pins s σ H D I h;refine wpAny_execs_cons (thn (h1 pins s σ H {D with nx:=u D} I h) fun f s1 q=>?_)
 cases f with
 |next=>
  obtain⟨σ',H',I',q⟩:=q;exact h2 pins s1 σ' H' D I' q
 |ret v=>exact q
 |brk=>exact q
 |cont=>exact q
theorem Inv.quiet{pins:gq}{σ:St}{H:Hp}{s:fQ}(I:Inv X pins σ H s):interactive X.env=false:=by simp[interactive,I.ok.kind]
noncomputable def Iw(te:TE):TS:=fun D σ H=>te σ H fun _ H1=>D.nx σ H1
theorem zW(he:PE X e te)(hs:swapsWith e none pos.line X.env=pure false:=by rfl):PS X (.Expr e pos) (Iw te):=by
 intro pins s σ H D I h;exact wpAny_Expr_any (thn (he pins s σ H _ I h) fun v s1 ⟨x,H1,I1,r1,q1⟩=>⟨σ,H1,I1,q1⟩) I.quiet hs
noncomputable def JQ(te:TE):TS:=fun D σ H=>te σ H D.rt
theorem CU(he:PE X e te):PS X (.Return (some e) pos) (JQ te):=by
 intro pins s σ H D I h;exact wpAny_Return_some (thn (he pins s σ H _ I h) fun v s1 ⟨x,H1,I1,r1,q1⟩=>⟨x,σ,H1,I1,r1,q1⟩)
noncomputable def JU(c:TT)(t u:TS):TS:=fun D σ H=>c σ H fun b H1=>if b=true then t D σ H1 else u D σ H1
theorem F4{c:fV}{a b:List Stmt}{tc:TT}(hc:PT X c tc)(ha:PSs X a t)(hb:PSs X b u):PS X (.If c a b pos) (JU tc t u):=by
 intro pins s σ H D I h;refine wpAny_If (thn (hc pins s σ H _ I h) fun d s1 ⟨H1,I1,q1⟩=>?_)
 cases d with
 |true=>exact ha pins s1 σ H1 D I1 q1
 |false=>exact hb pins s1 σ H1 D I1 q1
end
abbrev TG:=V->St->Hp->(St->Hp->Prop)->Prop
abbrev TGs:=List V->St->Hp->(St->Hp->Prop)->Prop
def PG(X:Cx)(target:fV)(t:TG):Prop:=
 ∀(pins:gq) (s:fQ) (σ:St) (H:Hp) (v:V) (u:fW) (Q:St->Hp->Prop),Inv X pins σ H s->RelV v u->t v σ H Q->
  wpAny (model X.prog X.w) X.A (assign target X.env u) (fun _ s'=> ∃σ' H',Inv X pins σ' H' s'/\Q σ' H') X.xe s
def PGs(X:Cx)(ts:gX)(t:TGs):Prop:=
 ∀(pins:gq) (s:fQ) (σ:St) (H:Hp) (vs:List V) (us:gJ) (Q:St->Hp->Prop),Inv X pins σ H s->Vals vs us->t vs σ H Q->
  wpAny (model X.prog X.w) X.A (assignInOrder ((assignEach ts X.env).map (·.2)) us) (fun _ s'=> ∃σ' H',Inv X pins σ' H' s'/\Q σ' H') X.xe s
abbrev H9:=V->V->V->Hp->(Hp->Prop)->Prop
def Jp(X:Cx)(t:H9):Prop:=
 ∀(pins:gq) (s:fQ) (σ:St) (H:Hp) (o i v:V) (ov iv u:fW) (Q:Hp->Prop),Inv X pins σ H s->RelV o ov->RelV i iv->RelV v u->t o i v H Q->
  wpAny (model X.prog X.w) X.A (setItem ov iv u) (fun _ s'=> ∃H',Inv X pins σ H' s'/\Q H') X.xe s
section
variable {X:Cx}{pos:Pos}
noncomputable def wJ(i:Nat):TG:=fun v σ H Q=>Q (σ.set i (some v)) H
theorem zY{i:Nat}{x:Str}(hN:X.N.Nodup)(hi:X.N[i]?=some x)(hx:Loc X.env.scope x)(hf:X.fn x=true\/X.env.scope.names.lookup x=some .local:=by first|exact .inl rfl|exact .inr rfl|assumption):PG X (.Name x pos) (wJ i):=by
 intro pins s σ H v u Q I r h;exact wpAny_assign_Name (mx I hN hi hx r (fun s' I'=>⟨_,H,I',h⟩) hf)
noncomputable def KY:TGs:=fun vs σ H Q=>vs=[]/\Q σ H
def Ji(t:TG)(u:TGs):TGs:=fun vs σ H Q=> ∃v r,vs=v::r/\t v σ H fun σ' H'=>u r σ' H' Q
theorem EW:PGs X [] KY:=by
 intro pins s σ H vs us Q I r h;obtain⟨e,h⟩:=h;subst e;cases r;exact assignInOrder_nil ⟨σ,H,I,h⟩
theorem C8{e:fV}{es:gX}{t:TG}{u:TGs}(h1:PG X e t)(h2:PGs X es u)
  (hs:(assignEach (e::es) X.env).map (·.2)=assign e X.env::(assignEach es X.env).map (·.2):=by rfl):PGs X (e::es) (Ji t u):=by
 intro pins s σ H vs us Q I r h;obtain⟨v,vr,e1,h⟩:=h;subst e1
 cases r with
 |cons r rr=>
  rw[hs];refine yn (thn (h1 pins s σ H _ _ _ I r h) fun _ s1 ⟨σ1,H1,I1,q1⟩=>?_);exact h2 pins s1 σ1 H1 _ _ Q I1 rr q1
def KW(K:fX)(n:Nat)(t:TGs):TG:=fun v σ H Q=> ∃a xs,v= .ref a/\SqT K H a xs/\xs.length=n/\t xs σ H Q
theorem Hc{es:gX}{k:Nat}{t:TGs}{n:Nat}(hc:X.calm=true)(h:PGs X es t)
  (hn:(assignEach es X.env).length=n:=by rfl)(x8:(assignEach es X.env).findIdx? (·.1)=none:=by rfl):PG X (.Tuple es k pos) (KW X.K n t):=by
 intro pins s σ H v u Q I r hw;obtain⟨a,xs,e1,hq,hl,hw⟩:=hw;subst e1;cases r;obtain⟨b6,rv,ht,hz⟩:=I.tuple hq;refine assign_Tuple_tuple (I.ok.hd hc) ht (by simp[hn,<-hl,rv.length]) x8 fun h' hx=>?_;have I1:Inv X pins σ H {s with heap:=h'}:=I.kept (t':=s.toks) fun b o e=>hx b o (ig (gZ e)) e;exact h pins _ σ H xs _ Q I1 (by simpa using rv) hw
noncomputable def gSub(to ti:TE)(t:H9):TG:=fun v σ H Q=>to σ H fun o H1=>ti σ H1 fun i H2=>t o i v H2 fun H3=>Q σ H3
theorem Hd{o i:fV}{to ti:TE}{t:H9}(ho:PE X o to)(hi:PE X i ti)(hs:Jp X t)
  (ha: ∀v,assign (.Subscript o i pos) X.env v=(do
   let ov <-holding [v] (eval o X.env)
   let iv <-holding [v,ov] (eval i X.env)
   standAt pos
   holding [v,ov,iv] (setItem ov iv v)
   release [v,ov,iv] []):=by intro _;rfl):PG X (.Subscript o i pos) (gSub to ti t):=by
 intro pins s σ H v u Q I r h;rw[ha];refine fU (nA (thn (ho pins s σ H _ I h) fun ov s1 ⟨x,H1,I1,r1,q1⟩=>?_));refine fU (nA (thn (hi pins s1 σ H1 _ I1 q1) fun iv s2 ⟨y,H2,I2,r2,q2⟩=>?_));refine fU (sG (fU (nA (thn (hs pins s2 σ H2 x y v ov iv u _ I2 r1 r2 r q2) fun _ s3 ⟨H3,I3,q3⟩=>?_))));exact wpAny_release ⟨σ,H3,I3,q3⟩
noncomputable def Gw(te:TE)(g:TG):TS:=fun D σ H=>te σ H fun x H1=>g x σ H1 D.nx
theorem G8{tg e:fV}{te:TE}{g:TG}(he:PE X e te)(hg:PG X tg g)(hs:swapsWithSole [tg] e pos.line X.env=pure false:=by rfl)(hw:swappedStores [tg] e X.env=pure none:=by rfl)
  (h1:(assignEach [tg] X.env).map (·.2)=[assign tg X.env]:=by rfl):PS X (.Assign [tg] e pos) (Gw te g):=by
 intro pins s σ H D I h;refine wpAny_Assign_stores (thn (he pins s σ H _ I h) fun v s1 ⟨x,H1,I1,r1,q1⟩=>?_) hs hw;rw[h1];exact thn (hg pins s1 σ H1 x v _ I1 r1 q1) fun _ s2 q=>q
theorem CS{i:Nat}{x:Str}{e:fV}{te:TE}{pos':Pos}(hN:X.N.Nodup)(hi:X.N[i]?=some x)(hx:Loc X.env.scope x)(he:PE X e te)(hs:swapsWith e (some (.Name x pos')) pos.line X.env=pure false:=by rfl)(hf:X.fn x=true\/X.env.scope.names.lookup x=some .local:=by first|exact .inl rfl|exact .inr rfl|assumption):
  PS X (.Assign [.Name x pos'] e pos) (Gw te (wJ i)):=by
 intro pins s σ H D I h;refine wpAny_Assign_Name (thn (he pins s σ H _ I h) fun v s1 ⟨y,H1,I1,r1,q1⟩=>?_) hs;exact mx I1 hN hi hx r1 (fun s2 I2=>⟨_,H1,I2,q1⟩) hf
def JR(i j:Nat)(ta:TA):TS:=fun D σ H=>ta σ H fun vs H1=> ∃v w,vs=[v,w]/\D.nx ((σ.set i (some v)).set j (some w)) H1
theorem G6{i j:Nat}{x y:Str}{a b:fV}{ta:TA}{px py pt:Pos}{kt k2 aK}(hc:X.calm=true)(hN:X.N.Nodup)(hi:X.N[i]?=some x)(hj:X.N[j]?=some y)(l8:i≠j)
  (hx:X.env.scope.names.lookup x=some .local)(hy:X.env.scope.names.lookup y=some .local)(ha:PA X [a,b] ta)
  (hw:swappedStores [.Tuple [.Name x px,.Name y py] kt pt] (.Tuple [a,b] k2 aK) X.env=pure (some [x,y]))
  (hs:swapsWithSole [.Tuple [.Name x px,.Name y py] kt pt] (.Tuple [a,b] k2 aK) pos.line X.env=pure false:=by rfl):
  PS X (.Assign [.Tuple [.Name x px,.Name y py] kt pt] (.Tuple [a,b] k2 aK) pos) (JR i j ta):=by
 intro pins s σ H D I h;rw[exec_Assign_arm];refine fU (sG ?_);rw[hs];refine fU (gv ?_);rw[gk (by decide)];refine fU (Tuple_ (thn (ha _ pins s σ H _ I h) fun us s1 ⟨vs,H1,I1,r1,q1⟩=>?_));obtain⟨v,w,e1,q1⟩:=q1;subst e1
 obtain⟨u1,u2,rfl,rv,aJ⟩: ∃u1 u2,us=[u1,u2]/\RelV v u1/\RelV w u2:=by
  cases r1 with
  |cons p q=>
   cases q with
   |cons p' q'=>
    cases q';exact⟨_,_,rfl,p,p'⟩
 refine ny ?_ (by show 2<=sizeLine;decide);have I2:Inv X pins σ H1 {s1 with heap:=s1.heap.push {cls:= .type "tuple",data:= .seq [u1,u2].toArray}}:=I1.kept (t':=s1.toks) fun b o e=>hW _ e;rw[hw];refine fU (gv ?_);show wpAny (model X.prog X.w) X.A (do rule "assign.swapped-stores";let items <-unpackItems (.ref s1.heap.objs.size) 2 none;assignInOrder [fun v=>bindName X.env y v,fun v=>bindName X.env x v] items.reverse;pure Flow.next) _ _ _
 refine fU (pD (fU (unpackItems_tuple (items:= #[u1,u2]) (I.ok.hd hc) (qF s1.heap _) fun h' eF=>?_)));have I3:=I2.kept (h':=h') (t':=s1.toks) fun b o e=>eF b o (ig (gZ e)) e;show wpAny _ _ (assignInOrder [fun v=>bindName X.env y v,fun v=>bindName X.env x v] [u2,u1]>>=fun _=>pure Flow.next) _ _ _;refine fU (yn (ym (mx I3 hN hj (.inl hy) aJ (fun s2 I4=>?_) (.inr hy))));refine yn (ym (mx I4 hN hi (.inl hx) rv (fun s3 I5=>assignInOrder_nil (gv ?_)) (.inr hx)));rw[List.set_comm _ _ (ll l8)] at I5;exact⟨_,H1,I5,q1⟩
end
structure It where
 go:Nat->Hp->Prop
 yld:Nat->Hp->V->Hp->Prop
 stop:Nat->Hp->Prop
def mK(X:Cx)(pins:gq)(H:Hp)(b:fM):Prop:=
 H b=none/\b≠X.env.locals/\b∉X.fs/\(b∈X.ex\/X.s₀.heap.objs.size<=b)/\(∀x c,X.env.cells.lookup x=some c->c≠b)/\ ∀p∈X.pn++pins,p.1≠b
theorem Inv.fpOk{X:Cx}{pins:gq}{σ:St}{H H':Hp}{s:fQ}{b:fM}(I:Inv X pins σ H s)(hb:s.heap.objs.size<=b)(hn:H' b=none):mK X pins H' b:=by
 refine⟨hn,kx (jS I.lt hb),I.nofs hb,.inr (lT I.sz hb),fun x c e z=>?_,fun p hp z=>?_⟩
 ·obtain⟨v,q⟩:=I.cell x c e;exact absurd (jS q.lt (by rw[z];exact hb)) (mn _)
 ·exact absurd (jS (gZ (I.pin p hp).1) (by rw[z];exact hb)) (mn _)
structure Turn(P:gi)(w:gd)(K:fX)(tg:fV)(J:It)(fp:ic)(it:fM)(tn:Nat->Heap->Prop):Prop where
 mem:it∈fp
 obj: ∀i h,tn i h-> ∀b∈fp,∃o,h.get? b=some o/\ ∀v,o.data≠ .cell v
 keep: ∀i h h',tn i h->(∀b∈fp,∀o,h.get? b=some o->h'.get? b=some o)->tn i h'
 item: ∀(X:Cx),X.prog=P->X.w=w->X.K=K->X.calm=true-> ∀(i:Nat) (pins:gq) (s:fQ) (σ:St) (H:Hp) (E:gw),Inv X pins σ H s->(∀b∈fp,mK X pins H b)->tn i s.heap->J.go i H->
  wpAny (model P w) X.A (pyNext (.ref it)) (fun r s1=> ∃u,r=some u/\
   wpAny (model P w) X.A (letOwnedTupleGo tg (.ref it) u) (fun _ s2=> ∃x H',Inv X pins σ H' s2/\RelV x u/\J.yld i H x H'/\tn (i+1) s2.heap/\ ∀b∈fp,H' b=none) E s1) E s
 done: ∀(X:Cx),X.prog=P->X.w=w->X.K=K->X.calm=true-> ∀(i:Nat) (pins:gq) (s:fQ) (σ:St) (H:Hp) (E:gw),Inv X pins σ H s->(∀b∈fp,mK X pins H b)->tn i s.heap->J.stop i H->
  wpAny (model P w) X.A (pyNext (.ref it)) (fun r s1=>r=none/\Inv X pins σ H s1) E s
 self: ∀(A:gc) (i:Nat) (s:fQ) (Q:gw) (E:gw),tn i s.heap->Q (.ref it) s->wpAny (model P w) A (pyIter (.ref it)) Q E s
abbrev TI:=St->Hp->(It->Hp->Prop)->Prop
def PIE(X:Cx)(pins:gq)(σ:St)(tg:fV)(R:It->Hp->Prop)(de:fW)(s2:fQ):Prop:=
 ∃(it:fM) (fp:ic) (tn:Nat->Heap->Prop) (J:It) (H':Hp),de= .ref it/\Inv X pins σ H' s2/\Turn X.prog X.w X.K tg J fp it tn/\tn 0 s2.heap/\(∀b∈fp,mK X pins H' b)/\R J H'
def PI(X:Cx)(tg iter:fV)(wi:TI):Prop:=
 ∀(pins:gq) (s:fQ) (σ:St) (H:Hp) (R:It->Hp->Prop),Inv X pins σ H s->wi σ H R->
  wpAny (model X.prog X.w) X.A (eval iter X.env) (fun v s1=>wpAny (model X.prog X.w) X.A (pyIter v) (PIE X pins σ tg R) X.xe s1) X.xe s
theorem DA{M:Model}{A:gc}{E:gw}{s:fQ}{tg:fV}{it:fM}{u:fW}{o:Obj}{n:String}{vs:jR}{Q:Unit->Shared->Prop}(ho:s.heap.get? it=some o)(hc:o.cls= .type n)(hd:o.data= .fields vs)
  (hn:["enumerate","zip","dict_itemiterator","dict_reverseitemiterator","odict_iterator","itertools.zip_longest","itertools.pairwise"].contains n=false)(hQ:Q () s):wpAny M A (letOwnedTupleGo tg (.ref it) u) Q E s:=by
 unfold letOwnedTupleGo
 cases tg<;>first
  |exact gv hQ
  |(cases u<;>first
    |exact gv hQ
    |(
      refine fU (wpAny_load ho ?_);rw[hc,hd];show wpAny M A (if(["enumerate","zip","dict_itemiterator","dict_reverseitemiterator","odict_iterator","itertools.zip_longest","itertools.pairwise"].contains n&&vs[0]?==some (rawInt _))=true then _ else _) Q E s;rw[gk (by intro h;rw[hn,Bool.false_and] at h;cases h)];exact gv hQ))
noncomputable def Itl(K:fX)(a:fM):It:=
 ⟨fun i H=> ∃xs x,SqL K H a xs/\xs[i]?=some x,fun i H x H'=>H'=H/\ ∀xs,SqL K H a xs->xs[i]?=some x,fun i H=> ∃xs,SqL K H a xs/\xs.length<=i⟩
noncomputable def Itt(K:fX)(a:fM):It:=
 ⟨fun i H=> ∃xs x,SqT K H a xs/\xs[i]?=some x,fun i H x H'=>H'=H/\ ∀xs,SqT K H a xs->xs[i]?=some x,fun i H=> ∃xs,SqT K H a xs/\xs.length<=i⟩
noncomputable def Itr(lo:Int)(n:Nat):It:=⟨fun i _=>i<n,fun i H x H'=>H'=H/\x= .int (lo+i),fun i _=>n<=i⟩
theorem AI{P:gi}{w:gd}{K:fX}{tg:fV}(a it:fM):Turn P w K tg (Itl K a) [it] it (fun i h=>h.IsListIter it a i) where
 mem:=by simp
 obj:=fun i h st b hb=>by
  have e:b=it:=by simpa using hb
  subst e;obtain⟨o,e,c,d⟩:=st;exact⟨o,e,fun v z=>by rw[d] at z;cases z⟩
 keep:=fun i h h' st k=>st.at fun o e=>k it (by simp) o e
 item:=by
  intro X hP hw hK hc i pins s σ H E I hf st hg;subst hP hw hK;obtain⟨xs,x,hq,hx⟩:=hg;obtain⟨b6,rv,p,hz⟩:=I.list hq;obtain⟨u,hu,ru⟩:=rv.get hx;obtain⟨f0,f1,f2,f3,f4,f5⟩:=hf it (by simp);refine wpAny_pyNext_list_item st p.isList (x:=u) (by simpa using hu) fun h' b7 sb=>?_;have I1:Inv X pins σ H {s with heap:=h'}:=I.turned (t':=s.toks) (fun b o hb e=>(sb.2 b hb).trans e) f0 f1 f3 f4 f5;obtain⟨o,e,c,d⟩:=id b7;exact⟨u,rfl,DA (s:={s with heap:=h'}) e c d (by decide) ⟨x,H,I1,ru,⟨rfl,fun ys hy=>by rw[I.list_inj hy hq];exact hx⟩,b7,fun b hb=>(hf b hb).1⟩⟩
 done:=by
  intro X hP hw hK hc i pins s σ H E I hf st hg;subst hP hw hK;obtain⟨xs,hq,hx⟩:=hg;obtain⟨b6,rv,p,hz⟩:=I.list hq;obtain⟨f0,f1,f2,f3,f4,f5⟩:=hf it (by simp);have hl:=rv.length;exact wpAny_pyNext_list_end (I.ok.hd hc) st p.isList (by simp;omega) fun h' eb=>⟨rfl,I.turned (t':=s.toks) (fun b o hb e=>eb b o hb e) f0 f1 f3 f4 f5⟩
 self:=fun _ _ _ _ _ st h=>wpAny_pyIter_listiter st h
theorem yt{P:gi}{w:gd}{K:fX}{tg:fV}(a it:fM):Turn P w K tg (Itt K a) [it] it (fun i h=>h.IsTupleIter it a i) where
 mem:=by simp
 obj:=fun i h st b hb=>by
  have e:b=it:=by simpa using hb
  subst e;obtain⟨o,e,c,d⟩:=st;exact⟨o,e,fun v z=>by rw[d] at z;cases z⟩
 keep:=fun i h h' st k=>st.at fun o e=>k it (by simp) o e
 item:=by
  intro X hP hw hK hc i pins s σ H E I hf st hg;subst hP hw hK;obtain⟨xs,x,hq,hx⟩:=hg;obtain⟨b6,rv,p,hz⟩:=I.tuple hq;obtain⟨u,hu,ru⟩:=rv.get hx;obtain⟨f0,f1,f2,f3,f4,f5⟩:=hf it (by simp);refine wpAny_pyNext_tuple_item st (show s.heap.IsTuple a b6.toArray from p) (x:=u) (by simpa using hu) fun h' b7 sb=>?_;have I1:Inv X pins σ H {s with heap:=h'}:=I.turned (t':=s.toks) (fun b o hb e=>(sb.2 b hb).trans e) f0 f1 f3 f4 f5;obtain⟨o,e,c,d⟩:=id b7;exact⟨u,rfl,DA (s:={s with heap:=h'}) e c d (by decide) ⟨x,H,I1,ru,⟨rfl,fun ys hy=>by rw[I.tuple_inj hy hq];exact hx⟩,b7,fun b hb=>(hf b hb).1⟩⟩
 done:=by
  intro X hP hw hK hc i pins s σ H E I hf st hg;subst hP hw hK;obtain⟨xs,hq,hx⟩:=hg;obtain⟨b6,rv,p,hz⟩:=I.tuple hq;obtain⟨f0,f1,f2,f3,f4,f5⟩:=hf it (by simp);have hl:=rv.length;exact wpAny_pyNext_tuple_end (I.ok.hd hc) st (show s.heap.IsTuple a b6.toArray from p) (by simp;omega) fun h' eb=>⟨rfl,I.turned (t':=s.toks) (fun b o hb e=>eb b o hb e) f0 f1 f3 f4 f5⟩
 self:=fun _ _ _ _ _ st h=>wpAny_pyIter_tupleiter st h
theorem yu{P:gi}{w:gd}{K:fX}{tg:fV}(it:fM)(lo:Int)(n:Nat):Turn P w K tg (Itr lo n) [it] it (fun i h=>IsRangeIter h it (lo+(i:Nat)*1) ((n:Int)-(i:Nat)) 1) where
 mem:=by simp
 obj:=fun i h st b hb=>by
  have e:b=it:=by simpa using hb
  subst e
  exact⟨_,st,fun v z=>by
   have z':Data.fields _=Data.cell v:=z;cases z'⟩
 keep:=fun i h h' st k=>k it (by simp) _ st
 item:=by
  intro X hP hw hK hc i pins s σ H E I hf st hg;subst hP hw hK;obtain⟨f0,f1,f2,f3,f4,f5⟩:=hf it (by simp);have W:=Walks.range (prog:=X.prog) (w:=X.w) (I.ok.hd hc) it lo 1 n;refine W.item i s _ _ hg st fun v h' tk hv b7 kk=>?_;obtain⟨t,rfl⟩:=hv;have I1:Inv X pins σ H {s with heap:=h',toks:=tk}:=I.turned (fun b o hb e=>kk b o (by simpa using hb) e) f0 f1 f3 f4 f5;refine⟨_,rfl,DA (s:={s with heap:=h',toks:=tk}) (n:="range_iterator") b7 rfl rfl (by decide) ⟨.int (lo+i),H,I1,⟨t,?_⟩,⟨rfl,rfl⟩,b7,fun b hb=>(hf b hb).1⟩⟩;rw[Int.mul_one]
 done:=by
  intro X hP hw hK hc i pins s σ H E I hf st hg;subst hP hw hK;obtain⟨f0,f1,f2,f3,f4,f5⟩:=hf it (by simp);exact wpAny_pyNext_range_end (I.ok.hd hc) st (by have:n<=i:=hg;omega) fun h' eb=>⟨rfl,I.turned (t':=s.toks) (fun b o hb e=>eb b o hb e) f0 f1 f3 f4 f5⟩
 self:=fun _ _ _ _ _ st h=>wpAny_pyIter_rangeiter st h
section
variable {X:Cx}{tg:fV}
def Jf(K:fX)(tl:TE):TI:=fun σ H R=>tl σ H fun x H1=> ∃a,x= .ref a/\(∃xs,SqL K H1 a xs)/\R (Itl K a) H1
def KU(K:fX)(tl:TE):TI:=fun σ H R=>tl σ H fun x H1=> ∃a,x= .ref a/\(∃xs,SqT K H1 a xs)/\R (Itt K a) H1
theorem EU{l:fV}{tl:TE}(hl:PE X l tl):PI X tg l (Jf X.K tl):=by
 intro pins s σ H R I h;refine thn (hl pins s σ H _ I h) fun v s1 ⟨x,H1,I1,r1,q1⟩=>?_;obtain⟨a,e,⟨xs,hq⟩,q⟩:=q1;subst e;cases r1;obtain⟨b6,rv,p,hz⟩:=I1.list hq;refine yk p.isList ?_;refine⟨s1.heap.objs.size,[s1.heap.objs.size],_,_,H1,rfl,I1.kept (t':=s1.toks) fun b o e=>hW _ e,AI a _,⟨_,iY _ rfl,rfl,rfl⟩,fun b hb=>?_,q⟩;have e:b=s1.heap.objs.size:=by simpa using hb
 subst e;exact I1.fpOk (gO _) (I1.hok.fresh (gO _))
theorem Hb{l:fV}{tl:TE}(hl:PE X l tl):PI X tg l (KU X.K tl):=by
 intro pins s σ H R I h;refine thn (hl pins s σ H _ I h) fun v s1 ⟨x,H1,I1,r1,q1⟩=>?_;obtain⟨a,e,⟨xs,hq⟩,q⟩:=q1;subst e;cases r1;obtain⟨b6,rv,p,hz⟩:=I1.tuple hq;refine wpAny_pyIter_tuple (show s1.heap.IsTuple a b6.toArray from p) ?_;refine⟨s1.heap.objs.size,[s1.heap.objs.size],_,_,H1,rfl,I1.kept (t':=s1.toks) fun b o e=>hW _ e,yt a _,⟨_,iY _ rfl,rfl,rfl⟩,fun b hb=>?_,q⟩;have e:b=s1.heap.objs.size:=by simpa using hb
 subst e;exact I1.fpOk (gO _) (I1.hok.fresh (gO _))
theorem wt{pins:gq}{σ:St}{H:Hp}{s:fQ}{R:It->Hp->Prop}{E:gw}{lo hi:Int}{t u v:Tok}{tk:Nat}(I:Inv X pins σ H s)(h1: -(2^62)<=lo)(h2:lo<2^62)(h3: -(2^62)<=hi)(h4:hi<2^62)
  (q:R (Itr lo (hi-lo).toNat) H):wpAny (model X.prog X.w) X.A (pyIter (.ref s.heap.objs.size)) (PIE X pins σ tg R) E {s with heap:=s.heap.push {cls:= .type "range",data:= .fields #[.int lo t,.int hi u,.int 1 v]},toks:=tk}:=by
 refine wpAny_pyIter_range (IsRange.new ..) (small_one h1 h2 h3 h4) ?_;have I1:Inv X pins σ H {s with heap:=s.heap.push {cls:= .type "range",data:= .fields #[.int lo t,.int hi u,.int 1 v]},toks:=tk}:=I.kept fun b o e=>hW _ e
 refine⟨(s.heap.push {cls:= .type "range",data:= .fields #[.int lo t,.int hi u,.int 1 v]}).objs.size,[(s.heap.push {cls:= .type "range",data:= .fields #[.int lo t,.int hi u,.int 1 v]}).objs.size],_,_,H,rfl,
  I1.kept (t':=tk) fun b o e=>hW _ e,yu _ lo (hi-lo).toNat,?_,fun b hb=>?_,q⟩
 ·have e1:lo+((0:Nat):Int)*1=lo:=by simp
  have e2:(((hi-lo).toNat:Nat):Int)-((0:Nat):Int)=Builtin.Range.rangeSize lo hi 1:=by rw[rangeSize_one];split<;>omega
  show IsRangeIter _ _ (lo+((0:Nat):Int)*1) ((((hi-lo).toNat:Nat):Int)-((0:Nat):Int)) 1;rw[e1,e2];exact iY _ rfl
 ·have e:b=(s.heap.push {cls:= .type "range",data:= .fields #[.int lo t,.int hi u,.int 1 v]}).objs.size:=by simpa using hb
  subst e;exact I1.fpOk (gO _) (I1.hok.fresh (gO _))
def Je(ta:TA):TI:=fun σ H R=>ta σ H fun vs H1=> ∃j:Int,vs=[.int j]/\ -(2^62)<=j/\j<2^62/\R (Itr 0 j.toNat) H1
def Jd(ta:TA):TI:=fun σ H R=>ta σ H fun vs H1=> ∃i j:Int,vs=[.int i,.int j]/\(-(2^62)<=i/\i<2^62/\ -(2^62)<=j/\j<2^62)/\R (Itr i (j-i).toNat) H1
theorem A1{a:fV}{ta:TA}{p pos:Pos}(hg:Gl X "range")(hm:X.mg "range"=none)(ha:PA X [a] ta)(hs:starEach [a] X.env=[(false,eval a X.env)]:=by rfl):PI X tg (.Call (.Name "range" p) [a] [] pos) (Je ta):=by
 intro pins s σ H R I h;refine Call_ (nK I hg hm ux (qE (thn (ha pos pins s σ H _ I h) fun us s1 ⟨vs,H1,I1,r1,q1⟩=>?_) hs rfl));obtain⟨j,e,q1,q2,q⟩:=q1;subst e
 cases r1 with
 |cons r rr=>
  cases rr;obtain⟨t,rfl⟩:=r;exact call_range_1 (wt I1 (by omega) (by omega) q1 q2 (by simpa using q))
theorem A0{a b:fV}{ta:TA}{p pos:Pos}(hg:Gl X "range")(hm:X.mg "range"=none)(ha:PA X [a,b] ta)(hs:starEach [a,b] X.env=[(false,eval a X.env),(false,eval b X.env)]:=by rfl)(n9:starEach [b] X.env=[(false,eval b X.env)]:=by rfl):
  PI X tg (.Call (.Name "range" p) [a,b] [] pos) (Jd ta):=by
 intro pins s σ H R I h;refine Call_ (nK I hg hm ux (qE (thn (ha pos pins s σ H _ I h) fun us s1 ⟨vs,H1,I1,r1,q1⟩=>?_) (by rw[hs,n9]) (by rw[n9];rfl)));obtain⟨i,j,e,⟨q1,q2,q3,q4⟩,q⟩:=q1;subst e
 cases r1 with
 |cons r rr=>
  cases rr with
  |cons r' rr=>
   cases rr;obtain⟨t,rfl⟩:=r;obtain⟨t',rfl⟩:=r';exact call_range_2 (wt I1 q1 q2 q3 q4 q)
def JV(wi:TI)(g:TG)(tb:TS):TS:=fun D σ H=>wi σ H fun J H1=> ∃W:Nat->Nat->St->Hp->Prop,(∃m,W 0 m σ H1)/\ ∀i m σ H,W i m σ H->
 (J.stop i H/\D.nx σ H)\/(J.go i H/\ ∃N:St->Hp->Prop,(∀σ' H',N σ' H'-> ∃m',m'<m/\W (i+1) m' σ' H')/\ ∀x H',J.yld i H x H'->g x σ H' fun σ2 H2=>tb {D with nx:=N,ct:=N,bk:=D.nx} σ2 H2)
noncomputable def qZ(fp:ic)(h:fZ):List (Addr×Obj):=fp.filterMap fun b=>(h.get? b).map fun o=>(b,o)
theorem lL{fp:ic}{h:fZ}{b:fM}{o:Obj}(hb:b∈fp)(e:h.get? b=some o):(b,o)∈qZ fp h:=Ib.mpr ⟨b,hb,by rw[e];rfl⟩
theorem A3{fp:ic}{h:fZ}{p:Addr×Obj}(hp:p∈qZ fp h):p.1∈fp/\h.get? p.1=some p.2:=by
 obtain⟨b,hb,e⟩:=Ib.mp hp
 cases q:h.get? b with
 |none=>rw[q] at e;cases e
 |some o=>
  rw[q] at e;have e':(b,o)=p:=iG e;subst e';exact⟨hb,q⟩
theorem Inv.pinned{pins:gq}{σ:St}{H:Hp}{s:fQ}{fp:ic}(I:Inv X pins σ H s)(hf: ∀b∈fp,mK X pins H b)(ho: ∀b∈fp,∃o,s.heap.get? b=some o/\ ∀v,o.data≠ .cell v):Inv X (pins++qZ fp s.heap) σ H s:=
 I.pins_of fun p hp=>(pS.mp hp).elim (fun z=>I.pin p (lj _ z)) fun z=>by
  obtain⟨hb,e⟩:=A3 z;obtain⟨f0,f1,f2,_⟩:=hf p.1 hb;obtain⟨o,e',d⟩:=ho p.1 hb;rw[e] at e';cases e';exact⟨e,f0,f1,f2,d⟩
theorem Inv.unpinned{pins pl:gq}{σ:St}{H:Hp}{s:fQ}(I:Inv X (pins++pl) σ H s):Inv X pins σ H s:=I.pins_of fun p hp=>I.pin p (lj _ (BZ _ hp))
theorem G7{iter:fV}{body:List Stmt}{wi:TI}{g:TG}{tb:TS}{pos:Pos}(hp:PassesOwn (model X.prog X.w) X.A X.env X.xe)(hc:X.calm=true)(hi:PI X tg iter wi)(hg:PG X tg g)(hb:PSs X body tb)
  (hs: ∀x,foldedSetIterable iter X.env x=pure x:=by intro _;rfl):PS X (.For tg iter body [] pos) (JV wi g tb):=by
 intro pins s σ H D I h;refine wpAny_For (thn (hi pins s σ H _ I h) fun v s1 h1=>thn h1 fun de s2 h2=>?_) hs;obtain⟨it,fp,tn,J,H2,e,I2,T,h9,f2,W,⟨m0,w0⟩,turn⟩:=h2;subst e;have aa: ∀{H':Hp},(∀b∈fp,H' b=none)-> ∀b∈fp,mK X pins H' b:=fun hn b hb=>⟨hn b hb,(f2 b hb).2⟩
 refine codeAny_forLoop_any (fun n s'=> ∃i σ' H',Inv X pins σ' H' s'/\tn i s'.heap/\(∀b∈fp,H' b=none)/\W i n σ' H') ?_ m0 ⟨0,σ,H2,I2,h9,fun b hb=>(f2 b hb).1,w0⟩;rintro n s3 ⟨i,σ3,H3,I3,k9,cW,w3⟩;rcases turn i n σ3 H3 w3 with⟨stop,qn⟩|⟨go,N,hN,step⟩
 ·refine qD hp (thn (T.done X rfl rfl rfl hc i pins s3 σ3 H3 X.xe I3 (aa cW) k9 stop) fun r s4 ⟨hr,I4⟩=>?_);subst hr;exact uy ⟨σ3,H3,I4,qn⟩
 ·refine qD hp (thn (T.item X rfl rfl rfl hc i pins s3 σ3 H3 X.xe I3 (aa cW) k9 go) fun r s4 ⟨u,hr,h4⟩=>?_);subst hr;refine qD hp (thn h4 fun _ s5 ⟨x,H5,I5,r5,y5,bt,fE⟩=>?_);have fK:=I5.pinned (aa fE) (T.obj _ _ bt);refine qD hp (thn (hg _ s5 σ3 H5 x u _ fK r5 (step x H5 y5)) fun _ s6 ⟨σ6,H6,I6,q6⟩=>?_);refine qD hp (thn (hb _ s6 σ6 H6 _ I6 q6) fun f s7 q7=>?_)
  have again: ∀{σ7:St} {H7:Hp},Inv X (pins++qZ fp s5.heap) σ7 H7 s7->N σ7 H7-> ∃m,m<n/\ ∃i σ' H',Inv X pins σ' H' s7/\tn i s7.heap/\(∀b∈fp,H' b=none)/\W i m σ' H':=fun {σ7 H7} I7 n7=>by
   obtain⟨m',hm,w7⟩:=hN σ7 H7 n7;refine⟨m',hm,i+1,σ7,H7,I7.unpinned,T.keep _ _ _ bt fun b hb o e=>(I7.pin (b,o) (lj _ (lj _ (lL hb e)))).1,fun b hb=>?_,w7⟩;obtain⟨o,e,d⟩:=T.obj _ _ bt b hb;exact(I7.pin (b,o) (lj _ (lj _ (lL hb e)))).2.1
  cases f with
  |next=>obtain⟨σ7,H7,I7,n7⟩:=q7;exact again I7 n7
  |cont=>obtain⟨σ7,H7,I7,n7⟩:=q7;exact again I7 n7
  |brk=>obtain⟨σ7,H7,I7,q7⟩:=q7;exact⟨σ7,H7,I7.unpinned,q7⟩
  |ret v=>obtain⟨x7,σ7,H7,I7,r7,q7⟩:=q7;exact⟨x7,σ7,H7,I7.unpinned,r7,q7⟩
end
abbrev R2:=V->V->Hp->VK->Prop
def OpR(X:Cx)(f:pe)(r:R2):Prop:=
 ∀(pins:gq) (s:fQ) (σ:St) (H:Hp) (x y:V) (v u:fW) (Q:VK),Inv X pins σ H s->RelV x v->RelV y u->r x y H Q->
  wpAny (model X.prog X.w) X.A (f v u) (EP X pins σ Q) X.xe s
def UnR(X:Cx)(f:Value->Sem Value)(r:V->Hp->VK->Prop):Prop:=
 ∀(pins:gq) (s:fQ) (σ:St) (H:Hp) (x:V) (v:fW) (Q:VK),Inv X pins σ H s->RelV x v->r x H Q->
  wpAny (model X.prog X.w) X.A (f v) (EP X pins σ Q) X.xe s
def iP(X:Cx)(f:fW)(r:List V->Hp->VK->Prop):Prop:=
 ∀(pins:gq) (s:fQ) (σ:St) (H:Hp) (xs:List V) (us:gJ) (Q:VK),Inv X pins σ H s->Vals xs us->r xs H Q->
  wpAny (model X.prog X.w) X.A (call f us) (EP X pins σ Q) X.xe s
noncomputable def tOp(r:R2)(ta tb:TE):TE:=fun σ H Q=>ta σ H fun x H1=>tb σ H1 fun y H2=>r x y H2 Q
def tUn(r:V->Hp->VK->Prop)(ta:TE):TE:=fun σ H Q=>ta σ H fun x H1=>r x H1 Q
def rI(C:Int->Int->Prop)(g:Int->Int->V):R2:=fun x y H Q=> ∃i j,x= .int i/\y= .int j/\C i j/\Q (g i j) H
def rI0(g:Int->Int->V):R2:=fun x y H Q=> ∃i j,x= .int i/\y= .int j/\Q (g i j) H
def rU(g:Int->V):V->Hp->VK->Prop:=fun x H Q=> ∃i,x= .int i/\Q (g i) H
section
variable {X:Cx}{a b c:fV}{ta tb tc:TE}{pos:Pos}
theorem HW(ha:PE X a ta)(hb:PE X b tb){pins:gq}{s:fQ}{σ:St}{H:Hp}{R:V->V->Hp->Prop}(I:Inv X pins σ H s)
  (h:ta σ H fun x H1=>tb σ H1 fun y H2=>R x y H2){Q:gw}{f:pe}
  (hf: ∀v u s2 x y H2,Inv X pins σ H2 s2->RelV x v->RelV y u->R x y H2->wpAny (model X.prog X.w) X.A (f v u) Q X.xe s2):
  wpAny (model X.prog X.w) X.A (eval a X.env) (fun v s₁=>wpAny (model X.prog X.w) X.A (eval b X.env) (fun u s₂=>wpAny (model X.prog X.w) X.A (f v u) Q X.xe s₂) X.xe s₁) X.xe s:=by
 refine thn (ha pins s σ H _ I h) fun v s1 ⟨x,H1,I1,r1,q1⟩=>?_;refine thn (hb pins s1 σ H1 _ I1 q1) fun u s2 ⟨y,H2,I2,r2,q2⟩=>?_;exact hf v u s2 x y H2 I2 r1 r2 q2
theorem IQ{op:Operator}{r:R2}(ho:OpR X (binaryOp op) r)(ha:PE X a ta)(hb:PE X b tb):PE X (.BinOp a op b pos) (tOp r ta tb):=by
 intro pins s σ H Q I h;exact wpAny_BinOp (HW ha hb I h fun v u s2 x y H2 I2 rx ry q=>ho pins s2 σ H2 x y v u Q I2 rx ry q)
theorem IM{op:UnaryOp}{r:V->Hp->VK->Prop}(ho:UnR X (unaryOp op) r)(ha:PE X a ta):PE X (.UnaryOp op a pos) (tUn r ta):=by
 intro pins s σ H Q I h;exact UnaryOp_ (thn (ha pins s σ H _ I h) fun v s1 ⟨x,H1,I1,r1,q1⟩=>ho pins s1 σ H1 x v Q I1 r1 q1)
theorem opI{f:pe}{C:Int->Int->Prop}{g:Int->Int->Int}
  (rule: ∀(i j:Int) (t u:Tok) (s:fQ) (Q:gw) (E:gw),C i j->Q (.int (g i j) s.toks) {s with toks:=s.toks+1}->wpAny (model X.prog X.w) X.A (f (.int i t) (.int j u)) Q E s):
  OpR X f (rI C fun i j=> .int (g i j)):=by
 intro pins s σ H x y v u Q I rx ry h;obtain⟨i,j,rfl,rfl,hc,q⟩:=h;obtain⟨t,rfl⟩:=rx;obtain⟨t',rfl⟩:=ry;exact rule i j t t' s _ _ hc ⟨.int (g i j),H,I.tok _,⟨_,rfl⟩,q⟩
theorem Hy{f:pe}{g:Int->Int->Int}
  (rule: ∀(i j:Int) (t u:Tok) (s:fQ) (Q:gw) (E:gw),Q (.int (g i j) s.toks) {s with toks:=s.toks+1}->wpAny (model X.prog X.w) X.A (f (.int i t) (.int j u)) Q E s):
  OpR X f (rI0 fun i j=> .int (g i j)):=by
 intro pins s σ H x y v u Q I rx ry h;obtain⟨i,j,rfl,rfl,q⟩:=h;obtain⟨t,rfl⟩:=rx;obtain⟨t',rfl⟩:=ry;exact rule i j t t' s _ _ ⟨.int (g i j),H,I.tok _,⟨_,rfl⟩,q⟩
theorem Fe{f:pe}{g:Int->Int->Bool}
  (rule: ∀(i j:Int) (t u:Tok) (s:fQ) (Q:gw) (E:gw),Q (.bool (g i j)) s->wpAny (model X.prog X.w) X.A (f (.int i t) (.int j u)) Q E s):
  OpR X f (rI0 fun i j=> .bl (g i j)):=by
 intro pins s σ H x y v u Q I rx ry h;obtain⟨i,j,rfl,rfl,q⟩:=h;obtain⟨t,rfl⟩:=rx;obtain⟨t',rfl⟩:=ry;exact rule i j t t' s _ _ ⟨.bl (g i j),H,I,rfl,q⟩
def Bl(i j:Int):Prop:=0<j/\j<1073741824
def oO(i j:Int):Prop:=0<=j/\j<=1000000/\i.natAbs<2^64
def CMul(i j:Int):Prop:=(-(2^64)<i/\i<2^64)\/(-(2^64)<j/\j<2^64)
theorem CMul.ok{i j:Int}(h:CMul i j):IntMulOk i j:=by
 rcases h with⟨h1,h2⟩|⟨h1,h2⟩
 ·exact .of_left (intBits_le_64 h1 h2)
 ·exact .of_right (intBits_le_64 h1 h2)
theorem yq(k:Nat):(0:Int)<=2^k:=by
 rw[two_pow_cast];exact Int.natCast_nonneg _
theorem Hx:OpR X (binaryOp .Add) (rI0 fun i j=> .int (i+j)):=Hy fun _ _ _ _ _ _ _ q=>add_int q
theorem Hn:OpR X (binaryOp .Sub) (rI0 fun i j=> .int (i-j)):=Hy fun _ _ _ _ _ _ _ q=>sub_int q
theorem Ht:OpR X (binaryOp .Mult) (rI CMul fun i j=> .int (i*j)):=opI fun _ _ _ _ _ _ _ hc q=>mul_int q hc.ok
theorem Fc:OpR X (binaryOp .FloorDiv) (rI Bl fun i j=> .int (i / j)):=opI fun i j _ _ _ _ _ hc q=>by
 have h1:(0:Int)<j:=hc.1;have h2:j<1073741824:=hc.2;exact floordiv_int (by omega) (by rw[BW i (by omega)];exact q) (.inl (PyProof.noPylong_small (by omega)))
theorem Hu:OpR X (binaryOp .Mod) (rI (fun _ j=>0<j) fun i j=> .int (i%j)):=opI fun i j _ _ _ _ _ hc q=>by
 have h1:(0:Int)<j:=hc;exact mod_int' (by omega) (by rw[Int.fmod_eq_emod_of_nonneg i (by omega)];exact q)
theorem Hr:OpR X (binaryOp .Pow) (rI oO fun i j=> .int (i^j.toNat)):=opI fun _ _ _ _ _ _ _ hc q=>pow_int_small hc.1 hc.2.1 hc.2.2 q
theorem Hq:OpR X (binaryOp .LShift) (rI oO fun i j=> .int (i*2^j.toNat)):=opI fun _ _ _ _ _ _ _ hc q=>lshift_int_small hc.1 hc.2.1 hc.2.2 q
theorem Ho:OpR X (binaryOp .RShift) (rI (fun _ j=>0<=j) fun i j=> .int (i / 2^j.toNat)):=opI fun i j _ _ _ _ _ hc q=>
 rshift_int hc (by rw[BW i (yq _)];exact q)
theorem Hw:OpR X (binaryOp .BitAnd) (rI0 fun i j=> .int (Builtin.bitAnd i j)):=Hy fun _ _ _ _ _ _ _ q=>and_int q
theorem unI{f:Value->Sem Value}{g:Int->Int}
  (rule: ∀(i:Int) (t:Tok) (s:fQ) (Q:gw) (E:gw),Q (.int (g i) s.toks) {s with toks:=s.toks+1}->wpAny (model X.prog X.w) X.A (f (.int i t)) Q E s):
  UnR X f (rU fun i=> .int (g i)):=by
 intro pins s σ H x v Q I rx h;obtain⟨i,rfl,q⟩:=h;obtain⟨t,rfl⟩:=rx;exact rule i t s _ _ ⟨.int (g i),H,I.tok _,⟨_,rfl⟩,q⟩
theorem Gu:UnR X (unaryOp .USub) (rU fun i=> .int (-i)):=unI fun _ _ _ _ _ q=>neg_int q
theorem DI{pins:gq}{σ:St}{H:Hp}{s:fQ}{Q:VK}{k k':Bool}(I:Inv X pins σ H s)(q:Q (.bl k) H)(e:k=k'):EP X pins σ Q (.bool k') s:=by
 subst e;exact⟨.bl k,H,I,rfl,q⟩
theorem IU:OpR X (compareOp .Lt) (rI0 fun i j=> .bl (decide (i<j))):=Fe fun _ _ _ _ _ _ _ q=>lt_int q
theorem IV:OpR X (compareOp .LtE) (rI0 fun i j=> .bl (decide (i<=j))):=Fe fun _ _ _ _ _ _ _ q=>le_int q
theorem IW:OpR X (compareOp .Gt) (rI0 fun i j=> .bl (decide (j<i))):=Fe fun _ _ _ _ _ _ _ q=>gt_int q
theorem IY:OpR X (compareOp .GtE) (rI0 fun i j=> .bl (decide (j<=i))):=Fe fun _ _ _ _ _ _ _ q=>ge_int q
theorem Dl:OpR X (compareOp .Is) (fun x y H Q=>y= .non/\Q (.bl (decide (x= .non))) H):=by
 intro pins s σ H x y v u Q I rx ry h;obtain⟨rfl,q⟩:=h;cases ry;refine is_none_gen (DI I q ?_)
 cases x<;>first
  |(cases rx;rfl)
  |(obtain⟨t,rfl⟩:=rx;rfl)
theorem Dq(b:fV){op:CmpOp}(h:op≠ .In:=by decide)(h2:op≠ .NotIn:=by decide):behindInMarks op b=false:=by
 have e1:(op==CmpOp.In)=false:=by cases op<;>first|rfl|exact absurd rfl h
 have e2:(op==CmpOp.NotIn)=false:=by cases op<;>first|rfl|exact absurd rfl h2
 cases b<;>simp[behindInMarks,e1,e2]
theorem EX{op:CmpOp}{r:R2}(ho:OpR X (compareOp op) r)(ha:PE X a ta)(hb:PE X b tb)(hm:behindInMarks op b=false):PE X (.Compare a [op] [b] pos) (tOp r ta tb):=by
 intro pins s σ H Q I h;exact wpAny_Compare1 (HW ha hb I h fun v u s2 x y H2 I2 rx ry q=>ho pins s2 σ H2 x y v u Q I2 rx ry q) hm
def FZ(t:TE):TT:=fun σ H Q=>t σ H fun x H'=> ∃k,x= .bl k/\Q k H'
theorem EH{op:CmpOp}{r:R2}(ho:OpR X (compareOp op) r)(ha:PE X a ta)(hb:PE X b tb)(hm:behindInMarks op b=false):PT X (.Compare a [op] [b] pos) (FZ (tOp r ta tb)):=by
 intro pins s σ H Q I h
 refine wpAny_isTrue_Compare1 (thn (ha pins s σ H _ I h) fun v s1 ⟨x,H1,I1,r1,q1⟩=>thn (hb pins s1 σ H1 _ I1 q1) fun u s2 ⟨y,H2,I2,r2,q2⟩=>
  thn (ho pins s2 σ H2 x y v u _ I2 r1 r2 q2) fun c s3 ⟨z,H3,I3,r3,k,e,q3⟩=>?_) hm
 subst e;cases r3;exact mm ⟨H3,I3,q3⟩
def yv(r r':R2)(ta tb tc:TE):TE:=fun σ H Q=>ta σ H fun x H1=>tb σ H1 fun y H2=>r x y H2 fun z H3=> ∃k,z= .bl k/\
 (if k=true then tc σ H3 fun w' H4=>r' y w' H4 Q else Q (.bl false) H3)
theorem De{op j8:CmpOp}{r r':R2}(ho:OpR X (compareOp op) r)(ah:OpR X (compareOp j8) r')(ha:PE X a ta)(hb:PE X b tb)(hc:PE X c tc)
  (hm:lastMarks [op,j8] [b,c]=false:=by with_unfolding_all rfl):PE X (.Compare a [op,j8] [b,c] pos) (yv r r' ta tb tc):=by
 intro pins s σ H Q I h
 refine Compare_chain (thn (ha pins s σ H _ I h) fun v s1 ⟨x,H1,I1,r1,q1⟩=>chain_link (thn (hb pins s1 σ H1 _ I1 q1) fun u s2 ⟨y,H2,I2,r2,q2⟩=>
  thn (ho pins s2 σ H2 x y v u _ I2 r1 r2 q2) fun d s3 ⟨z,H3,I3,r3,k,e,q3⟩=>?_)) hm
 subst e;cases r3;refine mm ?_
 cases k with
 |false=>exact ite_ff ⟨.bl false,H3,I3,rfl,q3⟩
 |true=>exact ite_tt (chain_last (thn (hc pins s3 σ H3 _ I3 q3) fun w' s4 ⟨z',H4,I4,r4,q4⟩=>ah pins s4 σ H4 y z' u w' Q I4 r2 r4 q4))
theorem CM{op j8:CmpOp}{r r':R2}(ho:OpR X (compareOp op) r)(ah:OpR X (compareOp j8) r')(ha:PE X a ta)(hb:PE X b tb)(hc:PE X c tc)
  (hm:lastMarks [op,j8] [b,c]=false:=by with_unfolding_all rfl):PT X (.Compare a [op,j8] [b,c] pos) (FZ (yv r r' ta tb tc)):=by
 intro pins s σ H Q I h
 refine isTrue_chain (thn (ha pins s σ H _ I h) fun v s1 ⟨x,H1,I1,r1,q1⟩=>test_link (thn (hb pins s1 σ H1 _ I1 q1) fun u s2 ⟨y,H2,I2,r2,q2⟩=>
  thn (ho pins s2 σ H2 x y v u _ I2 r1 r2 q2) fun d s3 ⟨z,H3,I3,r3,k,e,q3⟩=>?_)) hm
 subst e;cases r3;refine mm ?_
 cases k with
 |false=>
  obtain⟨k',e',q'⟩:=q3;cases e';exact ite_ff ⟨H3,I3,q'⟩
 |true=>
  refine ite_tt (test_last (thn (hc pins s3 σ H3 _ I3 q3) fun w' s4 ⟨z',H4,I4,r4,q4⟩=>thn (ah pins s4 σ H4 y z' u w' _ I4 r2 r4 q4) fun d' s5 ⟨z2,H5,I5,r5,k2,e2,q5⟩=>?_));subst e2;cases r5;exact mm ⟨H5,I5,q5⟩
theorem uY:(sizeLine:Nat)<2^63:=by rw[ml];decide
theorem yL:OpR X (binaryOp .Add) (fun x y H Q=> ∃i j,x= .str i/\y= .str j/\i.length+j.length<=sizeLine/\Q (.str (i++j)) H):=by
 intro pins s σ H x y v u Q I rx ry h;obtain⟨i,j,rfl,rfl,hz,q⟩:=h;obtain⟨t,rfl⟩:=rx;obtain⟨t',rfl⟩:=ry;exact add_str (fun t' tk=>⟨.str (i++j),H,I.tok _,⟨_,rfl⟩,q⟩) hz
theorem pG{x:V}{us:gJ}(r:Vals [x] us): ∃u,us=[u]/\RelV x u:=by
 cases r with
 |cons r1 r2=>cases r2;exact⟨_,rfl,r1⟩
theorem pF{x y:V}{us:gJ}(r:Vals [x,y] us): ∃u w',us=[u,w']/\RelV x u/\RelV y w':=by
 cases r with
 |cons r1 r2=>
  cases r2 with
  |cons r3 r4=>cases r4;exact⟨_,_,rfl,r1,r3⟩
theorem Bj(hc:X.calm=true):iP X (.builtin "max") (fun xs H Q=> ∃i j,xs=[.int i,.int j]/\Q (.int (if j>i then j else i)) H):=by
 intro pins s σ H xs us Q I r h;obtain⟨i,j,rfl,q⟩:=h;obtain⟨u,w',rfl,⟨t,rfl⟩,⟨t',rfl⟩⟩:=pF r;refine max_two_ints (I.ok.hd hc) fun h' tk k=>⟨_,H,I.kept k,?_,q⟩
 by_cases hj:j>i
 ·rw[gh hj,gh hj];exact⟨_,rfl⟩
 ·rw[gk hj,gk hj];exact⟨_,rfl⟩
theorem Bi(hc:X.calm=true):iP X (.builtin "min") (fun xs H Q=> ∃i j,xs=[.int i,.int j]/\Q (.int (if j<i then j else i)) H):=by
 intro pins s σ H xs us Q I r h;obtain⟨i,j,rfl,q⟩:=h;obtain⟨u,w',rfl,⟨t,rfl⟩,⟨t',rfl⟩⟩:=pF r;refine min_two_ints (I.ok.hd hc) fun h' tk k=>⟨_,H,I.kept k,?_,q⟩
 by_cases hj:j<i
 ·rw[gh hj,gh hj];exact⟨_,rfl⟩
 ·rw[gk hj,gk hj];exact⟨_,rfl⟩
theorem tJ:iP X (.type "int") (fun xs H Q=>(∃i,xs=[.int i]/\Q (.int i) H)\/ ∃k,xs=[.bl k]/\Q (.int (if k then 1 else 0)) H):=by
 intro pins s σ H xs us Q I r h;rcases h with⟨i,rfl,q⟩|⟨k,rfl,q⟩
 ·obtain⟨u,rfl,t,rfl⟩:=pG r;exact call_int_int ⟨.int i,H,I,⟨_,rfl⟩,q⟩
 ·obtain⟨u,rfl,r1⟩:=pG r;cases r1;exact call_int_bool ⟨.int (if k then 1 else 0),H,I.tok _,⟨_,rfl⟩,q⟩
end
section
variable {prog:gi}{w:gd}{A:gc}{E:gw}{s:fQ}{K:fX}{x dx C f:fM}{mA:iF}{name:Str}{v:fW}
end
section
variable {P:gi}{w:gd}{H H':Hp}{h h':fZ}{a C dx:fM}{fs fs':List (Str×V)}
end
section
variable {X:Cx}{pins:gq}{σ:St}{H:Hp}{s:fQ}{a C dx:fM}{fs:List (Str×V)}{f:Str}{v:V}{A:gc}{E:gw}
end
section
variable {X:Cx}{o e value:fV}{f:Str}{pos pos' o6:Pos}{ta tv:TE}
end
section
variable {X:Cx}{pins:gq}{σ:St}{H:Hp}{s:fQ}{A:gc}{E:gw}{Q:gw}{c:fW}{b:Bool}
end
structure Room(k:Nat)(A:gc):Prop where
 hd:A.handled=none
 dp:A.depth+3*k+5<recursionLimit
 un:A.units+16*k+200<cLine
theorem Room.mono{j k:Nat}{A:gc}(r:Room k A)(h:j<=k):Room j A:=⟨r.hd,by have:=r.dp;omega,by have:=r.un;omega⟩
theorem Room.deeper{k:Nat}{A:gc}(r:Room (k+1) A)(env:Env):Room k (A.deeper env):=
 ⟨r.hd,by have:=r.dp;show A.depth+1+3*k+5<_;omega,by have:=r.un;show A.units+3+16*k+200<_;omega⟩
theorem Room.depth{k:Nat}{A:gc}(r:Room k A):A.depth<recursionLimit:=by have:=r.dp;omega
noncomputable def JS:TA:=fun _ H Q=>Q [] H
noncomputable def Iy(ta:TE)(tr:TA):TA:=fun σ H Q=>ta σ H fun x H1=>tr σ H1 fun xs H2=>Q (x::xs) H2
section
variable {X:Cx}{e:fV}{es:gX}{te:TE}{t:TA}{pos:Pos}
theorem lK:PA X [] JS:=fun _ _ _ _ H Q I h=>yj ⟨[],H,I,.nil,h⟩
theorem jg(ha:PE X e te)(hr:PA X es t)(hs:starEach (e::es) X.env=(false,eval e X.env)::starEach es X.env:=by rfl):PA X (e::es) (Iy te t):=by
 intro pos pins s σ H Q I h;rw[hs];show wpAny _ _ (spliced ((false,eval e X.env)::backTo pos (starEach es X.env))) _ _ s;refine yi (thn (ha pins s σ H _ I h) fun u s1 ⟨x,H1,I1,r1,q1⟩=>?_);exact thn (hr pos pins s1 σ H1 _ I1 q1) fun us s2 ⟨xs,H2,I2,r2,q2⟩=>⟨x::xs,H2,I2,.cons r1 r2,q2⟩
noncomputable def JO(t:TA):TE:=fun σ H Q=>t σ H fun xs H1=>xs.length<=sizeLine/\ ∀p,H1 p=none->Q (.ref p) (upd H1 p (.tup xs))
noncomputable def JT(t:TA):TE:=fun σ H Q=>t σ H fun xs H1=>xs.length<=sizeLine/\ ∀p,H1 p=none->Q (.ref p) (upd H1 p (.lst xs))
theorem C9{x1}(h:PA X es t):PE X (.Tuple es x1 pos) (JO t):=by
 intro pins s σ H Q I hq;refine wpAny_Tuple_spliced (thn (h pos pins s σ H _ I hq) fun us s1 ⟨xs,H1,I1,r,z,q⟩=>⟨by rw[<-r.length];exact z,?_⟩);have hf:H1 s1.heap.objs.size=none:=I1.hok.fresh (gO _);refine⟨.ref s1.heap.objs.size,upd H1 s1.heap.objs.size (.tup xs),I1.laid (t':=s1.toks) (fun b u e=>hW _ e) (gO _) ?_,rfl,q _ hf⟩;exact⟨z,us,r,⟨_,iY _ rfl,rfl,_,rfl⟩⟩
theorem Hj(h:PA X es t):PE X (.List es pos) (JT t):=by
 intro pins s σ H Q I hq;refine wpAny_List_spliced (thn (h pos pins s σ H _ I hq) fun us s1 ⟨xs,H1,I1,r,z,q⟩=>⟨by rw[<-r.length];exact z,?_⟩);have hf:H1 s1.heap.objs.size=none:=I1.hok.fresh (gO _);refine⟨.ref s1.heap.objs.size,upd H1 s1.heap.objs.size (.lst xs),I1.laid (t':=s1.toks) (fun b u e=>hW _ e) (gO _) ?_,rfl,q _ hf⟩;exact⟨z,us,0,r,iY _ rfl⟩
end
abbrev Sp:=List V->Hp->VK->XK->Prop
abbrev CXT:=List Env->Hp->Shared->XK->Value->Shared->Prop
structure Env0(P:gi)(w:gd)(K:fX)(mg:iF)(base:fZ)(A:gc)(outer:List Env)(s:fQ)(H:Hp):Prop where
 frames:A.frames=some outer
 mod:Mod K mg base
 bs: ∀b o,base.get? b=some o->s.heap.get? b=some o/\H b=none
 bsz:base.objs.size<=s.heap.objs.size
 funs:s.heap.FunFrames base outer
 frf: ∀b∈frs outer,H b=none
 hok:HOk P w H s.heap
 bare:AllBare s.gens
def CE(outer:List Env)(P:gi)(w:gd)(H:Hp)(s:fQ)(Q:VK)(u:fW)(s':fQ):Prop:=
 ∃v H',s'.os=s.os/\AllBare s'.gens/\Un (frs outer) [] H H' s.heap s'.heap/\HOk P w H' s'.heap/\RelV v u/\Q v H'
def CR(CX:CXT)(outer:List Env)(P:gi)(w:gd)(H:Hp)(s:fQ)(Q:VK)(E:XK)(r:Result)(s':fQ):Prop:=
 match r with
 | .ok (.ret u)=>CE outer P w H s Q u s'
 | .ok _=>False
 | .error e=>CX outer H s E e s'
structure FnOk(P:gi)(w:gd)(K:fX)(mg:iF)(base:fZ)(CX:CXT)(k:Nat)(f:fM)(fd:jq)(ps:gf)(sp:Sp):Prop where
 len: ∀vs H Q E,sp vs H Q E->vs.length=ps.length
 run: ∀(A:gc) (outer:List Env) (s:fQ) (H:Hp) (args:Args) (us:gJ) (vs:List V) (Q:VK) (E:XK),Room k A->Env0 P w K mg base A outer s H->BindsTo s fd args (ps.zip us)->Vals vs us->sp vs H Q E->
  codeAny (model P w) A (.call (.ref f) args) (CR CX outer P w H s Q E) s
theorem FnOk.mono{P:gi}{w:gd}{K:fX}{mg:iF}{base:fZ}{CX:CXT}{j k:Nat}{f:fM}{fd:jq}{ps:gf}{sp:Sp}(F:FnOk P w K mg base CX j f fd ps sp)(h:j<=k):
  FnOk P w K mg base CX k f fd ps sp:=⟨F.len,fun A outer s H args us vs Q E hr=>F.run A outer s H args us vs Q E (hr.mono h)⟩
section
variable {X:Cx}{pins:gq}{σ:St}{H:Hp}{s s':fQ}
theorem Inv.env0(I:Inv X pins σ H s):Env0 X.prog X.w X.K X.mg X.base X.A X.stack s H:=
 ⟨I.ok.frames,I.ok.mod,I.bs,lT I.ok.bsz I.sz,I.stack,I.stkFree,I.hok,I.bare⟩
theorem Inv.after{Q:VK}{u:fW}(I:Inv X pins σ H s)(h:CE X.stack X.prog X.w H s Q u s'):EP X pins σ Q u s':=by
 obtain⟨v,H',os,bare,un,hok,r,q⟩:=h;obtain⟨hh,g,d,t,os'⟩:=s';obtain rfl:os'=s.os:=os;exact⟨v,H',I.call (h':=hh) (g':=g) (d':=d) (t':=t) (ch:=[]) un hok bare (fun b z=>absurd z (by simp)),r,q⟩
end
noncomputable def F1(sp:Sp)(bW:List V)(E:XK)(t:TA):TE:=fun σ H Q=>t σ H fun vs H1=>sp (vs++bW) H1 Q E
def Binds(K:fX)(fd:jq)(ps:gf)(ds:gJ):Prop:=
 ∀(s:fQ) (us:gJ),K.In s.heap->(us++ds).length=ps.length->BindsTo s fd ⟨us,[]⟩ (ps.zip (us++ds))
theorem Binds.all{K:fX}{fd:jq}{ps:gf}(h: ∀us:List Value,us.length=ps.length->bindArgs fd ⟨us,[]⟩=pure (ps.zip us)):Binds K fd ps []:=fun s us _ hl=>by
 rw[pB] at hl ⊢;exact .of_eq (h us hl)
def vG(CX:CXT)(X:Cx)(E:XK):Prop:= ∀(pins:gq) (σ:St) (H:Hp) (s:fQ) (e:fW) (s':fQ),Inv X pins σ H s->CX X.stack H s E e s'->X.xe e s'
section
variable {X:Cx}{CX:CXT}{k:Nat}{f C:fM}{fd:jq}{ps:gf}{sp:Sp}{bW:List V}{ds:gJ}{E:XK}{x m:Str}{p pos apos:Pos}{e o:fV}{es:gX}{ta:TE}{t:TA}
theorem CA{pins:gq}{σ:St}{H:Hp}{s:fQ}{Q:VK}{us:gJ}{vs:List V}(F:FnOk X.prog X.w X.K X.mg X.base CX k f fd ps sp)(hr:Room k X.A)(hb:Binds X.K fd ps ds)(hd:Vals bW ds)(hx:vG CX X E)
  (I:Inv X pins σ H s)(r:Vals vs us)(h:sp (vs++bW) H Q E):wpAny (model X.prog X.w) X.A (call (.ref f) us) (EP X pins σ Q) X.xe s:=by
 have r2:Vals (vs++bW) (us++ds):=r.append hd;have hl:(us++ds).length=ps.length:=by rw[<-r2.length];exact F.len _ _ _ _ h
 refine uw (pA (F.run X.A X.stack s H ⟨us,[]⟩ (us++ds) (vs++bW) Q E hr I.env0 (hb s us I.kIn hl) r2 h) fun r s' hq=>?_)
 cases r with
 |error e=>exact hx pins σ H s e s' I hq
 |ok fl=>
  cases fl with
  |ret u=>exact I.after hq
  |next=>exact False.elim hq
  |brk=>exact False.elim hq
  |cont=>exact False.elim hq
theorem Aa(F:FnOk X.prog X.w X.K X.mg X.base CX k f fd ps sp)(hr:Room k X.A)(hg:Gl X x)(hm:X.mg x=some (.ref f))(hk:PySem.W.keepIn X.K (.ref f)=true)(hb:Binds X.K fd ps ds)(hd:Vals bW ds)(hx:vG CX X E)
  (ha:PA X (e::es) t)(j4:(x==("__debug__":Str))=false:=by decide)(he:starEach (e::es) X.env=(false,eval e X.env)::starEach es X.env:=by rfl)(i3:(backTo pos (starEach es X.env)).any (·.1)=false:=by rfl):
  PE X (.Call (.Name x p) (e::es) [] pos) (F1 sp bW E t):=by
 intro pins s σ H Q I h;refine qr (mY I hg hm ?_ j4);refine PySem.W.callWith_K (h₀:=X.base) I.ok.mod.kin hk (thn (ha pos pins s σ H _ I h) fun us s1 ⟨vs,H1,I1,r,q⟩=>⟨I1.kIn,?_⟩) he i3;exact CA F hr hb hd hx I1 r q
end
section
variable {X:Cx}{CX:CXT}{k:Nat}{f C:fM}{fd:jq}{ps ks:gf}{sp:Sp}{E:XK}{x m:Str}{p pos apos kpos:Pos}{e o:fV}{es:gX}{kws:List Keyword}{te ta:TE}{t tk:TA}{nm:Option Str}
variable {g:List Value->List Value->List Value}{gV:List V->List V->List V}
end
structure FnScope(N P:gf)(sc:gF):Prop where
 kind:sc.kind= .function
 co:sc.isCoroutine=false
 gen:sc.isGenerator=false
 nd:N.Nodup
 pre:N.take P.length=P
 par: ∀x∈P,sc.names.lookup x=some .local\/sc.names.lookup x=some .cell
 nofree: ∀y∈sc.names,y.2≠ .free
theorem tN{kindOf:Str->Option NameKind}{x:Str}: ∀{binds:List (Str×Value)} {m:iF},(∀v,(x,v)∉binds)->bindL kindOf binds m x=m x
 |[],_,_=>rfl
 |(n,v)::r,m,h=>by
  unfold bindL;rw[tN fun w hw=>h w (iO _ hw)];split
  ·have:x≠n:=by rintro rfl;exact h v jm
   simp[this]
  ·rfl
theorem tQ{kindOf:Str->Option NameKind}{x:Str}: ∀{binds:List (Str×Value)} {m:iF},(∀v,(x,v)∉binds)->bindC kindOf binds m x=m x
 |[],_,_=>rfl
 |(n,v)::r,m,h=>by
  unfold bindC;rw[tQ fun w hw=>h w (iO _ hw)];split
  ·rfl
  ·have:x≠n:=by rintro rfl;exact h v jm
   simp[this]
theorem tP{kindOf:Str->Option NameKind}{x:Str}{v:fW}: ∀{P:gf} {vs:gJ} {i:Nat} {m:iF},P.Nodup->P[i]?=some x->vs[i]?=some v->kindOf x=some .local->
  bindL kindOf (P.zip vs) m x=some v
 |[],_,_,_,_,h,_,_=>by simp at h
 |_::_,[],_,_,_,_,h,_=>by simp at h
 |p::P,w::vs,0,m,nd,h1,h2,hk=>by
  simp at h1 h2;subst h1;subst h2;show bindL kindOf ((p,w)::P.zip vs) m p=_;unfold bindL;rw[tN fun v hv=>(B6.mp nd).1 (uv hv).1,gh hk];simp
 |p::P,w::vs,i+1,m,nd,h1,h2,hk=>by
  show bindL kindOf ((p,w)::P.zip vs) m x=_;unfold bindL;exact tP (i:=i) (B6.mp nd).2 (by simpa using h1) (by simpa using h2) hk
theorem tR{kindOf:Str->Option NameKind}{x:Str}{v:fW}: ∀{P:gf} {vs:gJ} {i:Nat} {m:iF},P.Nodup->P[i]?=some x->vs[i]?=some v->kindOf x≠some .local->
  bindC kindOf (P.zip vs) m x=some v
 |[],_,_,_,_,h,_,_=>by simp at h
 |_::_,[],_,_,_,_,h,_=>by simp at h
 |p::P,w::vs,0,m,nd,h1,h2,hk=>by
  simp at h1 h2;subst h1;subst h2;show bindC kindOf ((p,w)::P.zip vs) m p=_;unfold bindC;rw[tQ fun v hv=>(B6.mp nd).1 (uv hv).1,gk hk];simp
 |p::P,w::vs,i+1,m,nd,h1,h2,hk=>by
  show bindC kindOf ((p,w)::P.zip vs) m x=_;unfold bindC;exact tR (i:=i) (B6.mp nd).2 (by simpa using h1) (by simpa using h2) hk
noncomputable def kX(N:gf)(vs:List V):St:=vs.map some++List.replicate (N.length-vs.length) none
noncomputable def kG(CX:CXT)(P:gi)(w:gd)(K:fX)(mg:iF)(base:fZ)(N:gf)(qual:Str)(scope:gF)(f:fM)(cd:fW)(A:gc)(outer:List Env)(s:fQ)(H:Hp)(E:XK):Cx where
 prog:=P
 w:=w
 K:=K
 mg:=mg
 base:=base
 A:=A.deeper (envOfC qual scope s.heap.objs.size f cd)
 N:=N
 s₀:=s
 H₀:=H
 env:=envOfC qual scope s.heap.objs.size f cd
 outer:=outer
 stack:=envOfC qual scope s.heap.objs.size f cd::outer
 ex:=[]
 calm:=true
 fn:=fun _=>true
 pn:=[]
 xe:=fun e s'=>wpAny (model P w) (A.deeper (envOfC qual scope s.heap.objs.size f cd)) (leaving (envOfC qual scope s.heap.objs.size f cd) e) (fun _ y9=>CX outer H s E e y9) (fun e' y9=>CX outer H s E e' y9) s'
theorem xl{sc:gF}{n:Nat}{x:Str}(h:sc.names.lookup x=some .cell): ∃c,(cellsFrom n sc.names []).lookup x=some c:=by
 have q:=uu sc.names n [] (.inl h);exact FQ.mp q
theorem tw{CX:CXT}{P:gi}{w:gd}{K:fX}{mg:iF}{base:fZ}{N ps:gf}{qual:Str}{scope:gF}{f:fM}{cd:fW}{A:gc}{outer:List Env}{s s1:fQ}{H:Hp}{E:XK}{us:gJ}{vs:List V}
  (S:FnScope N ps scope)(hd:A.handled=none)(e0:Env0 P w K mg base A outer s H)(hl:vs.length=ps.length)(r:Vals vs us)
  (x:InCallC s s.heap.objs.size (bindL (envOfC qual scope s.heap.objs.size f cd).kindOf (ps.zip us) fun _=>none) (cellsFrom (s.heap.objs.size+1) scope.names []) (bindC (envOfC qual scope s.heap.objs.size f cd).kindOf (ps.zip us) fun _=>none) s1):
  Inv (kG CX P w K mg base N qual scope f cd A outer s H E) [] (kX N vs) H s1:=by
 have i3:ps.length<=N.length:=by have:=lS List.length S.pre;rw[qp] at this;omega
 obtain⟨h1,tk,rfl,hk⟩:=x.done;have bh: ∀b:Addr,b∉(kG CX P w K mg base N qual scope f cd A outer s H E).ex:=fun b z=>absurd (show b∈([]:List Addr) from z) (by simp)
 refine⟨⟨e0.mod,S.kind,rfl,rfl,gO _,fun y z c h1 h2=>?_,fun y hy=>?_,fun y c _ h=>?_,fun _=>hd,BV e0.frames,.inr ⟨rfl,rfl⟩,fun b z=>absurd z (bh b),e0.bs,e0.bsz,fun b _ _=>bh b,fun b z=>absurd z (bh b),e0.funs,e0.frf⟩,
  rfl,e0.bare,Un.kept hk,⟨_,x.toInCall.ns,fun i y v h1 h2 h3=>?_⟩,fun y c h=>⟨_,x.cell y c h⟩,e0.hok.fresh (gO _),fun y c h=>?_,fun p hp=>absurd (show p∈([]:List (Addr×Obj)) from hp) (by simp),e0.hok.kept hk,?_⟩
 ·exact name_of_addr x.apart (lh h1) (lh h2)
 ·have hy:scope.names.lookup y=some .cell\/scope.names.lookup y=some .free:=hy;rcases hy with hy|hy
  ·exact xl hy
  ·exact absurd rfl (S.nofree _ (lh hy))
 ·exact qt (x.above y c (lh h))
 ·have hi:i<vs.length:=by
   unfold kX at h2;by_cases hi:i<vs.length
   ·exact hi
   ·rw[yh (by simpa using hi)] at h2;rw[nY] at h2;split at h2<;>cases h2
  have ha:vs[i]?=some v:=by
   unfold kX at h2;rw[yg (by simpa using hi),iN] at h2
   cases e:vs[i]? with
   |none=>rw[e] at h2;cases h2
   |some a=>rw[e] at h2;cases h2;rfl
  obtain⟨u,hu,rv⟩:=r.get ha
  have hp:ps[i]?=some y:=by
   rw[<-S.pre,List.getElem?_take_of_lt (by omega)];exact h1
  have ndP:ps.Nodup:=by rw[<-S.pre];exact S.nd.sublist (lg _ _)
  refine⟨u,rv,?_⟩;rcases S.par y (qo hp) with k|k
  ·exact .inl ⟨k,tP ndP hp hu k⟩
  ·obtain⟨c,e⟩:=xl (n:=s.heap.objs.size+1) k;refine .inr ⟨.inl k,c,e,?_⟩;have q:=x.cell y c e;rw[tR ndP hp hu (by show scope.names.lookup y≠_;rw[k];decide)] at q;exact q
 ·exact e0.hok.fresh (qt (x.above y c (lh h)))
 ·unfold kX;show _=N.length;rw[pz,nv,BU];omega
theorem DG{CX:CXT}{P:gi}{w:gd}{K:fX}{mg:iF}{base:fZ}{k:Nat}{f:fM}{name qual:Str}{params:Arguments}{body:List Stmt}{scope:gF}{dV kV doc pm e6 ct oc:fW}{an od:Option Addr}
  {v7:mf}{N ps:gf}{sp:Sp}(lk:K.lookup f=some ⟨oc,od,.func (PySem.W.fnOf name qual params body scope dV kV doc pm an e6 ct),v7⟩)(n6:PySem.W.codeIn K e6 qual=true)(S:FnScope N ps scope)
  (len: ∀vs H Q E,sp vs H Q E->vs.length=ps.length)
  (m5: ∀(A:gc) (outer:List Env) (s:fQ) (H:Hp) (vs:List V) (Q:VK) (E:XK),Room k (A.deeper (envOfC qual scope s.heap.objs.size f e6))->sp vs H Q E->
   ∃t,PSs (kG CX P w K mg base N qual scope f e6 A outer s H E) body t/\t {nx:=fun _ H'=>Q .non H',rt:=Q} (kX N vs) H):
  FnOk P w K mg base CX (k+1) f (PySem.W.fnOf name qual params body scope dV kV doc pm an e6 ct) ps sp:=by
 refine⟨len,fun A outer s H args us vs Q E hr e0 hb r cp=>?_⟩;have hl:=len _ _ _ _ cp;have KX:K.In s.heap:=e0.mod.kin.keeps fun b o e=>(e0.bs b o e).1;have lim:s.heap.NoLimit:=e0.mod.nolimit.keeps fun b o e=>(e0.bs b o e).1
 have aT: ∀y∈ps.zip us,scope.names.lookup y.1=some .local\/(scope.names.lookup y.1=some .cell/\((cellsFrom (s.heap.objs.size+1) scope.names []).lookup y.1).isSome=true):=fun⟨n,v⟩ hy=>by
  rcases S.par n (uv hy).1 with q|q
  ·exact .inl q
  ·exact .inr ⟨q,uu _ _ _ (.inl q)⟩
 refine BR hr.depth (KX _ _ lk) rfl S.co S.gen rfl (PySem.W.codeRec_of KX n6) (hb _ _ _ _ ?_);refine BQ S.kind aT fun env he s1 x=>?_;subst he;refine⟨lim.keeps x.toInCall.keep,codeAny_func ?_⟩;obtain⟨t,ht,hq⟩:=m5 A outer s H vs Q E (hr.deeper _) cp;have I:Inv (kG CX P w K mg base N qual scope f e6 A outer s H E) [] (kX N vs) H s1:=tw S hr.hd e0 hl r x;refine ky (ht [] s1 (kX N vs) H _ I hq) (fun fl s' hs=>?_) fun e s' hs=>hs
 have fin: ∀{σ':St} {H':Hp} {v:V} {u:fW},Inv (kG CX P w K mg base N qual scope f e6 A outer s H E) [] σ' H' s'->RelV v u->Q v H'->CE outer P w H s Q u s':=
  fun {σ' H' v u} J rv q=>⟨v,H',J.os,J.bare,J.base,J.hok,rv,q⟩
 cases fl with
 |ret u=>
  obtain⟨v,σ',H',J,rv,q⟩:=hs;exact fin J rv q
 |next=>
  obtain⟨σ',H',J,q⟩:=hs;exact fin (v:=V.non) (u:=Value.none) J rfl q
 |brk=>
  obtain⟨_,_,_,q⟩:=hs;exact False.elim q
 |cont=>
  obtain⟨_,_,_,q⟩:=hs;exact False.elim q
section
variable {X:Cx}{x:Str}{p pos:Pos}{e:fV}{es:gX}{t:TA}{id T:String}{r:List V->Hp->VK->Prop}
def tCB(r:List V->Hp->VK->Prop)(t:TA):TE:=fun σ H Q=>t σ H fun vs H1=>r vs H1 Q
theorem ou(hc:iP X (.builtin id) r)(hg:Gl X x)(hm:X.mg x=none)(hv:bootBuiltins x=some (.builtin id))(ha:PA X (e::es) t)(hn:x≠"__name__":=by decide)(j4:(x==("__debug__":Str))=false:=by decide)
  (he:starEach (e::es) X.env=(false,eval e X.env)::starEach es X.env:=by rfl)(i3:(backTo pos (starEach es X.env)).any (·.1)=false:=by rfl):PE X (.Call (.Name x p) (e::es) [] pos) (tCB r t):=by
 intro pins s σ H Q I h;refine qr (nK I hg hm hv ?_ hn j4);exact PyProof.Rows.callWith_builtin1 (thn (ha pos pins s σ H _ I h) fun us s1 ⟨vs,H1,I1,r1,q1⟩=>hc pins s1 σ H1 vs us Q I1 r1 q1) he i3
theorem ly(hc:iP X (.type T) r)(hg:Gl X x)(hm:X.mg x=none)(hv:bootBuiltins x=some (.type T))(ha:PA X (e::es) t)(hn:x≠"__name__":=by decide)(j4:(x==("__debug__":Str))=false:=by decide)
  (he:starEach (e::es) X.env=(false,eval e X.env)::starEach es X.env:=by rfl)(i3:(backTo pos (starEach es X.env)).any (·.1)=false:=by rfl):PE X (.Call (.Name x p) (e::es) [] pos) (tCB r t):=by
 intro pins s σ H Q I h;refine qr (nK I hg hm hv ?_ hn j4);exact qE (thn (ha pos pins s σ H _ I h) fun us s1 ⟨vs,H1,I1,r1,q1⟩=>hc pins s1 σ H1 vs us Q I1 r1 q1) he i3
end
end L2
namespace HT
open PySem PyProof.Rows
section
open PySem.SeqAt
open PySem.AutoSeq1 (wpAny_loadPart')
open PySem.MeetsSeq PySem.MeetsSeq2 PySem.MeetsSeq3
end
section
variable {prog:gi}{w:gd}{A:gc}{E:gw}{s:fQ}
theorem Jm{t b:fM}{vs ws:gJ}{Q:gw}(ht:IsTup s.heap t vs.toArray)(hb:IsTup s.heap b ws.toArray)(hv:vs≠[])
  (h1:ws=[]->Q (.ref t) s)(h2:ws≠[]->Q (.ref s.heap.objs.size) {s with heap:=s.heap.push {cls:= .type "tuple",data:= .seq (vs++ws).toArray}})
  (aD:vs.length+ws.length<=sizeLine):wpAny (model prog w) A (binaryOp .Add (.ref t) (.ref b)) Q E s:=by
 obtain⟨⟨cls,dd,data,sl⟩,ho,hc,n,hd⟩:=id ht;obtain⟨⟨cK,u6,data2,r6⟩,t6,bT,n2,hd2⟩:=id hb;simp only at hc hd bT hd2;subst hc hd bT hd2;have e:vs.toArray++ws.toArray=(vs++ws).toArray:=by simp
 by_cases hw:ws=[]
 ·exact ur ⟨_,ho,rfl⟩ ⟨_,t6,rfl⟩ yf ye yd yc (yb _ _)
   (tuple_addW1 t b vs.toArray ws.toArray n n2 dd u6 sl r6 (by simpa using hv) (by simp[hw])) ⟨ho,t6,h1 hw⟩
 ·refine ur ⟨_,ho,rfl⟩ ⟨_,t6,rfl⟩ yf ye yd yc (yb _ _)
   (tuple_addW2 t b vs.toArray ws.toArray n n2 dd u6 sl r6 (by simpa using hv) (by simpa using hw) (by rw[iA,iA];exact aD)) ⟨ho,t6,?_⟩
  rw[e];exact h2 hw
noncomputable def sIx(n d:Nat):Option Int->Nat
 |none=>d
 |some v=>if v<0 then(v+(n:Int)).toNat else min v.toNat n
theorem Gz(n d:Nat)(hd:d<=n)(o:Option Int):sIx n d o<=n:=by
 cases o with
 |none=>exact hd
 |some v=>
  show(if v<0 then(v+(n:Int)).toNat else min v.toNat n)<=n;by_cases hv:v<0
  ·rw[gh hv];omega
  ·rw[gk hv];exact Nat.min_le_right _ _
theorem As(v:Int)(n d:Nat):(if v<0 then max (v+(n:Int)) 0 else min v (n:Int))=((sIx n d (some v):Nat):Int):=by
 show(if v<0 then max (v+(n:Int)) 0 else min v (n:Int))=(((if v<0 then(v+(n:Int)).toNat else min v.toNat n):Nat):Int)
 by_cases hv:v<0
 ·simp only[gh hv];omega
 ·simp only[gk hv];omega
theorem zp(lo hi:Option Int)(n:Nat):Builtin.Slice.sliceAdjust lo hi 1 (n:Int)=(((sIx n 0 lo:Nat):Int),((sIx n n hi:Nat):Int)):=by
 have h1: ¬((1:Int)<0):=by omega
 unfold Builtin.Slice.sliceAdjust;simp only[h1,iL];refine Prod.ext ?_ ?_
 ·cases lo with
  |none=>rfl
  |some v=>exact As v n 0
 ·cases hi with
  |none=>rfl
  |some v=>exact As v n n
theorem yH(i j:Nat):Builtin.Slice.slicePlaces (i:Int) (j:Int) 1=j-i:=by
 unfold Builtin.Slice.slicePlaces;have h1:(1:Int)>0:=by omega
 simp only[h1,gQ,Int.ediv_one];split<;>omega
theorem qS{v:fW}{o:Option Int}{Q:Option Int->Shared->Prop}(p:IsPart v o)(h:Q o s):wpAny (model prog w) A (Builtin.Slice.slicePartIndex v) Q E s:=by
 cases p with
 |none=>exact slicePart_none h
 |int i t=>exact slicePart_int h
theorem lq{sl:fM}{vl vu:fW}{lo hi:Option Int}{n:Nat}{Q:Int×Int×Nat->Shared->Prop}(hs:s.heap.IsSliceOf sl vl vu .none)(pl:IsPart vl lo)(pu:IsPart vu hi)
  (h:Q (((sIx n 0 lo:Nat):Int),1,sIx n n hi-sIx n 0 lo) s):wpAny (model prog w) A (Builtin.Slice.sliceApplied (.ref sl) (pure (n:Int))) Q E s:=by
 obtain⟨os,cw,dU,dv⟩:=id hs;unfold Builtin.Slice.sliceApplied Builtin.Slice.sliceFields;refine fU (fU (js cw dv (x:=vl) rfl (fU (js cw dv (x:=vu) rfl (fU (js cw dv (x:= .none) rfl (gv ?_)))))));refine fU (slicePart_none ?_);show wpAny _ _ (if((1:Int)==0)=true then _ else _) _ _ s;rw[gk (by decide)];refine fU (qS pl (fU (qS pu (fU (gv ?_)))));show wpAny _ _ (match Builtin.Slice.sliceAdjust lo hi 1 (n:Int) with|(lo,hi)=>pure (lo,(1:Int),Builtin.Slice.slicePlaces lo hi 1)) _ _ s;rw[zp lo hi n];show wpAny _ _ (pure (((sIx n 0 lo:Nat):Int),(1:Int),Builtin.Slice.slicePlaces ((sIx n 0 lo:Nat):Int) ((sIx n n hi:Nat):Int) 1)) _ _ s;rw[yH];exact gv h
theorem C4(xs:jR)(i k:Nat):((List.range k).filterMap fun(m:Nat)=>xs[((i:Int)+(m:Int)*1).toNat]?).toArray=((xs.toList.drop i).take k).toArray:=by
 have e:(fun(m:Nat)=>xs[((i:Int)+(m:Int)*1).toNat]?)=fun m=>xs[i+m]?:=by
  funext m;have:((i:Int)+(m:Int)*1).toNat=i+m:=by omega
  rw[this]
 rw[e];have:=pick_run xs i k;rw[List.filterMap_map] at this;have e2:((fun x=>xs[x]?)∘fun x=>i+x)=fun m=>xs[i+m]?:=rfl;rw[e2] at this;rw[this]
theorem yY{t sl:fM}{items:jR}{vl vu:fW}{lo hi:Option Int}{Q:gw}(ht:IsTup s.heap t items)(hs:s.heap.IsSliceOf sl vl vu .none)(pl:IsPart vl lo)(pu:IsPart vu hi)
  (hw: ¬(sIx items.size 0 lo=0/\sIx items.size items.size hi=items.size))
  (h:Q (.ref s.heap.objs.size) {s with heap:=s.heap.push {cls:= .type "tuple",data:= .seq ((items.toList.drop (sIx items.size 0 lo)).take (sIx items.size items.size hi-sIx items.size 0 lo)).toArray}})
  (aD:items.size<=sizeLine):wpAny (model prog w) A (getItem (.ref t) (.ref sl)) Q E s:=by
 have ak:sizeOk (.seq ((items.toList.drop (sIx items.size 0 lo)).take (sIx items.size items.size hi-sIx items.size 0 lo)).toArray):=by
  show((items.toList.drop (sIx items.size 0 lo)).take (sIx items.size items.size hi-sIx items.size 0 lo)).toArray.size<=sizeLine;rw[iA,qp,List.length_drop,sH];omega
 have hj:sIx items.size items.size hi<=items.size:=Gz _ _ (gO _) hi;obtain⟨os,cw,dU,dv⟩:=id hs;have fw:s.TypeIs (.ref sl) "slice":=⟨os,cw,dU⟩
 unfold getItem
 try with_reducible refine nA ?_
 first|refine fU (gv ?_)|skip
 refine fU (wpAny_sequenceKey ht.typeIs (by decide) ?_)
 refine fU (pv (name:=Str.ofString "__getitem__") ht.typeIs xy
  (nX xy ht.typeIs BP ?_ (args_tuple_getitem _ _)))
 show wpAny _ _ (Builtin.Tuple.tupleItemsOf (.ref t)>>=_) _ _ s;refine fU (tupleItemsOf_ ht ?_);refine fU (uq fw ?_);rw[gh (by decide)];refine fU (lq hs pl pu ?_)
 have hno: ¬((((sIx items.size 0 lo:Nat):Int)==0&&(1:Int)==1&&(sIx items.size items.size hi-sIx items.size 0 lo)==items.size)=true):=by
  intro q;rw[kv,kv] at q;have q1:((sIx items.size 0 lo:Nat):Int)=0:=nW q.1.1;have q2:sIx items.size items.size hi-sIx items.size 0 lo=items.size:=nW q.2;exact hw ⟨by omega,by omega⟩
 show wpAny _ _ (if(((sIx items.size 0 lo:Nat):Int)==0&&(1:Int)==1&&(sIx items.size items.size hi-sIx items.size 0 lo)==items.size)=true then _ else _) _ _ s;rw[gk hno,C4]
 first
  |exact fU (m:=Builtin.Tuple.tupleExact _) (ny (gv ⟨_,rfl,gv h⟩) ak)
  |exact fU (m:=Builtin.Tuple.tupleExact _) (ny (fU (gv (gv ⟨_,rfl,gv h⟩))) ak)
  |exact fU (fU (m:=Builtin.Tuple.tupleExact _) (ny (gv (gv ⟨_,rfl,gv h⟩)) ak))
  |exact fU (fU (m:=Builtin.Tuple.tupleExact _) (ny (gv ⟨_,rfl,gv h⟩) ak))
end
end HT
namespace L2
open PySem PySem.Spec PyProof.Rows
abbrev TO:=St->Hp->(Option Int->Hp->Prop)->Prop
def PO(X:Cx)(e:Option Expr)(t:TO):Prop:=
 ∀(pins:gq) (s:fQ) (σ:St) (H:Hp) (Q:Option Int->Hp->Prop),Inv X pins σ H s->t σ H Q->
  wpAny (model X.prog X.w) X.A (evalPart e X.env) (fun u s'=> ∃o H',Inv X pins σ H' s'/\IsPart u o/\Q o H') X.xe s
noncomputable def Eh:TO:=fun _ H Q=>Q none H
def Iq(t:TE):TO:=fun σ H Q=>t σ H fun x H1=> ∃i,x= .int i/\Q (some i) H1
section
variable {X:Cx}{e:fV}{te:TE}{lo hi:Option Expr}{tl th:TO}{pos p2:Pos}
theorem EN:PO X none Eh:=by
 intro pins s σ H Q I h;rw[evalPart_none];exact gv ⟨none,H,I,.none,h⟩
theorem EM(h:PE X e te):PO X (some e) (Iq te):=by
 intro pins s σ H Q I hw;rw[evalPart_some];refine thn (h pins s σ H _ I hw) fun u s1 ⟨x,H1,I1,r1,q1⟩=>?_;obtain⟨i,rfl,q⟩:=q1;obtain⟨t,rfl⟩:=r1;exact⟨some i,H1,I1,.int i t,q⟩
def SlR(X:Cx)(r:V->Option Int->Option Int->Hp->VK->Prop):Prop:=
 ∀(pins:gq) (s:fQ) (σ:St) (H:Hp) (x:V) (v vl vu:fW) (lo hi:Option Int) (sl:fM) (Q:VK),Inv X pins σ H s->RelV x v->s.heap.IsSliceOf sl vl vu .none->IsPart vl lo->IsPart vu hi->r x lo hi H Q->
  ∃T id,typeLookup (.type T) "__getitem__"=pure (some (.builtin id))/\s.TypeIs v T/\wpAny (model X.prog X.w) X.A (getItem v (.ref sl)) (EP X pins σ Q) X.xe s
def tSl(r:V->Option Int->Option Int->Hp->VK->Prop)(te:TE)(tl th:TO):TE:=fun σ H Q=>te σ H fun x H1=>tl σ H1 fun l H2=>th σ H2 fun u H3=>r x l u H3 Q
theorem Dc{r:V->Option Int->Option Int->Hp->VK->Prop}(hr:SlR X r)(he:PE X e te)(hl:PO X lo tl)(hu:PO X hi th):PE X (.Subscript e (.Slice lo hi none p2) pos) (tSl r te tl th):=by
 intro pins s σ H Q I h;refine Subscript_ (thn (he pins s σ H _ I h) fun v s1 ⟨x,H1,I1,r1,q1⟩=>?_);refine wpAny_Slice (thn (hl pins s1 σ H1 _ I1 q1) fun vl s2 ⟨l,H2,I2,pl,q2⟩=>thn (hu pins s2 σ H2 _ I2 q2) fun vu s3 ⟨u,H3,I3,pu,q3⟩=>?_);rw[evalPart_none];refine gv ?_;have I4:Inv X pins σ H3 {s3 with heap:=s3.heap.push {cls:= .type "slice",data:= .fields #[vl,vu,.none]}}:=I3.kept (t':=s3.toks) fun b ob q=>hW _ q;obtain⟨T,id,hT,ht,hg⟩:=hr pins {s3 with heap:=s3.heap.push {cls:= .type "slice",data:= .fields #[vl,vu,.none]}} σ H3 x v vl vu l u s3.heap.objs.size Q I4 r1 (Heap.IsSliceOf.new ..) pl pu q3;show wpAny (model X.prog X.w) X.A (subscriptTail e (.Slice lo hi none p2) v (.ref s3.heap.objs.size)) (EP X pins σ Q) X.xe {s3 with heap:=s3.heap.push {cls:= .type "slice",data:= .fields #[vl,vu,.none]}};exact tail_any (ops:=[.ref s3.heap.objs.size,v]) ht hT hg (by with_unfolding_all rfl)
noncomputable def xa(xs:List V)(lo hi:Option Int):List V:=(xs.drop (HT.sIx xs.length 0 lo)).take (HT.sIx xs.length xs.length hi-HT.sIx xs.length 0 lo)
theorem pM(xs:List V)(lo hi:Option Int):(xa xs lo hi).length<=xs.length:=by
 unfold xa;rw[qp,List.length_drop];omega
def KD(K:fX):V->Option Int->Option Int->Hp->VK->Prop:=fun x lo hi H Q=> ∃a xs,x= .ref a/\SqT K H a xs/\
 ¬(HT.sIx xs.length 0 lo=0/\HT.sIx xs.length xs.length hi=xs.length)/\ ∀p,H p=none->Q (.ref p) (upd H p (.tup (xa xs lo hi)))
theorem Gx:SlR X (KD X.K):=by
 intro pins s σ H x v vl vu lo hi sl Q I rx hs pl pu h;obtain⟨a,xs,rfl,hx,hw,q⟩:=h;cases rx;obtain⟨b6,r,ht,hz⟩:=I.tuple hx;have hlen:b6.toArray.size=xs.length:=by rw[iA];exact r.length.symm
 refine⟨"tuple",_,xy.lookup,ht.typeIs,?_⟩;refine HT.yY ht hs pl pu (by rw[hlen];exact hw) ?_ (by rw[hlen];exact hz);rw[hlen];refine⟨.ref s.heap.objs.size,_,I.laid (t':=s.toks) (o:= .tup (xa xs lo hi)) (fun b ob q=>hW _ q) (gO _) ?_,rfl,q _ (I.hok.fresh (gO _))⟩;exact⟨lT (pM xs lo hi) hz,_,(r.drop (HT.sIx xs.length 0 lo)).take (HT.sIx xs.length xs.length hi-HT.sIx xs.length 0 lo),qF _ _⟩
def II(K:fX):R2:=fun x y H Q=> ∃a b xs ys,x= .ref a/\y= .ref b/\SqT K H a xs/\SqT K H b ys/\xs≠[]/\xs.length+ys.length<=sizeLine/\
 (ys=[]->Q (.ref a) H)/\(ys≠[]-> ∀p,H p=none->Q (.ref p) (upd H p (.tup (xs++ys))))
theorem Vals.nil_iff{xs:List V}{us:gJ}(r:Vals xs us):us=[]↔xs=[]:=by
 cases r with
 |nil=>simp
 |cons _ _=>simp
theorem Fd:OpR X (binaryOp .Add) (II X.K):=by
 intro pins s σ H x y v u Q I rx ry h;obtain⟨a,b,xs,ys,rfl,rfl,ha,hb,hx,hz,q1,q2⟩:=h;cases rx;cases ry;obtain⟨b6,r1,p1,_⟩:=I.tuple ha;obtain⟨e7,r2,p2,_⟩:=I.tuple hb;refine HT.Jm p1 p2 (fun z=>hx (r1.nil_iff.mp z)) (fun z=>⟨.ref a,H,I,rfl,q1 (r2.nil_iff.mp z)⟩) (fun z=>?_) (by rw[<-r1.length,<-r2.length];exact hz);refine⟨.ref s.heap.objs.size,_,I.laid (t':=s.toks) (o:= .tup (xs++ys)) (fun b ob q=>hW _ q) (gO _) ?_,rfl,q2 (fun w=>z (r2.nil_iff.mpr w)) _ (I.hok.fresh (gO _))⟩;exact⟨by rw[pz];exact hz,_,r1.append r2,qF _ _⟩
end
noncomputable def ixN(n:Nat)(i:Int):Option Nat:=if 0<=i then(if i<n then some i.toNat else none) else if -(n:Int)<=i then some (i+n).toNat else none
noncomputable def atI{α:Type}(xs:List α)(i:Int):Option α:=(ixN xs.length i).bind fun j=>xs[j]?
theorem Ak{n:Nat}{i:Int}{j:Nat}(h:ixN n i=some j):seqIndex? i n=some j/\j<n/\ -(n:Int)<=i/\i<n:=by
 unfold ixN at h;by_cases h0:0<=i
 ·rw[gh h0] at h;by_cases h1:i<n
  ·rw[gh h1] at h;have e:i.toNat=j:=iG h;exact⟨by rw[ya h0 h1,e],by omega,by omega,h1⟩
  ·rw[gk h1] at h;cases h
 ·rw[gk h0] at h;by_cases h1: -(n:Int)<=i
  ·rw[gh h1] at h;have e:(i+n).toNat=j:=iG h;exact⟨by rw[xZ (by omega) h1,e],by omega,h1,by omega⟩
  ·rw[gk h1] at h;cases h
theorem Az{α:Type}{xs:List α}{i:Int}{v:α}(h:atI xs i=some v): ∃j,seqIndex? i xs.length=some j/\xs[j]?=some v/\j<xs.length/\ -(xs.length:Int)<=i/\i<xs.length:=by
 unfold atI at h
 cases e:ixN xs.length i with
 |none=>rw[e] at h;cases h
 |some j=>
  rw[e] at h;obtain⟨h1,h2,h3,h4⟩:=Ak e;exact⟨j,h1,h,h2,h3,h4⟩
def vF(b:fV):Prop:= ∀o i,subscripted b false o i=operate [o,i] (getItem o i)
def IxR(X:Cx)(r:R2):Prop:=
 ∀(value slice:fV) (pins:gq) (s:fQ) (σ:St) (H:Hp) (x y:V) (v u:fW) (Q:VK),Inv X pins σ H s->RelV x v->RelV y u->r x y H Q->
  subscripted slice false v u=operate [v,u] (getItem v u)->wpAny (model X.prog X.w) X.A (subscriptTail value slice v u) (EP X pins σ Q) X.xe s
def MtR(X:Cx)(id:String)(r:V->List V->Hp->VK->Prop):Prop:=
 ∀(pins:gq) (s:fQ) (σ:St) (H:Hp) (x:V) (xs:List V) (v:fW) (us:gJ) (Q:VK),Inv X pins σ H s->RelV x v->Vals xs us->r x xs H Q->
  wpAny (model X.prog X.w) X.A (call (.builtin id) (v::us)) (EP X pins σ Q) X.xe s
section
variable {X:Cx}{a b:fV}{ta tb:TE}{pos:Pos}
theorem IS{r:R2}(hr:IxR X r)(ha:PE X a ta)(hb:PE X b tb)(hs:vF b):PE X (.Subscript a b pos) (tOp r ta tb):=by
 intro pins s σ H Q I h;exact Subscript_ (HW ha hb I h fun v u s2 x y H2 I2 rx ry q=>hr a b pins s2 σ H2 x y v u Q I2 rx ry q (hs _ _))
def KJ(K:fX):R2:=fun x y H Q=> ∃p xs i v,x= .ref p/\y= .int i/\SqL K H p xs/\atI xs i=some v/\Q v H
def KI(K:fX):R2:=fun x y H Q=> ∃p xs i v,x= .ref p/\y= .int i/\SqT K H p xs/\atI xs i=some v/\Q v H
theorem Fn:IxR X (KJ X.K):=by
 intro value slice pins s σ H x y v u Q I rx ry h hs;obtain⟨p,xs,i,z,rfl,rfl,hq,he,q⟩:=h;cases rx;obtain⟨t,rfl⟩:=ry;obtain⟨b6,r,pl,hz⟩:=I.list hq;obtain⟨j,h1,h2,h3,h4,h5⟩:=Az he;obtain⟨w,ew,aJ⟩:=r.get h2;have hl:=r.length;have hn:=uY;have fin:EP X pins σ Q w s:=⟨z,H,I,aJ,q⟩
 by_cases h0:0<=i
 ·have hj:i.toNat=j:=by
   rw[ya h0 h5] at h1;exact iG h1
  exact item_listR pl.isList h0 (by omega) (by rw[hj];simpa using ew) fin hs
 ·have hj:(i+(b6.toArray.size:Int)).toNat=j:=by
   rw[xZ (by omega) h4] at h1;rw[iA,<-hl];exact iG h1
  exact BO (x:=w) pl.isList.typeIs slot_list_getitem.lookup
   (wpAny_getItem_list_neg (Q:=fun r s'=>r=w/\EP X pins σ Q r s') pl.isList (by omega) (by rw[iA]<;>omega) (by omega) (by rw[hj];simpa using ew) ⟨rfl,fin⟩) hs
theorem HF:IxR X (KI X.K):=by
 intro value slice pins s σ H x y v u Q I rx ry h hs;obtain⟨p,xs,i,z,rfl,rfl,hq,he,q⟩:=h;cases rx;obtain⟨t,rfl⟩:=ry;obtain⟨b6,r,pl,hz⟩:=I.tuple hq;obtain⟨j,h1,h2,h3,h4,h5⟩:=Az he;obtain⟨w,ew,aJ⟩:=r.get h2;have hl:=r.length;have hn:=uY;have fin:EP X pins σ Q w s:=⟨z,H,I,aJ,q⟩
 exact BO (x:=w) pl.typeIs slot_tuple_getitem.lookup
  (getItem_tuple (j:=j) (Q:=fun r s'=>r=w/\EP X pins σ Q r s') pl (by omega) (by omega) (by rw[iA,<-hl];exact h1) (by simpa using ew) ⟨rfl,fin⟩) hs
theorem yS(b6:gJ)(n j:Nat)(u:fW):Obj.mapSeq (·.setIfInBounds j u) {cls:= .type "list",data:= .seq b6.toArray n}={cls:= .type "list",data:= .seq (b6.set j u).toArray n}:=by
 simp[Obj.mapSeq]
theorem Inv.lst{pins:gq}{σ:St}{H:Hp}{s:fQ}{p:fM}{xs:List V}(I:Inv X pins σ H s)(h:H p=some (.lst xs)):
  ∃(b6:gJ) (n:Nat),Vals xs b6/\s.heap.get? p=some {cls:= .type "list",data:= .seq b6.toArray n}/\xs.length<=sizeLine:=by
 obtain⟨z,b6,n,r,e⟩:=I.hok p _ h;exact⟨b6,n,r,e,z⟩
theorem Inv.lstUpd{pins:gq}{σ:St}{H:Hp}{s:fQ}{p:fM}{xs ys:List V}{b6 its':gJ}{n n':Nat}{f:Obj->Obj}(I:Inv X pins σ H s)(h:H p=some (.lst xs))
  (ho:s.heap.get? p=some {cls:= .type "list",data:= .seq b6.toArray n})(hf:f {cls:= .type "list",data:= .seq b6.toArray n}={cls:= .type "list",data:= .seq its'.toArray n'})(r:Vals ys its')(hz:ys.length<=sizeLine)(t:Nat):
  Inv X pins σ (upd H p (.lst ys)) {s with heap:=s.heap.update p f,toks:=t}:=by
 have e:(s.heap.update p f).get? p=some {cls:= .type "list",data:= .seq its'.toArray n'}:=by
  rw[BN f ho (by rw[hf]<;>rfl),hf]
 refine I.write (x:=p) (e:=p) (by rw[h];trivial) (.inl rfl) (fun b u hb q=>(BM _ _ (ll hb)).trans q) ⟨_,e⟩ ?_;exact⟨hz,its',n',r,e⟩
def IG:V->V->V->Hp->(Hp->Prop)->Prop:=fun o i v H Q=> ∃p xs k j,o= .ref p/\i= .int k/\H p=some (.lst xs)/\ixN xs.length k=some j/\Q (upd H p (.lst (xs.set j v)))
theorem Cv:Jp X IG:=by
 intro pins s σ H o i v ov iv u Q I ro ri rv h;obtain⟨p,xs,k,j,rfl,rfl,hp,hj,q⟩:=h;cases ro;obtain⟨t,rfl⟩:=ri;obtain⟨b6,n,r,ho,hz⟩:=I.lst hp;obtain⟨h1,h2,h3,h4⟩:=Ak hj;have hl:=r.length;have hn:=uY
 have I':Inv X pins σ (upd H p (.lst (xs.set j v))) {s with heap:=s.heap.update p (Obj.mapSeq (·.setIfInBounds j u))}:=
  I.lstUpd hp ho (yS b6 n j u) (r.set rv j) (by rw[nu];exact hz) s.toks
 by_cases h0:0<=k
 ·have hk:k.toNat=j:=by
   rw[ya h0 h4] at h1;exact iG h1
  exact PySem.W.ki_setAt ho h0 (by omega) (by rw[iA,<-hl];exact h4) (by rw[hk];exact⟨_,I',q⟩)
 ·have hk:(k+(b6.toArray.size:Int)).toNat=j:=by
   rw[xZ (by omega) h3] at h1;rw[iA,<-hl];exact iG h1
  exact PySem.W.ki_setBack ho (by omega) (by rw[iA,<-hl];exact h3) (by omega) (by rw[hk];exact⟨_,I',q⟩)
theorem uG(lo hi:Option Int)(n:Nat):(sliceBounds lo hi none n).1=((HT.sIx n 0 lo:Nat):Int)/\(sliceBounds lo hi none n).2.1=((HT.sIx n n hi:Nat):Int)/\(sliceBounds lo hi none n).2.2=1:=by
 refine⟨?_,?_,rfl⟩
 ·cases lo with
  |none=>simp[sliceBounds,HT.sIx]
  |some i=>
   simp only[sliceBounds,HT.sIx,Option.getD_none,show(1:Int)>0 by decide,gQ];by_cases h:i<0
   ·simp only[h,gQ]<;>omega
   ·simp only[h,iL]<;>omega
 ·cases hi with
  |none=>simp[sliceBounds,HT.sIx]
  |some i=>
   simp only[sliceBounds,HT.sIx,Option.getD_none,show(1:Int)>0 by decide,gQ];by_cases h:i<0
   ·simp only[h,gQ]<;>omega
   ·simp only[h,iL]<;>omega
theorem rY(b6:gJ)(lo hi:Option Int):slicePick b6.toArray lo hi none=((b6.drop (HT.sIx b6.length 0 lo)).take (HT.sIx b6.length b6.length hi-HT.sIx b6.length 0 lo)).toArray:=by
 obtain⟨h1,h2,h3⟩:=uG lo hi b6.toArray.size;unfold slicePick;rw[h1,h2,h3];simp only[sliceRange_one,pick_run,iA]<;>rfl
def KG(K:fX):V->Option Int->Option Int->Hp->VK->Prop:=fun x lo hi H Q=> ∃a xs,x= .ref a/\SqL K H a xs/\ ∀p,H p=none->Q (.ref p) (upd H p (.lst (xa xs lo hi)))
theorem Ei:SlR X (KG X.K):=by
 intro pins s σ H x v vl vu lo hi sl Q I rx hs pl pu h;obtain⟨a,xs,rfl,hx,q⟩:=h;cases rx;obtain⟨b6,r,ht,hz⟩:=I.list hx;have hlen:=r.length;refine⟨"list",_,slot_list_getitem.lookup,ht.isList.typeIs,?_⟩;refine wpAny_getItem_list_slice ht.isList hs pl pu .none (by simp) ?_ (by rw[iA]<;>omega);rw[rY,<-hlen];refine⟨.ref s.heap.objs.size,_,I.laid (t':=s.toks) (o:= .lst (xa xs lo hi)) (fun b ob q=>hW _ q) (gO _) ?_,rfl,q _ (I.hok.fresh (gO _))⟩;exact⟨lT (pM xs lo hi) hz,_,0,(r.drop (HT.sIx xs.length 0 lo)).take (HT.sIx xs.length xs.length hi-HT.sIx xs.length 0 lo),iY _ rfl⟩
noncomputable def Gf:V->Bool
 | .non=>true
 | .bl _=>true
 | .int _=>true
 | .str _=>true
 |_=>false
noncomputable def eqV:V->V->Bool
 | .non,.non=>true
 | .bl a,.bl b=>a==b
 | .bl a,.int b=>(if a then 1 else 0)==b
 | .int a,.bl b=>a==(if b then 1 else 0)
 | .int a,.int b=>a==b
 | .str a,.str b=>a==b
 |_,_=>false
theorem jo{A:gc}{s:fQ}{y x:V}{u v:fW}(ry:RelV y u)(rx:RelV x v)(fy:Gf y=true)(fx:Gf x=true):SeqAt.EqAt A s u v (eqV y x):=by
 cases y with
 |non=>
  cases ry
  cases x with
  |non=>cases rx;exact SeqAt.EqAt.same _
  |bl b=>cases rx;exact SeqAt.EqAt.none_bool b
  |int b=>obtain⟨t,rfl⟩:=rx;exact SeqAt.EqAt.none_int b t
  |str b=>obtain⟨t,rfl⟩:=rx;exact SeqAt.EqAt.none_str b t
  |_=>exact absurd (show false=true from fx) jb
 |bl a=>
  cases ry
  cases x with
  |non=>cases rx;exact SeqAt.EqAt.bool_none a
  |bl b=>cases rx;exact SeqAt.EqAt.bool_bool a b
  |int b=>obtain⟨t,rfl⟩:=rx;exact SeqAt.EqAt.bool_int a b t
  |str b=>obtain⟨t,rfl⟩:=rx;exact SeqAt.EqAt.bool_str a b t
  |_=>exact absurd (show false=true from fx) jb
 |int a=>
  obtain⟨t',rfl⟩:=ry
  cases x with
  |non=>cases rx;exact SeqAt.EqAt.int_none a t'
  |bl b=>cases rx;exact SeqAt.EqAt.int_bool a t' b
  |int b=>obtain⟨t,rfl⟩:=rx;exact SeqAt.EqAt.int_int a t' b t
  |str b=>obtain⟨t,rfl⟩:=rx;exact SeqAt.EqAt.int_str a t' b t
  |_=>exact absurd (show false=true from fx) jb
 |str a=>
  obtain⟨t',rfl⟩:=ry
  cases x with
  |non=>cases rx;exact SeqAt.EqAt.str_none a t'
  |bl b=>cases rx;exact SeqAt.EqAt.str_bool a t' b
  |int b=>obtain⟨t,rfl⟩:=rx;exact SeqAt.EqAt.str_int a t' b t
  |str b=>obtain⟨t,rfl⟩:=rx;exact SeqAt.EqAt.str_str a t' b t
  |_=>exact absurd (show false=true from fx) jb
 |_=>exact absurd (show false=true from fy) jb
theorem oJ:iP X (.builtin "len") (fun xs H Q=> ∃p ys,xs=[.ref p]/\(SqL X.K H p ys\/SqT X.K H p ys)/\Q (.int ys.length) H):=by
 intro pins s σ H xs us Q I r h;obtain⟨p,ys,rfl,hq,q⟩:=h;obtain⟨u,rfl,rx⟩:=pG r;cases rx;have hn:=uY;rcases hq with hq|hq
 ·obtain⟨b6,r',pl,hz⟩:=I.list hq;have hlen:=r'.length;exact Calls.call_len_list pl.isList (by simp only[iA]<;>omega) ⟨.int ys.length,H,I.tok _,⟨s.toks+1,by rw[iA,hlen]⟩,q⟩
 ·obtain⟨b6,r',pl,hz⟩:=I.tuple hq;have hlen:=r'.length;exact len_tuple pl (by simp only[iA]<;>omega) ⟨.int ys.length,H,I.tok _,⟨s.toks+1,by rw[iA,hlen]⟩,q⟩
theorem nG:iP X (.type "tuple") (fun xs H Q=> ∃p ys,xs=[.ref p]/\((SqL X.K H p ys/\ ∀l,H l=none->Q (.ref l) (upd H l (.tup ys)))\/(SqT X.K H p ys/\Q (.ref p) H))):=by
 intro pins s σ H xs us Q I r h;obtain⟨p,ys,rfl,h⟩:=h;obtain⟨u,rfl,rx⟩:=pG r;cases rx;rcases h with⟨hq,q⟩|⟨hq,q⟩
 ·obtain⟨b6,r',pl,hz⟩:=I.list hq;have hlen:=r'.length;refine call_tuple_list pl.isList (fun h' kp=>?_) (by simp only[iA]<;>omega);have I1:Inv X pins σ H {s with heap:=h'}:=I.kept (t':=s.toks) kp
  have I2:Inv X pins σ (upd H h'.objs.size (.tup ys)) {s with heap:=h'.push {cls:= .type "tuple",data:= .seq b6.toArray}}:=
   I1.laid (t':=s.toks) (fun b o e=>hW _ e) (gO _) (show ObjOk X.prog X.w _ _ _ (.tup ys) from⟨hz,b6,r',qF _ _⟩)
  exact⟨.ref h'.objs.size,_,I2,rfl,q _ (I1.hok.fresh (gO _))⟩
 ·obtain⟨b6,r',pl,hz⟩:=I.tuple hq;exact call_tuple_same pl ⟨.ref p,H,I,rfl,q⟩
def tyV(K:fX)(T:String)(x:V)(H:Hp):Prop:=match x with
 | .str _=>T="str"
 | .int _=>T="int"
 | .ref p=>(T="list"/\ ∃xs,SqL K H p xs)\/(T="tuple"/\ ∃o,K.lookup p=some o/\o.cls= .type "tuple"/\o.dict=none)\/
   (T="dict"/\((∃l3,H p=some (.dK l3))\/ ∃l3,H p=some (.dT l3)))\/(T="set"/\ ∃S n,H p=some (.set S n))
 |_=>False
theorem Gv{pins:gq}{σ:St}{H:Hp}{s:fQ}{T:String}{x:V}{v:fW}(I:Inv X pins σ H s)(r:RelV x v)(ty:tyV X.K T x H):
  s.TypeIs v T/\ ∀a,v= .ref a-> ∃ob,s.heap.get? a=some ob/\ob.dict=none:=by
 cases x with
 |str z=>
  obtain⟨t,rfl⟩:=r;cases(show T="str" from ty);exact⟨typeIs_str s z t,fun _ e=>nomatch e⟩
 |int i=>
  obtain⟨t,rfl⟩:=r;cases(show T="int" from ty);exact⟨typeIs_int s i t,fun _ e=>nomatch e⟩
 |ref p=>
  cases r;rcases ty with⟨rfl,xs,hq⟩|⟨rfl,o,hk,hc,hd⟩|⟨rfl,hk⟩|⟨rfl,S,n,hk⟩
  ·obtain⟨b6,_,pl,_⟩:=I.list hq;refine⟨pl.isList.typeIs,fun a e=>?_⟩;cases e;obtain⟨o,n,e,c,hd,_⟩:=pl;exact⟨o,e,hd⟩
  ·refine⟨⟨o,I.kIn p o hk,hc⟩,fun a e=>?_⟩;cases e;exact⟨o,I.kIn _ o hk,hd⟩
  ·have z: ∃o,s.heap.get? p=some o/\o.ExactDict:=by
    rcases hk with⟨l3,hk⟩|⟨l3,hk⟩
    ·obtain⟨_,_,_,_,o,_,_,e,ex,_⟩:=I.hok p _ hk;exact⟨o,e,ex⟩
    ·obtain⟨_,_,_,_,o,_,_,e,ex,_⟩:=I.hok p _ hk;exact⟨o,e,ex⟩
   obtain⟨o,e,ex⟩:=z;refine⟨⟨o,e,ex.1⟩,fun a e2=>?_⟩;cases e2;exact⟨o,e,ex.2.1⟩
  ·obtain⟨o,_,_,_,e,ex,_⟩:=I.hok p _ hk;refine⟨⟨o,e,ex.1⟩,fun a e2=>?_⟩;cases e2;exact⟨o,e,ex.2.1⟩
 |_=>exact False.elim ty
def tBM(K:fX)(T:String)(r:V->List V->Hp->VK->Prop)(to:TE)(t:TA):TE:=fun σ H Q=>to σ H fun x H1=>tyV K T x H1/\t σ H1 fun xs H2=>r x xs H2 Q
variable {o e:fV}{es:gX}{to:TE}{t:TA}{name:Str}{apos g0:Pos}{T id:String}{r:V->List V->Hp->VK->Prop}
theorem F6(pa:PlainAttrs T)(slot:Slot T name id)(hty:typeOf (.builtin id)=pure (.type "method_descriptor"))(hm:MtR X id r)(ho:PE X o to)(ha:PA X (e::es) t)
  (m6:attributeBase o name X.env (eval o X.env)=eval o X.env:=by rfl)
  (u5:((backTo g0 (starEach (e::es) X.env)).all (fun x=>!x.1)&&(backToKw g0 (keywordEach [] X.env)).all (fun x=>x.1.isSome)
   &&decide ((e::es).length+([]:List Keyword).length+(if([]:List Keyword).isEmpty then 0 else 1)<30))=true:=by rfl)
  (m4:(apos.endLine==g0.line)=true:=by rfl)(hs:starEach (e::es) X.env=(false,eval e X.env)::starEach es X.env:=by rfl)(k6:(backTo g0 (starEach es X.env)).any (·.1)=false:=by rfl):
  PE X (.Call (.Attribute o name apos) (e::es) [] g0) (tBM X.K T r to t):=by
 intro pins s σ H Q I h;refine wpAny_Call_method_late m6 u5 m4 rfl (thn (ho pins s σ H _ I h) fun v s1 ⟨x,H1,I1,r1,ty,q1⟩=>?_);obtain⟨h1,h2⟩:=Gv I1 r1 ty;refine⟨T,id,pa,slot,hty,h1,h2,?_⟩;have hA:=ha g0 pins s1 σ H1 _ I1 q1;rw[hs] at hA ⊢;refine Calls.callWith_builtin (by show(false||(backTo g0 (starEach es X.env)).any (·.1))=false;rw[k6]<;>rfl) (BL ?_);exact thn hA fun us s2 ⟨vs,H2,I2,r2,q2⟩=>hm pins s2 σ H2 x vs v us Q I2 r1 r2 q2
end
def MtM(X:Cx)(id:String)(r:V->List V->Hp->VK->Prop):Prop:=
 ∀(pins:gq) (s:fQ) (σ:St) (H:Hp) (x:V) (xs:List V) (v:fW) (us:gJ) (Q:VK),Inv X pins σ H s->RelV x v->Vals xs us->r x xs H Q->
  wpAny (model X.prog X.w) X.A (call (.builtin id) (v::us)) (EP X pins σ Q) X.xe s
theorem Vals.one: ∀{x:V} {us:gJ},Vals [x] us-> ∃u,us=[u]/\RelV x u
 |_,_,.cons r .nil=>⟨_,rfl,r⟩
section
variable {X:Cx}{pins:gq}{σ:St}{H:Hp}{s:fQ}{l b:fM}{xs ys zs:List V}
theorem Inv.lset{b6 its':gJ}{n:Nat}{f:Array Value->Array Value}{t':Nat}(I:Inv X pins σ H s)(hH:H l=some (.lst xs))
  (e:s.heap.get? l=some {cls:= .type "list",data:= .seq b6.toArray n})(hf:f b6.toArray=its'.toArray)(hv:Vals ys its')(hz:ys.length<=sizeLine):
  Inv X pins σ (upd H l (.lst ys)) {s with heap:=s.heap.update l (Obj.mapSeq f),toks:=t'}:=by
 have q:=PySem.IsL.update e f;rw[hf] at q;refine I.write (x:=l) (e:=l) (by rw[hH];exact trivial) (.inl rfl) (fun b' u hb hu=>(BM s.heap (Obj.mapSeq f) (ll hb)).trans hu) ⟨_,q⟩ ?_;exact⟨hz,its',_,hv,q⟩
theorem Inv.lnew{b6:gJ}{t':Nat}(I:Inv X pins σ H s)(hv:Vals ys b6)(hz:ys.length<=sizeLine):
  Inv X pins σ (upd H s.heap.objs.size (.lst ys)) {s with heap:=s.heap.push {cls:= .type "list",data:= .seq b6.toArray},toks:=t'}:=
 I.laid (fun _ _ q=>hW _ q) (gO _) ⟨hz,b6,0,hv,iY _ rfl⟩
theorem Inv.fresh(I:Inv X pins σ H s):H s.heap.objs.size=none:=I.hok.fresh (gO _)
theorem Inv.lstM(I:Inv X pins σ H s)(hH:H l=some (.lst xs)):xs.length<=sizeLine/\ ∃(b6:gJ) (n:Nat),Vals xs b6/\xs.length=b6.length/\s.heap.get? l=some {cls:= .type "list",data:= .seq b6.toArray n}:=by
 obtain⟨z,b6,n,r,e⟩:=I.hok l _ hH;exact⟨z,b6,n,r,r.length,e⟩
end
section
variable {X:Cx}
def Ep:V->List V->Hp->VK->Prop:=fun x vs H Q=> ∃l xs y,x= .ref l/\vs=[y]/\H l=some (.lst xs)/\xs.length<sizeLine/\Q .non (upd H l (.lst (xs++[y])))
theorem A5:MtM X "list.append" Ep:=by
 intro pins s σ H x vs v us Q I rx rv h;obtain⟨l,xs,y,rfl,rfl,hH,hz,q⟩:=h;cases rx;obtain⟨u,rfl,ru⟩:=rv.one;obtain⟨z,b6,n,r,hl,e⟩:=I.lstM hH;refine call_meets F.slot_list_append ⟨_,e,rfl⟩ BK (BJ _ _) (PySem.list_append l b6.toArray n u (by rw[iA];omega)) ⟨e,?_⟩;refine⟨.non,_,I.lset (its':=b6++[u]) hH e (by simp) (r.append (.cons ru .nil)) ?_,rfl,q⟩;rw[pz,BI];omega
end
section
variable {prog:gi}{w:gd}{A:gc}{E:gw}{s:fQ}
end
section
variable {X:Cx}
end
end L2
namespace Att
open PySem PySem.W PySem.Calls PyProof.Rows
theorem pW{P:Params}{h:fZ}: ∀(ns:nQ) (vs:gJ),WellAll P h vs (ns.map WData.int)->IntsAre vs ns:=by
 intro ns
 induction ns with
 |nil=>
  intro vs w;rw[List.map_nil] at w;cases w;exact .nil
 |cons n ns ih=>
  intro vs w;rw[nk] at w
  cases w with
  |cons a b=>
   cases a;exact .cons _ _ (ih _ b)
theorem AR{l:OpenLaw}{n:Nat}(hn:l.most=some n){P:Params}{h:fZ}{args:List WData}{vals:gJ}
  (av:l.row.toRowW.claim.pre args=true)(eG:WellAll P h vals args):
  ∃a vs ns,vals=[Value.ref a]/\args=[WData.list (ns.map WData.int)]/\h.get? a=some {cls:= .type "list",data:= .seq vs.toArray}/\IntsAre vs ns/\ns.length<=n:=by
 have hsh:WShape.hasAll [] args [.list .int]=true:=(pre_splitW av).1;have hc:l.pre.holds [] {args:=args}=true:=(pre_splitW av).2;obtain⟨d,r,rfl,h1,h2⟩:=hasAllW_cons hsh;obtain rfl:=hasAllW_nil h2;obtain⟨xs,rfl,h3⟩:=hasW_list h1;obtain⟨ns,rfl⟩:=items_int h3
 have hlen:ns.length<=n:=by
  unfold OpenLaw.pre at hc
  have h4:(WTm.not (.lt (.lit (.int (n:Int))) (.len (.arg 0)))).holds [] {args:=[.list (ns.map .int)]}=true:=by
   have h4:=(holds_andW hc).1;rw[hn] at h4;exact h4
  have h5:=condW_of h4 (w_not (w_lt w_lit (w_len_list (w_arg rfl))));rw[nv] at h5;refine Nat.le_of_not_lt fun q=>?_;have q':(n:Int)<((ns.length:Nat):Int):=by omega
  first
   |(rw[qm q'] at h5;exact absurd h5 (by decide))
   |(simp at h5;omega)
 cases eG with
 |cons w1 w2=>
  cases w2
  cases w1 with
  |list ho hall=>exact⟨_,_,ns,rfl,rfl,ho,pW ns _ hall,hlen⟩
theorem AY(l:OpenLaw)(args:List WData):l.row.toRowW.claim.post args (.bool true) args=true:=
 postW_of (r:=l.row.toRowW) (X:=(true==true))
  (show WShape.has [] (.bool true) .bool=true by first|rfl|decide|simp[WShape.has,WShape.arms,WShape.armsAll])
  (show(WTm.eq .res (.lit (.bool true))).value [] {args:=args,res:=some (.bool true),after:=args}=some (.bool (true==true)) from w_eq_bool (w_res rfl) w_lit) rfl
theorem FH{l:OpenLaw}{n:Nat}{q:gi}{loose:gf}{XP:(Str->Option Value)->Heap->Prop}{YP:World->Heap->Prop}{d:DefRec}
  (hn:l.most=some n)(cG:d.params.defaults=[])
  (call: ∀(w:gd) (s₀ s₁:fQ) (mg mb:iF) (fa:fM) (o:Obj) (pm cd doc:fW) (a:fM) (vs:gJ) (ns:nQ),
   Ground q loose [] XP w s₀ mg mb s₁.heap->YP w s₁.heap->
   s₁.heap.get? fa=some o->o.data= .func (docDef d.name d.params d.body d.scope pm cd doc)->s₁.heap.CodeRec cd d.name->mg d.name=some (.ref fa)->
   s₁.heap.get? a=some {cls:= .type "list",data:= .seq vs.toArray}->IntsAre vs ns->ns.length<=n->s₁.gens= #[]->
   codeAny (model l.prog w) callerA (.call (.ref fa) ⟨[.ref a],[]⟩) (fun r s'=>r= .ok (.ret (.bool true))/\OldK s₁.heap s'.heap/\s'.os=s₁.os/\AllBare s'.gens) s₁):
  WalkO q loose XP YP l.row.toRowW d [] (fun f vs=>PySem.call f vs):=by
 intro w s₀ s₁ mg mb G Y fa o pm cd doc dV kV ho hd n6 hD hmg hg args vals as av hlay hrd eG hlo;obtain rfl:dV= .none:=Dflts.none hD cG;obtain rfl:kV= .none:=Dflts.noKw hD;obtain⟨a,vs,ns,rfl,rfl,cz,hints,hlen⟩:=AR hn av eG;refine enter_call (pA (call w s₀ s₁ mg mb fa o pm cd doc a vs ns G Y ho (fd_plain hd) n6 hmg cz hints hlen hg) fun r s' hq=>?_);obtain⟨rfl,h2,h3,h4⟩:=hq;exact⟨.inl ⟨.bool true,.bool true,[],rfl,fun _=>rfl,.bool true,AY l _,fun _=>⟨List.Pairwise.nil,fun _ hm=>(nomatch hm)⟩⟩,h2,h3,h4⟩
section
variable {prog:gi}{w:gd}{A:gc}{E:gw}{s:fQ}{K:Frag}
end
end Att
namespace L2
open PySem PySem.Spec PyProof.Rows
theorem sN: ∀{vs:gJ} {ns:nQ},IntsAre vs ns->Vals (ns.map V.int) vs
 |_,_,.nil=> .nil
 |_,_,.cons n t h=> .cons ⟨t,rfl⟩ (sN h)
noncomputable def lO(s:Stmt):Arguments:=match s with
 | .FunctionDef _ a _ _ _ _ _ _ _ _=>a
 |_=>{posonlyargs:=[],args:=[],vararg:=none,kwonlyargs:=[],kw_defaults:=[],kwarg:=none,defaults:=[]}
noncomputable def iI(s:Stmt):List Stmt:=match s with
 | .FunctionDef _ _ b _ _ _ _ _ _ _=>b
 |_=>[]
noncomputable def fP(s:Stmt):Scope:=match s with
 | .FunctionDef _ _ _ _ _ _ sc _ _ _=>sc
 |_=>{kind:= .function,names:=[],isGenerator:=false,isCoroutine:=false}
abbrev CX0:CXT:=fun _ _ _ _ _ _=>False
abbrev E0:XK:=fun _ _ _=>False
theorem F7{X:Cx}:vG CX0 X E0:=fun _ _ _ _ _ _ _ h=>h.elim
structure Fun(K:fX)(x qual:Str)(st:Stmt)(f:fM)(fd:jq):Prop where
 ex: ∃(oc:fW) (od:Option Addr) (kV doc pm:fW) (an:Option Addr) (e6 ct:fW) (v7:mf),
  fd=PySem.W.fnOf x qual (lO st) (iI st) (fP st) .none kV doc pm an e6 ct/\K.lookup f=some ⟨oc,od,.func fd,v7⟩/\PySem.W.codeIn K e6 qual=true
 kp:PySem.W.keepIn K (.ref f)=true
section
variable {P:gi}{w:gd}{K:fX}{mg:iF}{base:fZ}
theorem Fun.ok{x qual:Str}{st:Stmt}{f:fM}{fd:jq}{N ps:gf}{k:Nat}{sp:Sp}(F:Fun K x qual st f fd)(S:FnScope N ps (fP st))(len: ∀vs H Q E,sp vs H Q E->vs.length=ps.length)
  (m5: ∀(e6:fW) (A:gc) (outer:List Env) (s:fQ) (H:Hp) (vs:List V) (Q:VK) (E:XK),Room k (A.deeper (envOfC qual (fP st) s.heap.objs.size f e6))->sp vs H Q E->
   ∃t,PSs (kG CX0 P w K mg base N qual (fP st) f e6 A outer s H E).nox (iI st) t/\t {nx:=fun _ H'=>Q .non H',rt:=Q} (kX N vs) H):FnOk P w K mg base CX0 (k+1) f fd ps sp:=by
 obtain⟨oc,od,kV,doc,pm,an,e6,ct,v7,rfl,lk,n6⟩:=F.ex;refine DG lk n6 S len fun A outer s H vs Q E hr cp=>?_;obtain⟨t,h,q⟩:=m5 e6 A outer s H vs Q E hr cp;exact⟨t,h.nox,q⟩
theorem Fun.binds{x qual:Str}{st:Stmt}{f:fM}{fd:jq}{ps:gf}(F:Fun K x qual st f fd)
  (h: ∀(kV doc pm:fW) (an:Option Addr) (e6 ct:fW) (us:gJ),us.length=ps.length->bindArgs (PySem.W.fnOf x qual (lO st) (iI st) (fP st) .none kV doc pm an e6 ct) ⟨us,[]⟩=pure (ps.zip us)):Binds K fd ps []:=by
 obtain⟨oc,od,kV,doc,pm,an,e6,ct,v7,rfl,lk,n6⟩:=F.ex;exact .all (h kV doc pm an e6 ct)
theorem DF{x qual:Str}{st:Stmt}{f:fM}{oc:fW}{od an:Option Addr}{v7:mf}{kV doc pm e6 ct:fW}(l:K.lookup f=some ⟨oc,od,.func (PySem.W.fnOf x qual (lO st) (iI st) (fP st) .none kV doc pm an e6 ct),v7⟩)
  (c:PySem.W.codeIn K e6 qual=true)(k:PySem.W.keepIn K (.ref f)=true):Fun K x qual st f (PySem.W.fnOf x qual (lO st) (iI st) (fP st) .none kV doc pm an e6 ct):=⟨⟨oc,od,kV,doc,pm,an,e6,ct,v7,rfl,l,c⟩,k⟩
end
section
variable {X:Cx}
end
theorem Jc{A B:Prop}(h:B):if false=true then A else B:=by
 rw[gk jb];exact h
theorem Jb{A B:Prop}(h:A):if true=true then A else B:=by
 rw[gh rfl];exact h
def Same(H H':Hp):Prop:= ∀b o,H b=some o->H' b=some o
theorem Same.refl(H:Hp):Same H H:=fun _ _ h=>h
theorem Same.trans{H H1 H2:Hp}(a:Same H H1)(b:Same H1 H2):Same H H2:=fun c o h=>b c o (a c o h)
theorem nO(env:Env): ∀(l:List (Str×NameKind)) (cs:iw),(∀x∈l,x.2= .free-> ∃c,env.cells.lookup x.1=some c)->(∀x c,cs.lookup x=some c->env.cells.lookup x=some c)->
  ∃cl,(forIn l cs fun x r=>if x.2==NameKind.free then do let a <-cellOf env x.1;pure (ForInStep.yield ((x.1,a)::r)) else pure (ForInStep.yield r))=(pure cl:Sem (List (Str×Addr)))/\
   (∀x c,cl.lookup x=some c->env.cells.lookup x=some c)/\(∀x,(x,NameKind.free)∈l-> ∃c,cl.lookup x=some c)/\ ∀x c,cs.lookup x=some c-> ∃c,cl.lookup x=some c
 |[],cs,_,hc=>⟨cs,rfl,hc,fun x h=>by simp at h,fun x c h=>⟨c,h⟩⟩
 |(n,k)::l,cs,h,hc=>by
  by_cases hk:k= .free
  ·subst hk;obtain⟨c,e⟩:=h (n,.free) jm rfl;have e':env.cells.lookup n=some c:=e
   obtain⟨cl,h1,h2,h3,h4⟩:=nO env l ((n,c)::cs) (fun x hx=>h x (iO _ hx)) (fun x d hx=>by
    rw[kg] at hx
    cases hb:x==n with
    |true=>rw[hb] at hx;have:=nW hb;subst this;cases hx;exact e'
    |false=>rw[hb] at hx;exact hc x d hx)
   refine⟨cl,?_,h2,fun x hx=>?_,fun x d hx=>?_⟩
   ·rw[qC];have:cellOf env n=pure c:=by unfold cellOf;rw[e']
    simp only[this,pure_bind,beq_self_eq_true,gQ];exact h1
   ·rcases jC.mp hx with z|z
    ·cases z;exact h4 n c (by simp[kg])
    ·exact h3 x z
   ·cases hb:x==n with
    |true=>have:=nW hb;subst this;exact h4 x c (by simp[kg])
    |false=>exact h4 x d (by rw[kg,hb];exact hx)
  ·obtain⟨cl,h1,h2,h3,h4⟩:=nO env l cs (fun x hx=>h x (iO _ hx)) hc;have hb:(k==NameKind.free)=false:=by simpa using hk
   refine⟨cl,?_,h2,fun x hx=>?_,h4⟩
   ·rw[qC];simp only[hb,hG,iL,pure_bind];exact h1
   ·rcases jC.mp hx with z|z
    ·cases z;exact absurd rfl hk
    ·exact h3 x z
theorem nN(env:Env)(scope:gF)(h: ∀x∈scope.names,x.2= .free-> ∃c,env.cells.lookup x.1=some c):
  ∃cl,closureFor scope env=pure cl/\(∀x c,cl.lookup x=some c->env.cells.lookup x=some c)/\ ∀x,(x,NameKind.free)∈scope.names-> ∃c,cl.lookup x=some c:=by
 obtain⟨cl,h1,h2,h3,_⟩:=nO env scope.names [] h (fun x c hx=>by simp at hx);refine⟨cl,?_,h2,h3⟩;unfold closureFor;have:(forIn scope.names ([]:List (Str×Addr)) fun x r=>if x.2==NameKind.free then do let a <-cellOf env x.1;pure (ForInStep.yield ((x.1,a)::r)) else pure (ForInStep.yield r))=(pure cl:Sem (List (Str×Addr))):=h1
 first
  |exact(lS (· >>=fun r=>pure r) this).trans (pure_bind _ _)
  |(simp only[bind_pure];exact this)
  |exact this
theorem ju: ∀(names:List (Str×NameKind)) (n:Nat) (acc:iw),cellsFrom n names acc=cellsFrom n names []++acc
 |[],_,_=>rfl
 |(x,k)::r,n,acc=>by
  unfold cellsFrom;split
  ·rw[ju r (n+1) ((x,n)::acc),ju r (n+1) [(x,n)],ja];rfl
  ·exact ju r n acc
theorem kU{x:Str}{c:fM}: ∀(names:List (Str×NameKind)) (n:Nat),(x,c)∈cellsFrom n names []->(x,NameKind.cell)∈names
 |[],_,h=>by simp[cellsFrom] at h
 |(y,k)::r,n,h=>by
  unfold cellsFrom at h;split at h
  ·rename_i hk;rw[ju] at h;rcases pS.mp h with z|z
   ·exact iO _ (kU r _ z)
   ·cases ma.mp z;rw[nW hk];exact jm
  ·exact iO _ (kU r _ h)
structure BCls(cells:iw)(scope:gF)(C:fM)(h:fZ)(cl:iw):Prop where
 one: ∀x c,cl.lookup x=some c->(cells.lookup x=some c/\scope.names.lookup x≠some .cell)\/(C<c/\scope.names.lookup x=some .cell/\h.IsCell c none)
 all: ∀x,(x,NameKind.free)∈scope.names\/(x,NameKind.cell)∈scope.names-> ∃c,cl.lookup x=some c
 inj: ∀x y c,C<c->cl.lookup x=some c->cl.lookup y=some c->(∀z d,cells.lookup z=some d->d<C)->x=y
 ex: ∀x c,cl.lookup x=some c->cells.lookup x=some c\/C<c
theorem Fi{M:Model}{A:gc}{E:gw}{s:fQ}{scope:gF}{globals:fM}{env:Env}{cl:iw}{qual:Str}{Q:Env->Shared->Prop}(j6: ∀y∈scope.names,y.2= .cell->scope.names.lookup y.1=some .cell)
  (k8: ∀x c,cl.lookup x=some c->env.cells.lookup x=some c)(l6: ∀x,(x,NameKind.free)∈scope.names-> ∃c,cl.lookup x=some c)
  (hQ: ∀h' cs,h'.Ns s.heap.objs.size (fun _=>none)->(∀b o,s.heap.get? b=some o->h'.get? b=some o)->BCls env.cells scope s.heap.objs.size h' cs->
   Q {scope,locals:=s.heap.objs.size,globals,cells:=cs,qual,func:=none,code:=env.code,frame:=env.frame,builtins:=env.builtins} {s with heap:=h'}):
  wpAny M A (newFunctionEnv scope globals cl [] qual none .none (some env)) Q E s:=by
 simp only[newFunctionEnv,Option.isSome_some,gQ];refine fU (wpAny_alloc ?_);refine fU (wpAny_layCells _ (fun name kind cells=>by cases hkc:kind==NameKind.cell<;>simp[hkc]) _ _ _ _ ?_);have ok:=cellsFrom_ok scope.names (s.heap.push {cls:= .type "dict",data:= .dict #[]}) (s.heap.objs.size+1) [] ⟨fun _ _ hm=>(nomatch hm),List.Pairwise.nil⟩ (by rw[nV];exact gO _);rw[nV] at ok;rw[show({s with heap:=s.heap.push {cls:= .type "dict",data:= .dict #[]}}:Shared).heap.objs.size=s.heap.objs.size+1 from nV ..];simp only[List.forIn_nil];have look: ∀x,(cellsFrom (s.heap.objs.size+1) scope.names cl).lookup x=((cellsFrom (s.heap.objs.size+1) scope.names []).lookup x).or (cl.lookup x):=fun x=>by rw[ju,List.lookup_append]
 have two: ∀x c,(cellsFrom (s.heap.objs.size+1) scope.names cl).lookup x=some c->(cl.lookup x=some c/\(cellsFrom (s.heap.objs.size+1) scope.names []).lookup x=none)\/(x,c)∈cellsFrom (s.heap.objs.size+1) scope.names []:=fun x c h=>by
  rw[look] at h
  cases hx:(cellsFrom (s.heap.objs.size+1) scope.names []).lookup x with
  |none=>rw[hx] at h;exact .inl ⟨h,rfl⟩
  |some d=>rw[hx] at h;cases h;exact .inr (lh hx)
 have lo: ∀{x:Str} {c:fM},(x,c)∈cellsFrom (s.heap.objs.size+1) scope.names []->s.heap.objs.size<c:=fun {x c} h=>(ok.empty x c h).2;refine fU (gv (gv (hQ _ _ ((Heap.Ns.new s.heap (.type "dict")).keeps (pushCells_keeps _ _)) (fun b o e=>pushCells_keeps _ _ b o (hW _ e)) ⟨fun x c h=>?_,fun x h=>?_,fun x y c hc h1 h2 hz=>?_,fun x c h=>?_⟩)))
 ·rcases two x c h with⟨z,hn⟩|z
  ·refine .inl ⟨k8 x c z,fun e=>?_⟩;have:=uu scope.names (s.heap.objs.size+1) [] (.inl e);rw[hn] at this;cases this
  ·exact .inr ⟨lo z,j6 _ (kU _ _ z) rfl,(ok.empty x c z).1⟩
 ·rcases h with h|h
  ·obtain⟨c,hc⟩:=l6 x h;rw[look,hc];cases(cellsFrom (s.heap.objs.size+1) scope.names []).lookup x<;>exact⟨_,rfl⟩
  ·have:=uu scope.names (s.heap.objs.size+1) cl (.inl (j6 _ h rfl));exact FQ.mp this
 ·rcases two x c h1 with⟨z,_⟩|z
  ·exact absurd (hz x c (k8 x c z)) (xY hc)
  ·rcases two y c h2 with⟨z',_⟩|z'
   ·exact absurd (hz y c (k8 y c z')) (xY hc)
   ·exact name_of_addr ok.apart z z'
 ·rcases two x c h with⟨z,_⟩|z
  ·exact .inl (k8 x c z)
  ·exact .inr (lo z)
noncomputable def Cx.comp(X:Cx)(N':gf)(scope:gF)(cl:iw)(C:fM)(s3:fQ)(H3:Hp)(fp:ic)(pins:gq):Cx:=
 {X with N:=N',s₀:=s3,H₀:=H3,env:=compEnvC scope cl C X.env,outer:=X.stack,stack:=X.stack,ex:=fp,fn:=fun x=>scope.names.lookup x==some .cell,pn:=X.pn++pins,xe:=fun _ _=>False}
abbrev TB:=St->Hp->(St->Hp->Prop)->Prop
def PB(X:Cx)(code:Sem Unit)(t:TB):Prop:=
 ∀(pins:gq) (s:fQ) (σ:St) (H:Hp) (N:St->Hp->Prop),Inv X pins σ H s->t σ H N->
  wpAny (model X.prog X.w) X.A code (fun _ s'=> ∃σ' H',Inv X pins σ' H' s'/\N σ' H') X.xe s
def PIf(X:Cx)(ifs:gX)(t:TT):Prop:=
 ∀(pins:gq) (s:fQ) (σ:St) (H:Hp) (Q:Bool->Hp->Prop),Inv X pins σ H s->t σ H Q->
  wpAny (model X.prog X.w) X.A (forIn ifs true fun c r=>if r=true then do let ok <-isTrue c X.env (eval c X.env);pure (ForInStep.yield ok) else pure (ForInStep.yield r)) (TP X pins σ Q) X.xe s
noncomputable def Ip:TT:=fun _ H Q=>Q true H
section
variable {X:Cx}
theorem ET:PIf X [] Ip:=fun pins s σ H Q I h=>wpAny_tests_nil ⟨H,I,h⟩
theorem ES{c:fV}{t:TT}(h:PT X c t):PIf X [c] t:=fun pins s σ H Q I hw=>wpAny_tests_one (h pins s σ H Q I hw)
noncomputable def gM(e:fV)(depth:Nat)(acc:fW)(env:Env):Sem Unit:=
 match(clausesOf e)[depth+1]? with
 |some g'=>do
  let x <-eval g'.iter env
  standAt g'.iter.pos
  let x <-foldedSetIterable g'.iter env x
  let _ <-runOwn (.compStart e (depth+1) (<-holding [x] (pyIter x)) acc env) env
 |none=>match e with
  | .ListComp elt _ _ _=>do let _ <-call (.builtin "list.append") [acc,<-eval elt env]
  | .SetComp elt _ _ _=>do let v <-eval elt env;standAt elt.pos;let _ <-call (.builtin "set.add") [acc,v]
  |_=>unsupported "no"
def zJ(J:It)(g:TG)(ti:TT)(tb:TB):TB:=fun σ H N=> ∃W:Nat->Nat->St->Hp->Prop,(∃m,W 0 m σ H)/\ ∀i m σ H,W i m σ H->
 (J.stop i H/\N σ H)\/(J.go i H/\ ∀x H',J.yld i H x H'->g x σ H' fun σ2 H2=>ti σ2 H2 fun b H3=>if b=true then tb σ2 H3 fun σ4 H4=> ∃m',m'<m/\W (i+1) m' σ4 H4 else ∃m',m'<m/\W (i+1) m' σ2 H3)
theorem vt(e:fV)(depth:Nat)(it acc:fW)(env:Env)(g:kY)(hl:(∃elt gens sc p,e= .ListComp elt gens sc p)\/(∃elt gens sc p,e= .SetComp elt gens sc p))
  (hg:(clausesOf e)[depth]?=some g)(ha:g.is_async=0)(l9: ∀g',(clausesOf e)[depth+1]?=some g'->g'.is_async=0):
  compTurn e depth it acc env=(do
   standAt g.iter.pos
   match <-pyNext it with
   |none=>pure (.done .next)
   |some v=>
    letOwnedTupleGo g.target it v
    assign g.target env v
    let ok <-forIn g.ifs true fun c r=>if r=true then do let ok <-isTrue c env (eval c env);pure (ForInStep.yield ok) else pure (ForInStep.yield r)
    if ok=true then gM e depth acc env
    again (.compLoop e depth it acc env)):=by
 rcases hl with⟨elt,gens,sc,p,rfl⟩|⟨elt,gens,sc,p,rfl⟩
 ·have eR:gens[depth]?=some g:=hg;unfold compTurn gM;simp only[clausesOf] at hg l9 ⊢;rw[eR];simp only[ha]
  cases hn:gens[depth+1]? with
  |none=>rfl
  |some g'=>
   have:=l9 g' hn;simp only[this,qB,hG,iL]
   congr 1;funext _;congr 1;funext r
   cases r with
   |none=>rfl
   |some v=>
    dsimp only
    congr 1;funext _;congr 1;funext _;congr 1;funext ok
    cases ok with
    |false=>rfl
    |true=>simp only[gQ,bind_assoc];rfl
 ·have eR:gens[depth]?=some g:=hg;unfold compTurn gM;simp only[clausesOf] at hg l9 ⊢;rw[eR];simp only[ha]
  cases hn:gens[depth+1]? with
  |none=>rfl
  |some g'=>
   have:=l9 g' hn;simp only[this,qB,hG,iL]
   congr 1;funext _;congr 1;funext r
   cases r with
   |none=>rfl
   |some v=>
    dsimp only
    congr 1;funext _;congr 1;funext _;congr 1;funext ok
    cases ok with
    |false=>rfl
    |true=>simp only[gQ,bind_assoc];rfl
theorem DR 
  (hl:(∃elt gens sc p,e= .ListComp elt gens sc p)\/(∃elt gens sc p,e= .SetComp elt gens sc p))
  (h:wpAny (model prog w) A ((compTurn e depth it acc env).onRaise (fun x=>do noteFrame x env;theTreesLotGoes x)) Q E s):
  wpAny (model prog w) (A.under (.compLoop e depth it acc env)) ((model prog w).den (.compLoop e depth it acc env)) Q E s:=by
 rcases hl with⟨elt,gens,sc,p,rfl⟩|⟨elt,gens,sc,p,rfl⟩
 ·exact h
 ·exact h
theorem Ag{e:fV}{depth:Nat}{acc:fW}{c:kY}{g:TG}{ti:TT}{tb:TB}{J:It}{fp:ic}{it:fM}{tn:Nat->Heap->Prop}(aR:X.xe=fun _ _=>False)(hc:X.calm=true)
  (hl:(∃elt gens sc p,e= .ListComp elt gens sc p)\/(∃elt gens sc p,e= .SetComp elt gens sc p))(hg:(clausesOf e)[depth]?=some c)(ha:c.is_async=0)(l9: ∀g',(clausesOf e)[depth+1]?=some g'->g'.is_async=0)
  (T:Turn X.prog X.w X.K c.target J fp it tn)(pg:PG X c.target g)(bx:PIf X c.ifs ti)(pb:PB X (gM e depth acc X.env) tb)
  {pins:gq}{s:fQ}{σ:St}{H:Hp}{N:St->Hp->Prop}(I:Inv X pins σ H s)(f2: ∀b∈fp,mK X pins H b)(st:tn 0 s.heap)(h:zJ J g ti tb σ H N):
  codeAny (model X.prog X.w) X.A (.compLoop e depth (.ref it) acc X.env) (fun r s'=>r= .ok .next/\ ∃σ' H',Inv X pins σ' H' s'/\(∀b∈fp,H' b=none)/\N σ' H') s:=by
 obtain⟨W,⟨m0,w0⟩,turn⟩:=h;have aa: ∀{H':Hp},(∀b∈fp,H' b=none)-> ∀b∈fp,mK X pins H' b:=fun hn b hb=>⟨hn b hb,(f2 b hb).2⟩
 have F2: ∀{α:Type} {t:Sem α} {Q:α->Shared->Prop} {E:gw} {s:fQ},wpAny (model X.prog X.w) X.A t Q X.xe s->wpAny (model X.prog X.w) X.A t Q E s:=fun h=>ky h (fun _ _ x=>x) fun _ _ z=>by rw[aR] at z;exact z.elim
 refine codeAny_loop rfl (fun n s'=> ∃i σ' H',Inv X pins σ' H' s'/\tn i s'.heap/\(∀b∈fp,H' b=none)/\W i n σ' H') (fun n s3 hI=>?_) m0 ⟨0,σ,H,I,st,fun b hb=>(f2 b hb).1,w0⟩;refine DR hl ?_;refine wpAny_noted ?_;rw[vt e depth (.ref it) acc X.env c hl hg ha l9];obtain⟨i,σ3,H3,I3,k9,cW,w3⟩:=hI;refine fU (sG ?_);rcases turn i n σ3 H3 w3 with⟨stop,qn⟩|⟨go,step⟩
 ·refine fU (thn (T.done X rfl rfl rfl hc i pins s3 σ3 H3 _ I3 (aa cW) k9 stop) fun r s4 ⟨hr,I4⟩=>?_);subst hr;exact gv ⟨rfl,σ3,H3,I4,cW,qn⟩
 ·refine fU (thn (T.item X rfl rfl rfl hc i pins s3 σ3 H3 _ I3 (aa cW) k9 go) fun r s4 ⟨u,hr,h4⟩=>?_);subst hr;refine fU (thn h4 fun _ s5 ⟨x,H5,I5,r5,y5,bt,fE⟩=>?_);have fK:=I5.pinned (aa fE) (T.obj _ _ bt);refine fU (thn (F2 (pg _ s5 σ3 H5 x u _ fK r5 (step x H5 y5))) fun _ s6 ⟨σ6,H6,I6,q6⟩=>?_);refine fU (thn (F2 (bx _ s6 σ6 H6 _ I6 q6)) fun ok s7 ⟨H7,I7,q7⟩=>?_)
  have again: ∀{s8:fQ} {σ8:St} {H8:Hp},Inv X (pins++qZ fp s5.heap) σ8 H8 s8->(∃m',m'<n/\W (i+1) m' σ8 H8)-> ∃m,m<n/\ ∃i σ' H',Inv X pins σ' H' s8/\tn i s8.heap/\(∀b∈fp,H' b=none)/\W i m σ' H':=fun {s8 σ8 H8} I8 ⟨m',hm,w8⟩=>by
   refine⟨m',hm,i+1,σ8,H8,I8.unpinned,T.keep _ _ _ bt fun b hb o e=>(I8.pin (b,o) (lj _ (lj _ (lL hb e)))).1,fun b hb=>?_,w8⟩;obtain⟨o,e,d⟩:=T.obj _ _ bt b hb;exact(I8.pin (b,o) (lj _ (lj _ (lL hb e)))).2.1
  cases ok with
  |false=>
   rw[gk jb] at q7;exact gv ⟨rfl,again I7 q7⟩
  |true=>
   rw[gh rfl] at q7;simp only[gQ];refine fU (thn (F2 (pb _ s7 σ6 H7 _ I7 q7)) fun _ s8 ⟨σ8,H8,I8,q8⟩=>?_);exact gv ⟨rfl,again I8 q8⟩
def Iv(d:fM)(te:TE):TB:=fun σ H N=>te σ H fun y H1=> ∃ys,H1 d=some (.lst ys)/\ys.length<sizeLine/\N σ (upd H1 d (.lst (ys++[y])))
theorem EZ{elt:fV}{gens:md}{sc:gF}{p:Pos}{depth:Nat}{d:fM}{te:TE}(hn:gens[depth+1]?=none)(he:PE X elt te):PB X (gM (.ListComp elt gens sc p) depth (.ref d) X.env) (Iv d te):=by
 intro pins s σ H N I h
 have e1:gM (.ListComp elt gens sc p) depth (.ref d) X.env=(do let _ <-call (.builtin "list.append") [.ref d,<-eval elt X.env]):=by
  unfold gM;simp only[clausesOf];rw[hn]
 rw[e1];refine fU (thn (he pins s σ H _ I h) fun u s1 ⟨y,H1,I1,ru,ys,hd,hz,q⟩=>?_);obtain⟨z,b6,n,r,hl,e⟩:=I1.lstM hd;refine fU (call_meets F.slot_list_append ⟨_,e,rfl⟩ BK (BJ _ _) (PySem.list_append d b6.toArray n u (by rw[iA];omega)) ⟨e,?_⟩);refine gv ⟨σ,_,I1.lset (its':=b6++[u]) hd e (by simp) (r.append (.cons ru .nil)) ?_,q⟩;rw[pz,BI];omega
theorem vV{prog:gi}{w:gd}{A:gc}{e:fV}{depth:Nat}{it acc:fW}{env:Env}{R:Result->Shared->Prop}{s:fQ}{c:kY}
  (hl:(∃elt gens sc p,e= .ListComp elt gens sc p)\/(∃elt gens sc p,e= .SetComp elt gens sc p))(hg:(clausesOf e)[depth]?=some c)(ha:c.is_async=0)
  (h0:codeAny (model prog w) A (.compLoop e depth it acc env) R s)
  (self: ∀(Q:gw) (E:gw),Q it s->wpAny (model prog w) A (pyIter it) Q E s):
  codeAny (model prog w) A (.compStart e depth it acc env) R s:=by
 have core:wpAny (model prog w) A (compStart e depth it acc env) (fun fin s'=>match fin with| .done f=>R (.ok f) s'| .again c'=>c'.quiet=true/\codeAny (model prog w) A c' R s') (notedBy (model prog w) A env fun x s'=>R (.error x) s') s:=by
  unfold compStart;rw[hg];simp only[Option.elim,ha,qB,hG,iL];refine fU (wpAny_askSetting (wpAny_ite ?_));split
  ·first
    |exact fU (gv (gv (And.intro rfl h0)))
    |exact gv (And.intro rfl h0)
  ·exact fU (pD (fU (sG (fU (self _ _ (gv (And.intro rfl h0)))))))
 rcases hl with⟨elt,gens,sc,p,rfl⟩|⟨elt,gens,sc,p,rfl⟩
 ·refine xX ?_;show wpAny _ A ((compStart (.ListComp elt gens sc p) depth it acc env).onRaise (fun x=>do noteFrame x env;standAt theWindowsPlace)) _ _ s;exact wpAny_notedAt core
 ·refine xX ?_;show wpAny _ A ((compStart (.SetComp elt gens sc p) depth it acc env).onRaise (fun x=>do noteFrame x env;standAt theWindowsPlace)) _ _ s;exact wpAny_notedAt core
noncomputable def Cr(wi:TI)(g:TG)(ti:TT)(tb:TB):TB:=fun σ H N=>wi σ H fun J H1=>zJ J g ti tb σ H1 N
theorem Hm{e:fV}{depth:Nat}{acc:fW}{c:kY}{wi:TI}{g:TG}{ti:TT}{tb:TB}(aR:X.xe=fun _ _=>False)(hc:X.calm=true)
  (hl:(∃elt gens sc p,e= .ListComp elt gens sc p)\/(∃elt gens sc p,e= .SetComp elt gens sc p))(hg:(clausesOf e)[depth+1]?=some c)(ha:c.is_async=0)(l9: ∀g',(clausesOf e)[depth+1+1]?=some g'->g'.is_async=0)
  (hs: ∀x,foldedSetIterable c.iter X.env x=pure x)(pi:PI X c.target c.iter wi)(pg:PG X c.target g)(bx:PIf X c.ifs ti)(pb:PB X (gM e (depth+1) acc X.env) tb):
  PB X (gM e depth acc X.env) (Cr wi g ti tb):=by
 intro pins s σ H N I h
 have e1:gM e depth acc X.env=(do
  let x <-eval c.iter X.env
  standAt c.iter.pos
  let x <-foldedSetIterable c.iter X.env x
  let _ <-runOwn (.compStart e (depth+1) (<-holding [x] (pyIter x)) acc X.env) X.env):=by
  unfold gM;rw[hg]
 rw[e1];refine fU (thn (pi pins s σ H _ I h) fun v s1 h1=>fU (sG (fU (xS (hs v) (fU (nA (thn h1 fun de s2 h2=>?_)))))));obtain⟨it,fp,tn,J,H2,rfl,I2,T,h9,f2,hw⟩:=h2;refine fU (wpAny_runOwn ?_);refine vV hl hg ha ?_ (fun Q E hq=>T.self X.A 0 s2 Q E h9 hq);refine pA (Ag aR hc hl hg ha l9 T pg bx pb I2 f2 h9 hw) fun r s3 hr=>?_;obtain⟨rfl,σ3,H3,I3,_,q⟩:=hr;exact gv ⟨σ3,H3,I3,q⟩
end
theorem kh{env:Env}: ∀{names:List (Str×NameKind)} {x:Str},names.lookup x=some .free->
  (names.map fun(n,k)=>if(k==NameKind.free&&env.scope.kind== .function&&env.kindOf n==some .cell) then(n,NameKind.cell) else(n,k)).lookup x=some .cell\/
  (names.map fun(n,k)=>if(k==NameKind.free&&env.scope.kind== .function&&env.kindOf n==some .cell) then(n,NameKind.cell) else(n,k)).lookup x=some .free
 |[],_,h=>by simp at h
 |(n,k)::r,x,h=>by
  have ih:= @kh env r x;rw[nk]
  cases hx:x==n with
  |true=>
   simp only[kg,hx] at h;cases h;by_cases hc:(NameKind.free==NameKind.free&&env.scope.kind== .function&&env.kindOf n==some .cell)=true
   ·left;simp only[hc,gQ,kg,hx]
   ·right;simp only[hc,iL,kg,hx,hG]
  |false=>
   simp only[kg,hx] at h;by_cases hc:(k==NameKind.free&&env.scope.kind== .function&&env.kindOf n==some .cell)=true
   ·simp only[hc,gQ,kg,hx];exact ih h
   ·simp only[hc,iL,kg,hx,hG];exact ih h
theorem iH{env:Env}: ∀{names:List (Str×NameKind)} {x:Str} {k':NameKind},
  (names.map fun(n,k)=>if(k==NameKind.free&&env.scope.kind== .function&&env.kindOf n==some .cell) then(n,NameKind.cell) else(n,k)).lookup x=some k'-> ∃k,(x,k)∈names/\(k=k'\/k= .free)
 |[],_,_,h=>by simp at h
 |(n,k)::r,x,k',h=>by
  rw[nk] at h
  cases hx:x==n with
  |true=>
   have e:=nW hx;subst e;by_cases hc:(k==NameKind.free&&env.scope.kind== .function&&env.kindOf x==some .cell)=true
   ·refine⟨k,jm,.inr ?_⟩
    have h1:(k==NameKind.free)=true:=by
     cases hk:(k==NameKind.free) with
     |true=>rfl
     |false=>rw[hk] at hc;simp at hc
    exact nW h1
   ·simp only[hc,iL,kg,hx,hG] at h;exact⟨k,jm,.inl (by simpa using h)⟩
  |false=>
   by_cases hc:(k==NameKind.free&&env.scope.kind== .function&&env.kindOf n==some .cell)=true
   ·simp only[hc,gQ,kg,hx] at h;obtain⟨k2,h1,h2⟩:=iH h;exact⟨k2,iO _ h1,h2⟩
   ·simp only[hc,iL,kg,hx,hG] at h;obtain⟨k2,h1,h2⟩:=iH h;exact⟨k2,iO _ h1,h2⟩
structure CompScope(X:Cx)(N':gf)(scope:gF)(pre:St->St):Prop where
 cell: ∀y∈scope.names,y.2= .cell->scope.names.lookup y.1=some .cell
 kind:scope.kind= .function
 names: ∀y∈scope.names,y.2= .local->scope.names.lookup y.1=some .local
 free: ∀y∈scope.names,y.2= .free->X.env.scope.names.lookup y.1=some .cell\/X.env.scope.names.lookup y.1=some .free
 len: ∀σ:St,(pre σ).length=N'.length
 pre: ∀(σ:St) (i:Nat) (v:V) (x:Str),(pre σ)[i]?=some (some v)->N'[i]?=some x->scope.names.lookup x=some .free/\ ∃j:Nat,X.N[j]?=some x/\σ[j]?=some (some v)
section
variable {X:Cx}
theorem FC{N':gf}{scope:gF}{pre:St->St}(S:CompScope X N' scope pre){pins:gq}{s3:fQ}{σ:St}{H3:Hp}{fp:ic}{cl:iw}{h':fZ}{t':Nat}(I:Inv X pins σ H3 s3)
  (B:BCls X.env.cells scope s3.heap.objs.size h' cl)
  (ff: ∀b∈fp,mK X pins H3 b)(fo: ∀b∈fp,b<s3.heap.objs.size)
  (bj:h'.Ns s3.heap.objs.size (fun _=>none))(hk: ∀b o,s3.heap.get? b=some o->h'.get? b=some o):
  Inv (X.comp N' scope cl s3.heap.objs.size s3 H3 fp pins) [] (pre σ) H3 {s3 with heap:=h',toks:=t'}:=by
 have du: ∀b∈frs X.stack,H3 b=none:=I.stkFree;have nfs: ∀b,b≠X.env.locals->b∉X.fs->b∉frs X.stack:=fun b h1 h2 z=>(jC.mp (I.stkSub b z)).elim h1 h2;have old: ∀x c,X.env.cells.lookup x=some c->c<s3.heap.objs.size:=fun x c e=>(I.cell x c e).elim fun _ z=>z.lt
 refine⟨⟨I.ok.mod,?_,I.ok.glob,I.ok.blt,gO _,fun x y c h1 h2=>?_,fun x hx=>?_,fun x c hf e=>?_,I.ok.hd,I.ok.frames,.inl rfl,fun b hb=>?_,
  I.bs,lT I.ok.bsz I.sz,fun b o e hb=>?_,fun b hb=>nfs b (ff b hb).2.1 (ff b hb).2.2.1,I.stack,du⟩,rfl,I.bare,Un.kept hk,⟨_,bj,fun i x v h1 h2 h3=>?_⟩,fun x c hx=>?_,I.hok.fresh (gO _),fun x c hx=>?_,fun p hp=>?_,I.hok.kept hk,S.len σ⟩
 ·show(relabel scope X.env).kind= .function;simp[relabel,S.kind]
 ·rcases B.ex x c h1 with z|z
  ·rcases B.ex y c h2 with z'|z'
   ·exact I.ok.inj x y c z z'
   ·exact absurd (old x c z) (xY z')
  ·exact B.inj x y c z h1 h2 old
 ·
  have eF:(relabel scope X.env).names.lookup x=some .cell\/(relabel scope X.env).names.lookup x=some .free:=hx;refine B.all x ?_;rcases eF with z|z
  ·obtain⟨k,h1,h2⟩:=iH z;rcases h2 with h2|h2<;>subst h2
   ·exact .inr h1
   ·exact .inl h1
  ·obtain⟨k,h1,h2⟩:=iH z;rcases h2 with h2|h2<;>(subst h2;exact .inl h1)
 ·rcases B.one x c e with⟨_,z⟩|⟨z,_⟩
  ·exact absurd (nW hf) z
  ·exact qt z
 ·refine⟨ig (fo b hb),fun x c hx=>?_⟩;rcases B.ex x c hx with z|z
  ·exact(ff b hb).2.2.2.2.1 x c z
  ·exact kx (Nat.lt_trans (fo b hb) z)
 ·
  have s9:b∈fp:=hb;rcases(ff b s9).2.2.2.1 with z|z
  ·exact I.ok.noex b o e z
  ·exact absurd (jS (gZ e) (lT I.ok.bsz z)) (mn _)
 ·obtain⟨hf,j,hj,hv⟩:=S.pre σ i v x h2 h1;obtain⟨m,hn,hl⟩:=I.loc;have n4:=S.free (x,.free) (lh hf) rfl;obtain⟨u,r,l⟩:=hl j x v hj hv (by rcases n4 with z|z;exact .inr (.inl z);exact .inr (.inr z));refine⟨u,r,.inr ⟨kh hf,?_⟩⟩;rcases l with⟨cQ,_⟩|⟨_,c,hc,j6⟩
  ·have dO:X.env.scope.names.lookup x=some .local:=cQ;rcases n4 with z|z<;>(have z':X.env.scope.names.lookup x=_:=z;rw[dO] at z';cases z')
  ·obtain⟨c',bU⟩:=B.all x (.inl (lh hf));rcases B.one x c' bU with⟨this,_⟩|⟨_,z,_⟩
   ·rw[hc] at this;cases this;exact⟨c,bU,j6.keeps hk⟩
   ·rw[hf] at z;cases z
 ·rcases B.one x c hx with⟨z,_⟩|⟨_,_,z⟩
  ·obtain⟨v,hv⟩:=I.cell x c z;exact⟨v,hv.keeps hk⟩
  ·exact⟨_,z⟩
 ·rcases B.ex x c hx with z|z
  ·exact I.freeC x c z
  ·exact I.hok.fresh (qt z)
 ·have dg:p∈X.pn++pins:=by simpa[Cx.comp] using hp
  obtain⟨e,n,h1,h2,h3⟩:=I.pin p dg;exact⟨hk _ _ e,n,ig (gZ e),nfs _ h1 h2,h3⟩
theorem xh{N':gf}{scope:gF}{pins:gq}{s3 s4:fQ}{σ σ':St}{H3 H4:Hp}{fp:ic}{cl:iw}{h':fZ}(I:Inv X pins σ H3 s3)(ff: ∀b∈fp,mK X pins H3 b)
  (J:Inv (X.comp N' scope cl s3.heap.objs.size s3 H3 fp pins) [] σ' H4 s4)(hs:Heap.SameBut s3.heap.objs.size s4.heap h'):Inv X pins σ H4 {s4 with heap:=h'}:=by
 have K:=I.call' (s':=s4) (ch:=fp) J.os J.base J.hok J.bare fun b hb=>⟨(ff b hb).2.2.2.1,(ff b hb).2.1,(ff b hb).2.2.2.2.1,(ff b hb).2.2.2.2.2⟩
 have lt1:X.env.locals<s3.heap.objs.size:=I.lt;refine K.turned (it:=s3.heap.objs.size) (t':=s4.toks) (fun b o hb e=>by rw[hs.2 b hb];exact e) J.free (kx lt1) (.inr I.sz) (fun x c hx z=>?_) (fun p hp z=>?_)
 ·obtain⟨v,o,e,_⟩:=I.cell x c hx;exact absurd (gZ e) (by rw[z];exact mn _)
 ·obtain⟨e,_⟩:=I.pin p hp;exact absurd (gZ e) (by rw[z];exact mn _)
def Iz(J:It)(g:TG)(ti:TT)(tb:Addr->TB)(pre:St->St)(σ:St)(H:Hp)(Q:VK):Prop:=
 ∀d,H d=none->zJ J g ti (tb d) (pre σ) (upd H d (.lst [])) fun _ H2=>Q (.ref d) H2
theorem xg{elt:fV}{c:kY}{gE:md}{scope:gF}{pos:Pos}{N':gf}{pre:St->St}{g:TG}{ti:TT}{tb:Addr->TB}{aZ:iw}{J:It}{fp:ic}{it:fM}{tn:Nat->Heap->Prop}
  (S:CompScope X N' scope pre)(hc:X.calm=true)(ha:c.is_async=0)(l9: ∀g',gE[0]?=some g'->g'.is_async=0)
  (aA: ∀(cl:iw) (C:fM) (s3:fQ) (H3:Hp) (fp:ic) (pins:gq),let X':=X.comp N' scope cl C s3 H3 fp pins
   PG X' c.target g/\PIf X' c.ifs ti/\ ∀d,PB X' (gM (.ListComp elt (c::gE) scope pos) 0 (.ref d) X'.env) (tb d))
  (k8: ∀x c,aZ.lookup x=some c->X.env.cells.lookup x=some c)(l6: ∀x,(x,NameKind.free)∈scope.names-> ∃c,aZ.lookup x=some c)
  {pins:gq}{s2:fQ}{σ:St}{H2:Hp}{Q:VK}{E:gw}{RR:Value->Addr->Result->Shared->Prop}(I2:Inv X pins σ H2 s2)(T:Turn X.prog X.w X.K c.target J fp it tn)(h9:tn 0 s2.heap)(f2: ∀b∈fp,mK X pins H2 b)
  (h:Iz J g ti tb pre σ H2 Q)
  (hRR: ∀(d:fM) (cl:iw) (s3:fQ) (H3 H4:Hp) (σ':St) (s4:fQ),Inv X pins σ H3 s3->(∀b∈fp,mK X pins H3 b)->Inv (X.comp N' scope cl s3.heap.objs.size s3 H3 fp pins) [] σ' H4 s4->Q (.ref d) H4->RR (.ref d) s3.heap.objs.size (.ok .next) s4):
  wpAny (model X.prog X.w) X.A (newList []) (fun acc s₃=>wpAny (model X.prog X.w) X.A (newFunctionEnv scope X.env.globals aZ [] X.env.qual none .none (some X.env)) (fun cenv s₄=>
   codeAny (model X.prog X.w) X.A (.compStart (.ListComp elt (c::gE) scope pos) 0 (.ref it) acc {cenv with scope:=relabel scope X.env}) (RR acc cenv.locals) s₄) E s₃) E s2:=by
 have I3:Inv X pins σ (upd H2 s2.heap.objs.size (.lst [])) {s2 with heap:=s2.heap.push {cls:= .type "list",data:= .seq ([]:List Value).toArray}}:=I2.lnew (t':=s2.toks) .nil (by simp);have fo: ∀b∈fp,b<s2.heap.objs.size:=fun b hb=>by obtain⟨o,e,_⟩:=T.obj _ _ h9 b hb;exact gZ e
 have ff: ∀b∈fp,mK X pins (upd H2 s2.heap.objs.size (.lst [])) b:=fun b hb=>⟨by rw[gu (ig (fo b hb))];exact(f2 b hb).1,(f2 b hb).2⟩
 refine ny ?_;refine Fi S.cell k8 l6 fun h1 cl bj hk0 B=>?_;have hk: ∀b o,(s2.heap.push {cls:= .type "list",data:= .seq ([]:List Value).toArray}).get? b=some o->h1.get? b=some o:=hk0;have eS: ∀b∈fp,b<(s2.heap.push {cls:= .type "list",data:= .seq ([]:List Value).toArray}).objs.size:=fun b hb=>by rw[nV];exact Nat.lt_succ_of_lt (fo b hb)
 have J0:=FC (t':=s2.toks) S I3 B ff eS bj hk;obtain⟨pg,bx,pb⟩:=aA cl (s2.heap.push {cls:= .type "list",data:= .seq ([]:List Value).toArray}).objs.size {s2 with heap:=s2.heap.push {cls:= .type "list",data:= .seq ([]:List Value).toArray}} (upd H2 s2.heap.objs.size (.lst [])) fp pins;have u0:tn 0 h1:=T.keep _ _ _ h9 fun b hb o e=>hk b o (hW _ e);have hw:=h s2.heap.objs.size (I2.hok.fresh (gO _))
 have ff': ∀b∈fp,mK (X.comp N' scope cl (s2.heap.push {cls:= .type "list",data:= .seq ([]:List Value).toArray}).objs.size {s2 with heap:=s2.heap.push {cls:= .type "list",data:= .seq ([]:List Value).toArray}} (upd H2 s2.heap.objs.size (.lst [])) fp pins) []
   (upd H2 s2.heap.objs.size (.lst [])) b:=fun b hb=>by
  obtain⟨z1,z2,z3,z4,z5,z6⟩:=ff b hb;refine⟨z1,ig (eS b hb),fun z=>(jC.mp (I3.stkSub b z)).elim z2 z3,.inl hb,fun x c hx=>(B.ex x c hx).elim (z5 x c) fun z=>kx (Nat.lt_trans (eS b hb) z),fun p hp=>z6 p (by simpa[Cx.comp] using hp)⟩
 have hl:(∃el gens sc p,Expr.ListComp elt (c::gE) scope pos= .ListComp el gens sc p)\/(∃el gens sc p,Expr.ListComp elt (c::gE) scope pos= .SetComp el gens sc p):= .inl ⟨_,_,_,_,rfl⟩;refine vV hl rfl ha ?_ (fun Q' E' hq=>T.self X.A 0 _ Q' E' u0 hq)
 refine pA (Ag (X:=X.comp N' scope cl (s2.heap.push {cls:= .type "list",data:= .seq ([]:List Value).toArray}).objs.size {s2 with heap:=s2.heap.push {cls:= .type "list",data:= .seq ([]:List Value).toArray}} (upd H2 s2.heap.objs.size (.lst [])) fp pins)
  (depth:=0) (acc:= .ref s2.heap.objs.size) rfl hc hl rfl ha (fun g' hg'=>l9 g' (by simpa[clausesOf] using hg')) T pg bx (pb _) J0 ff' u0 hw) fun r s4 hr=>?_
 obtain⟨rfl,σ4,H4,I4,_,q⟩:=hr;exact hRR _ _ _ _ _ _ _ I3 ff I4 q
noncomputable def Cs(wi:TI)(g:TG)(ti:TT)(tb:Addr->TB)(pre:St->St):TE:=fun σ H Q=>wi σ H fun J H1=>Iz J g ti tb pre σ H1 Q
theorem Dd{elt:fV}{c:kY}{gE:md}{scope:gF}{pos:Pos}{N':gf}{pre:St->St}{wi:TI}{g:TG}{ti:TT}{tb:Addr->TB}
  (S:CompScope X N' scope pre)(hc:X.calm=true)(ha:c.is_async=0)(l9: ∀g',gE[0]?=some g'->g'.is_async=0)
  (hs: ∀x,foldedSetIterable c.iter X.env x=pure x)(pi:PI X c.target c.iter wi)
  (aA: ∀(cl:iw) (C:fM) (s3:fQ) (H3:Hp) (fp:ic) (pins:gq),let X':=X.comp N' scope cl C s3 H3 fp pins
   PG X' c.target g/\PIf X' c.ifs ti/\ ∀d,PB X' (gM (.ListComp elt (c::gE) scope pos) 0 (.ref d) X'.env) (tb d)):
  PE X (.ListComp elt (c::gE) scope pos) (Cs wi g ti tb pre):=by
 intro pins s σ H Q I h;obtain⟨tg,cN,ifs,az⟩:=c;obtain rfl:az=0:=ha;obtain⟨cl,aj,k8,l6⟩:=nN X.env scope fun x hx hf=>I.ok.has x.1 (S.free x hx hf);rw[eval_ListComp];show wpAny _ X.A (comprehension _ scope X.env _ (newList []) false (eval cN X.env)) _ _ s;refine BH (use:=none) (g:=⟨tg,cN,ifs,0⟩) (gs:=gE) rfl hs aj S.kind S.names (thn (pi pins s σ H _ I h) fun v s1 h1=>thn h1 fun de s2 h2=>?_);obtain⟨it,fp,tn,J,H2,rfl,I2,T,h9,f2,hw⟩:=h2;refine xg (RR:=fun acc C=>compPost (model X.prog X.w) X.A X.xe none (EP X pins σ Q) acc C) S hc rfl l9 aA k8 l6 I2 T h9 f2 hw fun d cl' s3 H3 H4 σ' s4 I3 ff J4 q=>?_;obtain⟨m,hn,_⟩:=id J4.loc;exact⟨m,hn,fun h' bB=>⟨.ref d,H4,xh I3 ff J4 bB,rfl,q⟩⟩
theorem CW{elt:fV}{c:kY}{gE:md}{scope:gF}{pos i5 py:Pos}{N':gf}{pre:St->St}{wi:TI}{g:TG}{ti:TT}{tb:Addr->TB}{y:Str}{i:Nat}
  (bA:swapsWith (.ListComp elt (c::gE) scope pos) (some (.Name y py)) i5.line X.env=pure true)
  (S:CompScope X N' scope pre)(hc:X.calm=true)(ha:c.is_async=0)(l9: ∀g',gE[0]?=some g'->g'.is_async=0)
  (hs: ∀x,foldedSetIterable c.iter X.env x=pure x)(pi:PI X c.target c.iter wi)(eA:PG X (.Name y py) (wJ i))
  (aA: ∀(cl:iw) (C:fM) (s3:fQ) (H3:Hp) (fp:ic) (pins:gq),let X':=X.comp N' scope cl C s3 H3 fp pins
   PG X' c.target g/\PIf X' c.ifs ti/\ ∀d,PB X' (gM (.ListComp elt (c::gE) scope pos) 0 (.ref d) X'.env) (tb d)):
  PS X (.Assign [.Name y py] (.ListComp elt (c::gE) scope pos) i5) (Gw (Cs wi g ti tb pre) (wJ i)):=by
 intro pins s σ H D I h;obtain⟨tg,cN,ifs,az⟩:=c;obtain rfl:az=0:=ha;obtain⟨cl,aj,k8,l6⟩:=nN X.env scope fun x hx hf=>I.ok.has x.1 (S.free x hx hf);rw[exec_Assign_Name_used _ _ _ _ bA];refine fU (sG (fU ?_));show wpAny _ X.A (do let _ <-comprehension (.ListComp elt (⟨tg,cN,ifs,0⟩::gE) scope pos) scope X.env _ (newList []) false (eval cN X.env) (some (assign (.Name y py) X.env))) _ _ s
 refine fU (ky (BH (use:=some (assign (.Name y py) X.env)) (g:=⟨tg,cN,ifs,0⟩) (gs:=gE) (Q:=fun _ s'=>SP X pins D .next s') rfl hs aj S.kind S.names
  (thn (pi pins s σ H _ I h) fun v s1 h1=>thn h1 fun de s2 h2=>?_)) (fun _ s' hq=>gv (gv hq)) fun _ _ e=>e)
 obtain⟨it,fp,tn,J,H2,rfl,I2,T,h9,f2,hw⟩:=h2;refine xg (RR:=fun acc C=>compPost (model X.prog X.w) X.A X.xe (some (assign (.Name y py) X.env)) (fun _ s'=>SP X pins D .next s') acc C) S hc rfl l9 aA k8 l6 I2 T h9 f2 hw fun d cl' s3 H3 H4 σ' s4 I3 ff J4 q=>?_;obtain⟨m,hn,_⟩:=id J4.loc;obtain⟨oC,es,ep,ho,hd,hr⟩:=id hn;have IX:Inv X pins σ H4 s4:=xh I3 ff J4 (Heap.SameBut.refl ..);have hCl:s3.heap.objs.size≠X.env.locals:=kx I3.lt;have hCf:s3.heap.objs.size∉X.fs:=fun z=>I3.nofs (gO _) z
 have IP:Inv X (pins++[(s3.heap.objs.size,oC)]) σ H4 s4:=IX.pins_of fun p hp=>by
  rcases pS.mp hp with z|z
  ·exact IX.pin p (lj _ z)
  ·rcases ma.mp z with rfl
   exact⟨ho,J4.free,hCl,hCf,fun v z=>by rw[hd] at z;cases z⟩
 show wpAny _ X.A (assign (.Name y py) X.env (.ref d)) _ _ _;refine thn (eA _ s4 σ H4 (.ref d) (.ref d) _ IP rfl q) fun _ s5 ⟨σ5,H5,I5,q5⟩=>?_;have pC:=I5.pin (s3.heap.objs.size,oC) (by simp);refine⟨m,⟨oC,es,ep,pC.1,hd,hr⟩,fun h' bB=>⟨σ5,H5,?_,q5⟩⟩;refine I5.unpinned.turned (it:=s3.heap.objs.size) (t':=s5.toks) (fun b o hb e=>by rw[bB.2 b hb];exact e) pC.2.1 hCl (.inr I3.sz) (fun x c hx z=>?_) (fun p hp z=>?_)
 ·obtain⟨v,o,e,_⟩:=I3.cell x c hx;exact absurd (gZ e) (by rw[z];exact mn _)
 ·obtain⟨e,_⟩:=I3.pin p hp;exact absurd (gZ e) (by rw[z];exact mn _)
end
section
variable {κ:Type}[DecidableEq κ]
end
section
variable {P:gi}{w:gd}{H:Hp}{h:fZ}{a:fM}
end
section
variable {X:Cx}{pins:gq}{σ:St}{H:Hp}{s:fQ}{a:fM}{y v:V}{u r:fW}{o:Option V}{A:gc}{E:gw}
end
section
variable {X:Cx}{pos:Pos}
end
end L2
namespace PX
open PySem PySem.Spec PyProof.Rows L2
inductive OK where
 |dct|set|fn(i:Nat)|exc(c:Nat)
 deriving DecidableEq
inductive D where
 |non|bl(b:Bool)|int(i:Int)|str(x:Str)|tup(l:List D)|lst(l:List D)|oth(k:OK)(ks vs:List D)
mutual
/-- the hash of ints and of tuples of such -/
noncomputable def D.hash:D->Int
 | .int i=>hashInt i
 | .tup l=>reduceHash (Builtin.Tuple.tupleHashOf (D.hashL l))
 |_=>0
noncomputable def D.hashL:List D->List Int
 |[]=>[]
 |d::l=>D.hash d::D.hashL l
end
noncomputable def I9:Key->D
 | .inl i=> .int i
 | .inr x=> .str x
def K9(K:fX)(o:Obj)(C:Nat):Prop:=o.cls= .ref C/\(∀a:Addr,PySem.W.KitX K (.ref a) (.ref C) fun h=>h.get? a=some o)/\ ∀n∈["int","bool","str","tuple","list","dict"],PySem.W.kitOne K (.ref C) (.type n)=some false
def OthB(K:fX)(h:Option HO)(k:OK)(ks vs:List D)(us:List V):Prop:=
 match k with
 | .dct=>(∃l3:List (Key×V),h=some (.dK l3)/\ks=l3.map (fun p=>I9 p.1)/\us=l3.map (·.2))\/
   (∃l3:List (List Key×V),h=some (.dT l3)/\ks=l3.map (fun p=> .tup (p.1.map I9))/\us=l3.map (·.2))
 | .set=>ks=[]/\ ∃zs:List (Int×V),h=some (.stt zs)/\zs.Perm ((D.hashL vs).zip us)
 | .exc C=>(ks=[]/\vs=[]/\us=[])/\ ∃o,h=some (.frz o (.own 0))/\K9 K o C
 |_=>False
theorem OthB.ex{K h k ks vs us}(x:OthB K h k ks vs us): ∃o,h=some o:=by
 cases k with
 |dct=>rcases x with⟨_,e,_⟩|⟨_,e,_⟩<;>exact⟨_,e⟩
 |set=>obtain⟨_,_,e,_⟩:=x;exact⟨_,e⟩
 |exc C=>obtain⟨_,_,e,_⟩:=x;exact⟨_,e⟩
 |_=>exact x.elim
theorem OthB.keep{K k ks vs us}(x:OthB K h k ks vs us)(kp: ∀o,h=some o->h'=some o):OthB K h' k ks vs us:=by
 obtain⟨o,e⟩:=x.ex;rw[kp o e,<-e];exact x
abbrev AP':=Addr->Prop
def KL(K:fX)(a:fM)(xs:List V):Prop:= ∃(o:Obj) (b6:jR) (n:Nat),K.lookup a=some o/\o.cls= .type "list"/\o.dict=none/\o.data= .seq b6 n/\b6.size<=sizeLine/\Vals xs b6.toList
def SqTO(K:fX)(H:Hp)(O:AP')(a:fM)(xs:List V):Prop:=H a=some (.tup xs)/\ ¬O a
def SqLO(K:fX)(H:Hp)(O:AP')(a:fM)(xs:List V):Prop:=(Rd H a (.lst xs)/\ ¬O a)\/KL K a xs
theorem SqTO.sq{K H O a xs}(h:SqTO K H O a xs):SqT K H a xs:= .inl (.inl h.1)
theorem SqLO.sq{K H O a xs}(h:SqLO K H O a xs):SqL K H a xs:=h.elim (fun z=> .inl z.1) .inr
theorem Rd.mono{a u}(h:Rd H a u)(k: ∀o,H a=some o->H' a=some o):Rd H' a u:=by
 rcases h with h|⟨o,h⟩
 ·exact .inl (k _ h)
 ·exact .inr ⟨o,k _ h⟩
theorem SqTO.mono{K H H'}{a xs}(h:SqTO K H O a xs)(k: ∀b o,H b=some o-> ¬O b->H' b=some o)(hO: ∀b,H b≠none->O' b->O b):SqTO K H' O' a xs:=
 ⟨k a _ h.1 h.2,fun z=>h.2 (hO a (by rw[h.1];simp) z)⟩
theorem SqLO.mono{K H H'}{a xs}(h:SqLO K H O a xs)(k: ∀b o,H b=some o-> ¬O b->H' b=some o)(hO: ∀b,H b≠none->O' b->O b):SqLO K H' O' a xs:=by
 rcases h with⟨r,n⟩|h
 ·refine .inl ⟨Rd.mono r fun o e=>k a o e n,fun z=>n (hO a ?_ z)⟩;rcases r with r|⟨_,r⟩<;>(rw[r];simp)
 ·exact .inr h
mutual
/-- v is the datum,in H;nothing of it stands at an address of O -/
def Rep(K:fX)(H:Hp)(O:AP'):D->V->Prop
 | .non,v=>v= .non
 | .bl b,v=>v= .bl b
 | .int i,v=>v= .int i
 | .str x,v=>v= .str x
 | .tup l,v=> ∃a xs,v= .ref a/\SqTO K H O a xs/\RepL K H O l xs
 | .lst l,v=> ∃a xs,v= .ref a/\SqLO K H O a xs/\RepL K H O l xs
 | .oth k ks vs,v=> ∃a us,v= .ref a/\(¬O a/\OthB K (H a) k ks vs us)/\RepL K H O vs us
def RepL(K:fX)(H:Hp)(O:AP'):List D->List V->Prop
 |[],vs=>vs=[]
 |d::l,vs=> ∃v r,vs=v::r/\Rep K H O d v/\RepL K H O l r
end
mutual
theorem Rep.mono{K H H'}{O O':AP'}(k: ∀b o,H b=some o-> ¬O b->H' b=some o)(hO: ∀b,H b≠none->O' b->O b): ∀{d:D} {v:V},Rep K H O d v->Rep K H' O' d v
 | .non,_,h=>h
 | .bl _,_,h=>h
 | .int _,_,h=>h
 | .str _,_,h=>h
 | .tup l,_,h=>by
  rw[Rep] at h ⊢;obtain⟨a,xs,e,s,r⟩:=h;exact⟨a,xs,e,s.mono k hO,RepL.mono k hO r⟩
 | .lst l,_,h=>by
  rw[Rep] at h ⊢;obtain⟨a,xs,e,s,r⟩:=h;exact⟨a,xs,e,s.mono k hO,RepL.mono k hO r⟩
 | .oth kk ks vs,_,h=>by
  rw[Rep] at h ⊢;obtain⟨a,us,e,s,r⟩:=h;exact⟨a,us,e,⟨fun z=>s.1 (hO a (by obtain⟨o,q⟩:=s.2.ex;rw[q];simp) z),s.2.keep fun o q=>k a o q s.1⟩,RepL.mono k hO r⟩
theorem RepL.mono{K H H'}{O O':AP'}(k: ∀b o,H b=some o-> ¬O b->H' b=some o)(hO: ∀b,H b≠none->O' b->O b): ∀{l:List D} {vs:List V},RepL K H O l vs->RepL K H' O' l vs
 |[],_,h=>h
 |d::l,_,h=>by
  rw[RepL] at h ⊢;obtain⟨v,r,e,h1,h2⟩:=h;exact⟨v,r,e,Rep.mono k hO h1,RepL.mono k hO h2⟩
end
theorem Rep.mkInt{K H O i}:Rep K H O (.int i) (.int i):=by rw[Rep]
theorem Rep.mkBl{K H O i}:Rep K H O (.bl i) (.bl i):=by rw[Rep]
theorem Rep.mkNon{K H O}:Rep K H O .non .non:=by rw[Rep]
theorem Rep.mkStr{K H O i}:Rep K H O (.str i) (.str i):=by rw[Rep]
theorem Rep.int{K H O i v}(h:Rep K H O (.int i) v):v= .int i:=by rwa [Rep] at h
theorem Rep.bl{K H O i v}(h:Rep K H O (.bl i) v):v= .bl i:=by rwa [Rep] at h
theorem Rep.non{K H O v}(h:Rep K H O .non v):v= .non:=by rwa [Rep] at h
theorem Rep.str{K H O i v}(h:Rep K H O (.str i) v):v= .str i:=by rwa [Rep] at h
theorem Rep.tup{K H O l v}(h:Rep K H O (.tup l) v): ∃a xs,v= .ref a/\SqTO K H O a xs/\RepL K H O l xs:=by rwa [Rep] at h
theorem Rep.lst{K H O l v}(h:Rep K H O (.lst l) v): ∃a xs,v= .ref a/\SqLO K H O a xs/\RepL K H O l xs:=by rwa [Rep] at h
theorem Rep.oth{K H O k ks vs v}(h:Rep K H O (.oth k ks vs) v): ∃a us,v= .ref a/\(¬O a/\OthB K (H a) k ks vs us)/\RepL K H O vs us:=by rwa [Rep] at h
theorem Rep.mkOth{K H O k ks vs a us}(n: ¬O a)(h:OthB K (H a) k ks vs us)(r:RepL K H O vs us):Rep K H O (.oth k ks vs) (.ref a):=by rw[Rep];exact⟨a,us,rfl,⟨n,h⟩,r⟩
theorem Rep.mkTup{K H O l a xs}(h:SqTO K H O a xs)(r:RepL K H O l xs):Rep K H O (.tup l) (.ref a):=by rw[Rep];exact⟨a,xs,rfl,h,r⟩
theorem Rep.mkLst{K H O l a xs}(h:SqLO K H O a xs)(r:RepL K H O l xs):Rep K H O (.lst l) (.ref a):=by rw[Rep];exact⟨a,xs,rfl,h,r⟩
theorem RepL.length{K H O}: ∀{l:List D} {vs:List V},RepL K H O l vs->vs.length=l.length
 |[],vs,h=>by rw[RepL] at h;rw[h];rfl
 |d::l,vs,h=>by
  rw[RepL] at h;obtain⟨v,r,rfl,_,h2⟩:=h;simp[RepL.length h2]
theorem RepL.get{K H O}: ∀{l:List D} {vs:List V} {i:Nat} {d:D},RepL K H O l vs->l[i]?=some d-> ∃v,vs[i]?=some v/\Rep K H O d v
 |[],_,_,_,_,e=>by simp at e
 |d::l,vs,0,d',h,e=>by
  rw[RepL] at h;obtain⟨v,r,rfl,h1,_⟩:=h;simp at e;subst e;exact⟨v,rfl,h1⟩
 |d::l,vs,i+1,d',h,e=>by
  rw[RepL] at h;obtain⟨v,r,rfl,_,h2⟩:=h;obtain⟨w,h3,h4⟩:=RepL.get (i:=i) h2 (by simpa using e);exact⟨w,by simpa using h3,h4⟩
theorem RepL.append{K H O}: ∀{l m:List D} {vs ws:List V},RepL K H O l vs->RepL K H O m ws->RepL K H O (l++m) (vs++ws)
 |[],_,vs,_,h,h'=>by rw[RepL] at h;subst h;exact h'
 |d::l,_,vs,_,h,h'=>by
  rw[RepL] at h;obtain⟨v,r,rfl,h1,h2⟩:=h;show RepL K H O (d::(l++_)) _;rw[RepL];exact⟨v,_,rfl,h1,RepL.append h2 h'⟩
theorem RepL.one{K H O}{d:D}{v:V}(h:Rep K H O d v):RepL K H O [d] [v]:=by
 rw[RepL];exact⟨v,[],rfl,h,by rw[RepL]⟩
theorem RepL.nil{K H O}:RepL K H O [] []:=by rw[RepL]
theorem RepL.cons{K H O}{l vs}(h:Rep K H O d v)(h':RepL K H O l vs):RepL K H O (d::l) (v::vs):=by
 rw[RepL];exact⟨v,vs,rfl,h,h'⟩
theorem RepL.take{K H O}: ∀{l:List D} {vs:List V} (n:Nat),RepL K H O l vs->RepL K H O (l.take n) (vs.take n)
 |_,_,0,_=>by simp[RepL]
 |[],vs,n+1,h=>by rw[RepL] at h;subst h;simp[RepL]
 |d::l,vs,n+1,h=>by
  rw[RepL] at h;obtain⟨v,r,rfl,h1,h2⟩:=h;exact RepL.cons h1 (RepL.take n h2)
theorem RepL.drop{K H O}: ∀{l:List D} {vs:List V} (n:Nat),RepL K H O l vs->RepL K H O (l.drop n) (vs.drop n)
 |_,_,0,h=>h
 |[],vs,n+1,h=>by rw[RepL] at h;subst h;simp[RepL]
 |d::l,vs,n+1,h=>by
  rw[RepL] at h;obtain⟨v,r,rfl,h1,h2⟩:=h;exact RepL.drop n h2
theorem RepL.set{K H O}{d:D}{v:V}(hv:Rep K H O d v): ∀{l:List D} {vs:List V} (i:Nat),RepL K H O l vs->RepL K H O (l.set i d) (vs.set i v)
 |[],vs,i,h=>by rw[RepL] at h;subst h;simp[RepL]
 |e::l,vs,0,h=>by
  rw[RepL] at h;obtain⟨w,r,rfl,h1,h2⟩:=h;exact RepL.cons hv h2
 |e::l,vs,i+1,h=>by
  rw[RepL] at h;obtain⟨w,r,rfl,h1,h2⟩:=h;exact RepL.cons h1 (RepL.set hv i h2)
abbrev Sl:=Option (D×Bool)
abbrev Dn:=List Sl
def OwnA(σ:L2.St)(δ:Dn)(a:fM):Prop:= ∃(i:Nat) (d:D),δ[i]?=some (some (d,true))/\σ[i]?=some (some (V.ref a))
def OwnOk(K:fX)(H:Hp)(O:AP'):D->Addr->Prop
 | .lst l,a=> ∃xs,H a=some (.lst xs)/\RepL K H O l xs
 | .oth k ks vs,a=> ∃us,OthB K (H a) k ks vs us/\RepL K H O vs us
 |_,_=>False
theorem OwnOk.mono{K H H'}(h:OwnOk K H O d a)(k: ∀b o,H b=some o-> ¬O b->H' b=some o)(hO: ∀b,H b≠none->O' b->O b)(ka: ∀o,H a=some o->H' a=some o):OwnOk K H' O' d a:=by
 cases d with
 |lst l=>obtain⟨xs,e,r⟩:=h;exact⟨xs,ka _ e,RepL.mono k hO r⟩
 |oth kk ks vs=>obtain⟨us,e,r⟩:=h;exact⟨us,e.keep ka,RepL.mono k hO r⟩
 |_=>exact h
theorem OwnOk.rep{K H}(h:OwnOk K H O d a)(na: ¬O' a)(hO: ∀b,H b≠none->O' b->O b):Rep K H O' d (.ref a):=by
 cases d with
 |lst l=>
  obtain⟨xs,e,r⟩:=h;rw[Rep];exact⟨a,xs,rfl,.inl ⟨.inl e,na⟩,RepL.mono (fun b o e _=>e) hO r⟩
 |oth kk ks vs=>
  obtain⟨us,e,r⟩:=h;exact Rep.mkOth na e (RepL.mono (fun b o e _=>e) hO r)
 |_=>exact h.elim
def Ow:Option HO->Prop
 |none=>False
 |some (.tup _)=>False
 |_=>True
theorem Ow.ne{o:Option HO}(h:Ow o):o≠none:=fun e=>by rw[e] at h;exact h
theorem Ow.up{o o':Option HO}(h:Ow o)(k: ∀x,o=some x->o'=some x):Ow o':=by
 cases o with
 |none=>exact h.elim
 |some x=>rw[k x rfl];exact h
theorem nOw{o:Option HO}(h:o=none): ¬Ow o:=fun z=>z.ne h
theorem OwnOk.ow{K H}{O:AP'}{d:D}{a:fM}(h:OwnOk K H O d a):Ow (H a):=by
 cases d with
 |lst l=>obtain⟨xs,e,_⟩:=h;rw[e];trivial
 |oth k ks vs=>
  obtain⟨us,e,_⟩:=h
  cases k with
  |dct=>rcases e with⟨_,e,_⟩|⟨_,e,_⟩<;>(rw[e];trivial)
  |set=>obtain⟨_,_,e,_⟩:=e;rw[e];trivial
  |exc C=>obtain⟨_,_,e,_⟩:=e;rw[e];trivial
  |_=>exact e.elim
 |_=>exact h.elim
structure ER(K:fX)(H:Hp)(T:AP')(σ:L2.St)(δ:Dn):Prop where
 len:σ.length=δ.length
 val: ∀(i:Nat) (d:D),δ[i]?=some (some (d,false))-> ∃v,σ[i]?=some (some v)/\Rep K H (fun a=>OwnA σ δ a\/T a) d v
 own: ∀(i:Nat) (d:D),δ[i]?=some (some (d,true))-> ∃a,σ[i]?=some (some (V.ref a))/\OwnOk K H (fun a=>OwnA σ δ a\/T a) d a
 inj: ∀(i j:Nat) (d e:D) (a:fM),δ[i]?=some (some (d,true))->δ[j]?=some (some (e,true))->σ[i]?=some (some (V.ref a))->σ[j]?=some (some (V.ref a))->i=j
 nT: ∀a,OwnA σ δ a-> ¬T a
 dom: ∀a,T a->Ow (H a)
theorem ER.ownOw{K H T σ δ}(E:ER K H T σ δ)(h:OwnA σ δ a):Ow (H a):=by
 obtain⟨i,d,h1,h2⟩:=h;obtain⟨b,h3,h4⟩:=E.own i d h1;rw[h2] at h3;cases h3;exact h4.ow
theorem ER.ownDom{K H T σ δ}(E:ER K H T σ δ)(h:OwnA σ δ a):H a≠none:=(E.ownOw h).ne
theorem ER.mono{K H H' σ δ}(E:ER K H T σ δ)(k: ∀b o,H b=some o-> ¬T b->H' b=some o)(hT: ∀b,H b≠none->T' b->T b)(hd: ∀a,T' a->Ow (H' a)):ER K H' T' σ δ where
 len:=E.len
 val:=fun i d h=>by
  obtain⟨v,h1,h2⟩:=E.val i d h;exact⟨v,h1,Rep.mono (fun b o e n=>k b o e fun z=>n (.inr z)) (fun b hb z=>z.elim .inl fun z=> .inr (hT b hb z)) h2⟩
 own:=fun i d h=>by
  obtain⟨a,h1,h2⟩:=E.own i d h;exact⟨a,h1,h2.mono (fun b o e n=>k b o e fun z=>n (.inr z)) (fun b hb z=>z.elim .inl fun z=> .inr (hT b hb z)) fun o e=>k a o e (E.nT a ⟨i,d,h,h1⟩)⟩
 inj:=E.inj
 nT:=fun a h z=>E.nT a h (hT a (E.ownDom h) z)
 dom:=hd
theorem OwnA.set(h:OwnA σ (δ.set i (some (d,false))) a):OwnA σ δ a:=by
 obtain⟨j,e,h1,h2⟩:=h;rw[qA] at h1;split at h1
 ·split at h1<;>simp at h1
 ·exact⟨j,e,h1,h2⟩
theorem ER.freeze{K H T σ δ}(E:ER K H T σ δ){i:Nat}{d:D}{b:Bool}(h:δ[i]?=some (some (d,b))):ER K H T σ (δ.set i (some (d,false)))/\ ∃v,σ[i]?=some (some v)/\Rep K H (fun a=>OwnA σ (δ.set i (some (d,false))) a\/T a) d v:=by
 have hi:i<δ.length:=(pR.mp h).1
 have me: ∃v,σ[i]?=some (some v)/\Rep K H (fun a=>OwnA σ (δ.set i (some (d,false))) a\/T a) d v:=by
  cases b with
  |false=>
   obtain⟨v,h1,h2⟩:=E.val i d h;exact⟨v,h1,Rep.mono (fun _ _ e _=>e) (fun b _ z=>z.elim (fun z=> .inl z.set) .inr) h2⟩
  |true=>
   obtain⟨a,h1,h2⟩:=E.own i d h;refine⟨.ref a,h1,h2.rep (fun z=>?_) fun b _ z=>z.elim (fun z=> .inl z.set) .inr⟩;rcases z with⟨j,e,h3,h4⟩|z
   ·rw[qA] at h3;split at h3
    ·first
      |(split at h3<;>simp at h3)
      |simp at h3
    ·rename_i ai;exact ai (E.inj i j d e a h h3 h1 h4)
   ·exact E.nT a ⟨i,d,h,h1⟩ z
 refine⟨⟨by rw[nu];exact E.len,fun j e hj=>?_,fun j e hj=>?_,fun j k e f a hj hk h1 h2=>?_,fun a z=>E.nT a z.set,E.dom⟩,me⟩
 ·by_cases l8:i=j
  ·subst l8;rw[jJ hi] at hj;cases hj;exact me
  ·rw[kz l8] at hj;obtain⟨v,h1,h2⟩:=E.val j e hj;exact⟨v,h1,Rep.mono (fun _ _ e _=>e) (fun b _ z=>z.elim (fun z=> .inl z.set) .inr) h2⟩
 ·by_cases l8:i=j
  ·subst l8;rw[jJ hi] at hj;cases hj
  ·rw[kz l8] at hj;obtain⟨a,h1,h2⟩:=E.own j e hj;exact⟨a,h1,h2.mono (fun _ _ e _=>e) (fun b _ z=>z.elim (fun z=> .inl z.set) .inr) fun _ e=>e⟩
 ·have g1:δ[j]?=some (some (e,true)):=by
   by_cases l8:i=j
   ·subst l8;rw[jJ hi] at hj;cases hj
   ·rwa [kz l8] at hj
  have g2:δ[k]?=some (some (f,true)):=by
   by_cases l8:i=k
   ·subst l8;rw[jJ hi] at hk;cases hk
   ·rwa [kz l8] at hk
  exact E.inj j k e f a g1 g2 h1 h2
def OwnI(σ:L2.St)(δ:Dn)(i:Nat)(a:fM):Prop:= ∃d:D,δ[i]?=some (some (d,true))/\σ[i]?=some (some (V.ref a))
structure Keep(σ:L2.St)(δ:Dn)(H:Hp)(δ':Dn)(H':Hp):Prop where
 kp: ∀a o,H a=some o-> ¬OwnA σ δ a->H' a=some o
 owi: ∀i a,OwnI σ δ' i a->OwnI σ δ i a
 dm: ∀a,H a≠none->H' a≠none
theorem Keep.ow{σ δ H δ' H'}(k:Keep σ δ H δ' H')(a:fM)(h:OwnA σ δ' a):OwnA σ δ a:=by
 obtain⟨i,d,h1,h2⟩:=h;obtain⟨e,h3,h4⟩:=k.owi i a ⟨d,h1,h2⟩;exact⟨i,e,h3,h4⟩
theorem Keep.refl{σ δ H}:Keep σ δ H δ H:=⟨fun _ _ e _=>e,fun _ _ z=>z,fun _ z=>z⟩
theorem Keep.trans{σ δ δ1 δ2 H H1 H2}(x:Keep σ δ H δ1 H1)(y:Keep σ δ1 H1 δ2 H2):Keep σ δ H δ2 H2:=
 ⟨fun a o e n=>y.kp a o (x.kp a o e n) fun z=>n (x.ow a z),fun i a z=>x.owi i a (y.owi i a z),fun a z=>y.dm a (x.dm a z)⟩
theorem Keep.ext{σ δ H H1}(k: ∀a o,H a=some o->H1 a=some o):Keep σ δ H δ H1:=⟨fun a o e _=>k a o e,fun _ _ z=>z,fun a z=>by
 cases h:H a with
 |none=>exact absurd h z
 |some o=>rw[k a o h];simp⟩
theorem OwnI.set(h:OwnI σ (δ.set i (some (d,false))) j a):OwnI σ δ j a:=by
 obtain⟨e,h1,h2⟩:=h;rw[qA] at h1;split at h1
 ·split at h1<;>simp at h1
 ·exact⟨e,h1,h2⟩
theorem Keep.set{σ δ H i d}:Keep σ δ H (δ.set i (some (d,false))) H:=⟨fun _ _ e _=>e,fun _ _ z=>z.set,fun _ z=>z⟩
def Post(K:fX)(T:AP')(σ:L2.St)(δ:Dn)(H:Hp)(r:D×Bool)(δ':Dn)(v:V)(H':Hp):Prop:=
 Keep σ δ H δ' H'/\
 match r with
 |(d,false)=>ER K H' T σ δ'/\Rep K H' (fun a=>OwnA σ δ' a\/T a) d v
 |(d,true)=> ∃p,v= .ref p/\H p=none/\ER K H' (fun a=>T a\/a=p) σ δ'/\OwnOk K H' (fun a=>OwnA σ δ' a\/T a\/a=p) d p
abbrev F:=Dn->Option ((D×Bool)×Dn)
def tF(K:fX)(f:F):TE:=fun σ H Q=> ∃δ T r δ',ER K H T σ δ/\f δ=some (r,δ')/\ ∀v H',Post K T σ δ H r δ' v H'->Q v H'
def PX(X:Cx)(e:fV)(f:F):Prop:=PE X e (tF X.K f)
noncomputable def Tmp(T:AP')(r:D×Bool)(v:V):AP':=fun a=>T a\/(r.2=true/\v= .ref a)
section
variable {K:fX}{T:AP'}{σ:L2.St}{δ δ1 δ2:Dn}{H H1 H2:Hp}{x y:D×Bool}{v u:V}
theorem Post.er(E:ER K H T σ δ)(P:Post K T σ δ H x δ1 v H1):ER K H1 (Tmp T x v) σ δ1:=by
 obtain⟨d,b⟩:=x
 cases b with
 |false=>
  refine P.2.1.mono (fun _ _ e _=>e) (fun b _ z=>z.elim id fun z=>absurd z.1 (by simp)) (fun a z=>?_);rcases z with z|z
  ·exact P.2.1.dom a z
  ·exact absurd z.1 (by simp)
 |true=>
  obtain⟨p,rfl,hp,E1,o1⟩:=P.2;refine E1.mono (fun _ _ e _=>e) (fun b _ z=>z.elim .inl fun z=> .inr (by have:=z.2;cases this;rfl)) (fun a z=>?_);rcases z with z|z
  ·exact E1.dom a (.inl z)
  ·have:=z.2;cases this;exact E1.dom _ (.inr rfl)
theorem Post.rep(E:ER K H T σ δ)(P:Post K T σ δ H x δ1 v H1):ER K H1 T σ δ1/\Rep K H1 (fun a=>OwnA σ δ1 a\/T a) x.1 v:=by
 obtain⟨d,b⟩:=x
 cases b with
 |false=>exact P.2
 |true=>
  obtain⟨p,rfl,hp,E1,o1⟩:=P.2;refine⟨E1.mono (fun _ _ e _=>e) (fun b _ z=> .inl z) (fun a z=>E1.dom a (.inl z)),o1.rep (fun z=>?_) fun b _ z=>z.elim .inl fun z=> .inr (.inl z)⟩;rcases z with z|z
  ·exact E1.nT p z (.inr rfl)
  ·exact(E.dom p z).ne hp
theorem Post.val(k:Keep σ δ H δ2 H2)(E:ER K H2 T σ δ2)(r:Rep K H2 (fun a=>OwnA σ δ2 a\/T a) d w):Post K T σ δ H (d,false) δ2 w H2:=⟨k,E,r⟩
end
theorem fY{α β:Type}{a a':α}{b b':β}(h:some (a,b)=some (a',b')):a=a'/\b=b':=by cases h;exact⟨rfl,rfl⟩
noncomputable def fC(d:D):F:=fun δ=>some ((d,false),δ)
noncomputable def hJ(i:Nat):F:=fun δ=>match δ[i]? with
 |some (some (d,_))=>some ((d,false),δ.set i (some (d,false)))
 |_=>none
section
variable {X:Cx}{a b c:fV}{pos:Pos}{fa fb fc:F}
theorem PX.imp(h:PE X e t)(k: ∀σ H Q,tF X.K f σ H Q->t σ H Q):PX X e f:=fun pins s σ H Q I hw=>h pins s σ H Q I (k σ H Q hw)
theorem GQ{i j}:PX X (.Constant (.int i) j pos) (fC (.int i)):=PX.imp Hk fun σ H Q h=>by
 obtain⟨δ,T,r,δ',E,e,k⟩:=h;cases e;exact k _ _ (Post.val .refl E (by first|exact Rep.mkInt|exact Rep.mkBl|exact Rep.mkNon|exact Rep.mkStr))
theorem F3{i j}:PX X (.Constant (.bool i) j pos) (fC (.bl i)):=PX.imp IT fun σ H Q h=>by
 obtain⟨δ,T,r,δ',E,e,k⟩:=h;cases e;exact k _ _ (Post.val .refl E (by first|exact Rep.mkInt|exact Rep.mkBl|exact Rep.mkNon|exact Rep.mkStr))
theorem GL{j}:PX X (.Constant .none j pos) (fC .non):=PX.imp Hh fun σ H Q h=>by
 obtain⟨δ,T,r,δ',E,e,k⟩:=h;cases e;exact k _ _ (Post.val .refl E (by first|exact Rep.mkInt|exact Rep.mkBl|exact Rep.mkNon|exact Rep.mkStr))
theorem GF{i j}:PX X (.Constant (.str i) j pos) (fC (.str i)):=PX.imp He fun σ H Q h=>by
 obtain⟨δ,T,r,δ',E,e,k⟩:=h;cases e;exact k _ _ (Post.val .refl E (by first|exact Rep.mkInt|exact Rep.mkBl|exact Rep.mkNon|exact Rep.mkStr))
theorem GC{i:Nat}{x:Str}(hN:X.N[i]?=some x)(hv:Vis X.env.scope x)(hd:(x==("__debug__":Str))=false)(n6:(x==("__classdict__":Str))=false):PX X (.Name x pos) (hJ i):=PX.imp (rd hN hv hd n6) fun σ H Q h=>by
 obtain⟨δ,T,r,δ',E,e,k⟩:=h;unfold hJ at e
 cases hi:δ[i]? with
 |none=>rw[hi] at e;cases e
 |some o=>
  cases o with
  |none=>rw[hi] at e;cases e
  |some p=>
   obtain⟨d,b⟩:=p;rw[hi] at e;cases e;obtain⟨E1,v,h1,h2⟩:=E.freeze hi;exact⟨v,h1,k v H (Post.val .set E1 h2)⟩
end
inductive Opd where
 |val(r:D×Bool)|slot(i:Nat)
noncomputable def res(δ:Dn):Opd->Option D
 | .val r=>some r.1
 | .slot i=>match δ[i]? with
  |some (some (d,_))=>some d
  |_=>none
def ik(K:fX)(H:Hp)(O:AP')(d:D)(v:V):Prop:=Rep K H O d v\/ ∃a,v= .ref a/\OwnOk K H O d a
abbrev FO:=Dn->Option (Opd×Dn)
def PostO(K:fX)(T:AP')(σ:L2.St)(δ:Dn)(H:Hp)(o:Opd)(δ':Dn)(v:V)(H':Hp):Prop:=
 match o with
 | .val r=>Post K T σ δ H r δ' v H'
 | .slot i=>Keep σ δ H δ' H'/\ER K H' T σ δ'/\σ[i]?=some (some v)
noncomputable def nj(T:AP')(o:Opd)(v:V):AP':=match o with
 | .val r=>Tmp T r v
 | .slot _=>T
def tO(K:fX)(f:FO):TE:=fun σ H Q=> ∃δ T o δ',ER K H T σ δ/\f δ=some (o,δ')/\ ∀v H',PostO K T σ δ H o δ' v H'->Q v H'
def PO(X:Cx)(e:fV)(f:FO):Prop:=PE X e (tO X.K f)
noncomputable def fS(f:F):FO:=fun δ=>(f δ).bind fun p=>some (.val p.1,p.2)
noncomputable def fR(i:Nat):FO:=fun δ=>match δ[i]? with
 |some (some _)=>some (.slot i,δ)
 |_=>none
theorem PE.imp'(h:PE X e t)(k: ∀σ H Q,t' σ H Q->t σ H Q):PE X e t':=fun pins s σ H Q I hw=>h pins s σ H Q I (k σ H Q hw)
section
variable {X:Cx}{pos:Pos}
theorem PX.po(h:PX X e f):PO X e (fS f):=PE.imp' h fun σ H Q hw=>by
 obtain⟨δ,T,o,δ',E,e,k⟩:=hw;unfold fS at e
 cases h1:f δ with
 |none=>rw[h1] at e;cases e
 |some p=>
  obtain⟨r,δ1⟩:=p;rw[h1] at e;obtain⟨rfl,rfl⟩:=fY e;exact⟨δ,T,r,δ1,E,h1,fun v H' P=>k v H' P⟩
theorem G9{i:Nat}{x:Str}(hN:X.N[i]?=some x)(hv:Vis X.env.scope x)(hd:(x==("__debug__":Str))=false)(n6:(x==("__classdict__":Str))=false):PO X (.Name x pos) (fR i):=PE.imp' (rd hN hv hd n6) fun σ H Q h=>by
 obtain⟨δ,T,o,δ',E,e,k⟩:=h;unfold fR at e
 cases hi:δ[i]? with
 |none=>rw[hi] at e;cases e
 |some q=>
  cases q with
  |none=>rw[hi] at e;cases e
  |some p=>
   obtain⟨d,b⟩:=p;rw[hi] at e;obtain⟨rfl,rfl⟩:=fY e;obtain⟨E1,v,h1,h2⟩:=E.freeze hi;exact⟨v,h1,k v H ⟨.refl,E,h1⟩⟩
end
structure Ops(K:fX)(T:AP')(σ:L2.St)(δ:Dn)(H:Hp)(os:List Opd)(vs:List V)(δ':Dn)(H':Hp)(T':AP'):Prop where
 len:os.length=vs.length
 keep:Keep σ δ H δ' H'
 er:ER K H' T' σ δ'
 tt: ∀a,T a->T' a
 val: ∀(j:Nat) (d:D) (v:V),os[j]?=some (.val (d,false))->vs[j]?=some v->Rep K H' (fun a=>OwnA σ δ' a\/T a) d v
 tmp: ∀(j:Nat) (d:D) (v:V),os[j]?=some (.val (d,true))->vs[j]?=some v-> ∃p,v= .ref p/\T' p/\H p=none/\OwnOk K H' (fun a=>OwnA σ δ' a\/T a) d p
 slt: ∀(j i:Nat) (v:V),os[j]?=some (.slot i)->vs[j]?=some v->σ[i]?=some (some v)
section
variable {K:fX}{T T':AP'}{σ:L2.St}{δ δ' δ2:Dn}{H H' H2:Hp}{os:List Opd}{vs:List V}{o:Opd}{v:V}
theorem Ops.nil(E:ER K H T σ δ):Ops K T σ δ H [] [] δ H T:=⟨rfl,.refl,E,fun _ z=>z,fun j d v h=>by simp at h,fun j d v h=>by simp at h,fun j i v h=>by simp at h⟩
theorem PostO.keep(P:PostO K T σ δ H o δ' v H'):Keep σ δ H δ' H':=by
 cases o with
 |val r=>exact P.1
 |slot i=>exact P.1
theorem PostO.er(E:ER K H T σ δ)(P:PostO K T σ δ H o δ' v H'):ER K H' (nj T o v) σ δ':=by
 cases o with
 |val r=>exact Post.er E P
 |slot i=>exact P.2.1
end
def Gen(K:fX)(H:Hp)(O:AP')(z:D×Bool)(Q:VK):Prop:=
 match z with
 |(d,false)=> ∀w H',(∀a o,H a=some o->H' a=some o)->Rep K H' O d w->Q w H'
 |(d,true)=> ∀p H',H p=none->(∀a o,H a=some o->H' a=some o)->OwnOk K H' (fun a=>O a\/a=p) d p->Q (.ref p) H'
section
variable {K:fX}{T T':AP'}{σ:L2.St}{δ δ1 δ' δ2:Dn}{H H1 H' H2:Hp}{os:List Opd}{vs:List V}{o:Opd}{v:V}{z:D×Bool}{Q:VK}
theorem Ops.cons(E:ER K H T σ δ)(P:PostO K T σ δ H o δ1 v H1)(B:Ops K (nj T o v) σ δ1 H1 os vs δ2 H2 T'):Ops K T σ δ H (o::os) (v::vs) δ2 H2 T':=by
 have E1:=P.er E;have p1:=B.keep.kp;have p2:=B.keep.ow
 have ej: ∀a,T a->nj T o v a:=fun a z=>by
  cases o with
  |val r=>exact .inl z
  |slot i=>exact z
 refine⟨by simp[B.len],P.keep.trans B.keep,B.er,fun a z=>B.tt a (ej a z),fun j d w h1 h2=>?_,fun j d w h1 h2=>?_,fun j i w h1 h2=>?_⟩
 ·cases j with
  |zero=>
   simp at h1 h2;subst h1;subst h2;have P':Post K T σ δ H (d,false) δ1 v H1:=P;exact Rep.mono (fun b ob e n=>p1 b ob e fun z=>n (.inl z)) (fun b _ z=>z.elim (fun z=>Or.inl (p2 b z)) Or.inr) (P'.rep E).2
  |succ j=>exact Rep.mono (fun _ _ e _=>e) (fun b _ z=>z.elim Or.inl fun z=>Or.inr (ej b z)) (B.val j d w (by simpa using h1) (by simpa using h2))
 ·cases j with
  |zero=>
   simp at h1 h2;subst h1;subst h2;have P':Post K T σ δ H (d,true) δ1 v H1:=P;obtain⟨p,rfl,hp,E3,ok⟩:=P'.2;have tp:nj T (.val (d,true)) (V.ref p) p:= .inr ⟨rfl,rfl⟩;refine⟨p,rfl,B.tt p tp,hp,ok.mono (fun b ob e n=>p1 b ob e fun z=>n (.inl z)) (fun b _ z=>z.elim (fun z=>Or.inl (p2 b z)) fun z=>Or.inr (Or.inl z)) fun ob e=>p1 p ob e fun z=>E1.nT p z tp⟩
  |succ j=>
   obtain⟨p,rfl,tp,hp,ok⟩:=B.tmp j d w (by simpa using h1) (by simpa using h2);refine⟨p,rfl,tp,?_,ok.mono (fun _ _ e _=>e) (fun b _ z=>z.elim Or.inl fun z=>Or.inr (ej b z)) fun _ e=>e⟩
   cases hH:H p with
   |none=>rfl
   |some ob=>exact absurd hp (P.keep.dm p (by rw[hH];simp))
 ·cases j with
  |zero=>
   simp at h1 h2;subst h1;subst h2;exact P.2.2
  |succ j=>exact B.slt j i w (by simpa using h1) (by simpa using h2)
theorem Ops.view(B:Ops K T σ δ H os vs δ' H' T'){j:Nat}{d:D}(h1:os[j]?=some o)(h2:vs[j]?=some v)(hr:res δ' o=some d):ik K H' (fun a=>OwnA σ δ' a\/T a) d v:=by
 cases o with
 |val r=>
  obtain⟨e,b⟩:=r;have hd:e=d:=iG hr;subst hd
  cases b with
  |false=>exact .inl (B.val j e v h1 h2)
  |true=>
   obtain⟨p,rfl,_,_,ok⟩:=B.tmp j e v h1 h2;exact .inr ⟨p,rfl,ok⟩
 |slot i=>
  have hs:=B.slt j i v h1 h2;unfold res at hr;dsimp only at hr
  cases hi:δ'[i]? with
  |none=>rw[hi] at hr;cases hr
  |some q=>
   cases q with
   |none=>rw[hi] at hr;cases hr
   |some p=>
    obtain⟨e,b⟩:=p;rw[hi] at hr;have hd:e=d:=iG hr;subst hd
    cases b with
    |false=>
     obtain⟨w,h3,h4⟩:=B.er.val i e hi;rw[hs] at h3;cases h3;exact .inl (Rep.mono (fun _ _ e _=>e) (fun b _ z=>z.elim Or.inl fun z=>Or.inr (B.tt b z)) h4)
    |true=>
     obtain⟨a,h3,h4⟩:=B.er.own i e hi;rw[hs] at h3;cases h3;exact .inr ⟨a,rfl,h4.mono (fun _ _ e _=>e) (fun b _ z=>z.elim Or.inl fun z=>Or.inr (B.tt b z)) fun _ e=>e⟩
theorem Ops.done(B:Ops K T σ δ H os vs δ' H' T')(k: ∀v H2,Post K T σ δ H z δ' v H2->Q v H2):Gen K H' (fun a=>OwnA σ δ' a\/T a) z Q:=by
 obtain⟨d,b⟩:=z;have dom: ∀{H2:Hp},(∀a o,H' a=some o->H2 a=some o)-> ∀a,T a->Ow (H2 a):=fun {H2} hx a z=>(B.er.dom a (B.tt a z)).up (hx a)
 cases b with
 |false=>
  intro w H2 hx r;exact k w H2 ⟨B.keep.trans (.ext hx),B.er.mono (fun b o e _=>hx b o e) (fun b _ z=>B.tt b z) (dom hx),r⟩
 |true=>
  intro p H2 hp hx ok
  have hp0:H p=none:=by
   cases hH:H p with
   |none=>rfl
   |some ob=>exact absurd hp (B.keep.dm p (by rw[hH];simp))
  refine k (.ref p) H2 ⟨B.keep.trans (.ext hx),p,rfl,hp0,B.er.mono (fun b o e _=>hx b o e) (fun b hb z=>z.elim (B.tt b) fun z=>absurd (z▸hp) hb) (fun a z=>?_),ok.mono (fun _ _ e _=>e) (fun b _ z=>?_) fun _ e=>e⟩
  ·rcases z with z|z
   ·exact dom hx a z
   ·subst z;exact ok.ow
  ·rcases z with z|z|z
   ·exact Or.inl (Or.inl z)
   ·exact Or.inl (Or.inr z)
   ·exact Or.inr z
theorem Gen.int(g:Gen K H O (.int i,false) Q):Q (.int i) H:=g _ H (fun _ _ e=>e) Rep.mkInt
theorem Gen.bl(g:Gen K H O (.bl i,false) Q):Q (.bl i) H:=g _ H (fun _ _ e=>e) Rep.mkBl
theorem jw{H:Hp}{p:fM}{o:HO}(hp:H p=none): ∀a u,H a=some u->upd H p o a=some u:=fun a u e=>by rw[gu (by intro z;subst z;rw[e] at hp;cases hp)];exact e
theorem Gen.lst{O:AP'}{l:List D}{xs:List V}{p:fM}(g:Gen K H O (.lst l,true) Q)(hp:H p=none)(r:RepL K H O l xs):Q (.ref p) (upd H p (.lst xs)):=
 g p _ hp (jw hp) ⟨xs,gA,RepL.mono (fun b o e _=>jw hp b o e) (fun b hb z=>z.elim id fun z=>absurd (z▸hp) hb) r⟩
theorem Gen.tup(g:Gen K H O (.tup l,false) Q)(hp:H p=none)(np: ¬O p)(r:RepL K H O l xs):Q (.ref p) (upd H p (.tup xs)):=
 g _ _ (jw hp) (Rep.mkTup ⟨gA,np⟩ (RepL.mono (fun b o e _=>jw hp b o e) (fun b hb z=>z) r))
theorem Ops.np(B:Ops K T σ δ H os vs δ' H' T')(hp: ¬Ow (H' p)): ¬(OwnA σ δ' p\/T p):=fun z=>hp (z.elim (fun z=>B.er.ownOw z) fun z=>B.er.dom p (B.tt p z))
end
noncomputable def iV(g:D->Option (D×Bool))(fa:FO):F:=fun δ=>(fa δ).bind fun p=>(res p.2 p.1).bind fun x=>(g x).bind fun z=>some (z,p.2)
noncomputable def gj(g:D->D->Option (D×Bool))(fa fb:FO):F:=fun δ=>(fa δ).bind fun p=>(fb p.2).bind fun q=>(res q.2 p.1).bind fun x=>(res q.2 q.1).bind fun y=>(g x y).bind fun z=>some (z,q.2)
noncomputable def gY:List FO->Dn->Option (List Opd×Dn)
 |[],δ=>some ([],δ)
 |f::fs,δ=>(f δ).bind fun p=>(gY fs p.2).bind fun q=>some (p.1::q.1,q.2)
noncomputable def nI(δ:Dn):List Opd->Option (List D)
 |[]=>some []
 |o::os=>(res δ o).bind fun d=>(nI δ os).bind fun l=>some (d::l)
noncomputable def hV(g:List D->Option (D×Bool))(fs:List FO):F:=fun δ=>(gY fs δ).bind fun p=>(nI p.2 p.1).bind fun ds=>(g ds).bind fun z=>some (z,p.2)
def tA(K:fX)(fs:List FO):TA:=fun σ H Q=> ∃δ T os δ',ER K H T σ δ/\gY fs δ=some (os,δ')/\ ∀vs H' T',Ops K T σ δ H os vs δ' H' T'->Q vs H'
section
variable {X:Cx}{e a b:fV}{es:gX}{fa fb:FO}{fs:List FO}{pos:Pos}
theorem fL{α β:Type}{x:Option α}{f:α->Option β}{b:β}(h:x.bind f=some b): ∃a,x=some a/\f a=some b:=by
 cases x with
 |none=>cases h
 |some a=>exact⟨a,rfl,h⟩
def K7(K:fX)(r:V->Hp->VK->Prop)(g:D->Option (D×Bool)):Prop:=
 ∀x z v H (O:AP') (Q:VK),(∀p,¬Ow (H p)-> ¬O p)->ik K H O x v->g x=some z->Gen K H O z Q->r v H Q
def Ia(K:fX)(r:R2)(g:D->D->Option (D×Bool)):Prop:=
 ∀x y z v u H (O:AP') (Q:VK),(∀p,¬Ow (H p)-> ¬O p)->ik K H O x v->ik K H O y u->g x y=some z->Gen K H O z Q->r v u H Q
def K6(K:fX)(r:List V->Hp->VK->Prop)(g:List D->Option (D×Bool)):Prop:=
 ∀ds z vs H (O:AP') (Q:VK),(∀p,¬Ow (H p)-> ¬O p)->ds.length=vs.length->(∀(j:Nat) d v,ds[j]?=some d->vs[j]?=some v->ik K H O d v)->g ds=some z->Gen K H O z Q->r vs H Q
theorem GJ{r:V->Hp->VK->Prop}{g:D->Option (D×Bool)}(h:PE X e (tUn r (tO X.K fa)))(hr:K7 X.K r g):PX X e (iV g fa):=PX.imp h fun σ H Q hw=>by
 obtain⟨δ,T,rr,δ',E,e,k⟩:=hw;obtain⟨⟨o,δ1⟩,h1,e⟩:=fL e;obtain⟨x,h2,e⟩:=fL e;obtain⟨z,h3,e⟩:=fL e;obtain⟨rfl,rfl⟩:=fY e;refine⟨δ,T,o,δ1,E,h1,fun v H1 P1=>?_⟩;have B:=Ops.cons E P1 (Ops.nil (P1.er E));exact hr x z v H1 _ Q (fun p hp=>B.np hp) (B.view (j:=0) rfl rfl h2) h3 (B.done k)
theorem GI{r:R2}{g:D->D->Option (D×Bool)}(h:PE X e (tOp r (tO X.K fa) (tO X.K fb)))(hr:Ia X.K r g):PX X e (gj g fa fb):=PX.imp h fun σ H Q hw=>by
 obtain⟨δ,T,rr,δ',E,e,k⟩:=hw;obtain⟨⟨o,δ1⟩,h1,e⟩:=fL e;obtain⟨⟨o2,δ2⟩,h2,e⟩:=fL e;obtain⟨x,h3,e⟩:=fL e;obtain⟨y,h4,e⟩:=fL e;obtain⟨z,h5,e⟩:=fL e;obtain⟨rfl,rfl⟩:=fY e;refine⟨δ,T,o,δ1,E,h1,fun v H1 P1=>⟨δ1,nj T o v,o2,δ2,P1.er E,h2,fun u H2 P2=>?_⟩⟩;have B:=Ops.cons E P1 (Ops.cons (P1.er E) P2 (Ops.nil (P2.er (P1.er E))));exact hr x y z v u H2 _ Q (fun p hp=>B.np hp) (B.view (j:=0) rfl rfl h3) (B.view (j:=1) rfl rfl h4) h5 (B.done k)
theorem qd:PA X [] (tA X.K []):=fun pos pins s σ H Q I h=>by
 obtain⟨δ,T,os,δ',E,e,k⟩:=h;obtain⟨rfl,rfl⟩:=fY e;exact lK pos pins s σ H Q I (k [] H T (Ops.nil E))
theorem mB(ha:PO X e fa)(hr:PA X es (tA X.K fs))(hs:starEach (e::es) X.env=(false,eval e X.env)::starEach es X.env):PA X (e::es) (tA X.K (fa::fs)):=fun pos pins s σ H Q I h=>by
 obtain⟨δ,T,os,δ',E,e,k⟩:=h;unfold gY at e;obtain⟨⟨o,δ1⟩,h1,e⟩:=fL e;obtain⟨⟨os2,δ2⟩,h2,e⟩:=fL e;obtain⟨rfl,rfl⟩:=fY e;exact jg ha hr hs pos pins s σ H Q I ⟨δ,T,o,δ1,E,h1,fun v H1 P1=>⟨δ1,nj T o v,os2,δ2,P1.er E,h2,fun vs H2 T2 B=>k _ H2 T2 (Ops.cons E P1 B)⟩⟩
theorem jU{δ:Dn}: ∀{os:List Opd} {ds:List D},nI δ os=some ds->ds.length=os.length/\ ∀(j:Nat) d,ds[j]?=some d-> ∃o,os[j]?=some o/\res δ o=some d
 |[],ds,h=>by cases h;exact⟨rfl,fun j d h=>by simp at h⟩
 |o::os,ds,h=>by
  unfold nI at h;obtain⟨d,h1,h⟩:=fL h;obtain⟨l,h2,h⟩:=fL h;cases h;obtain⟨h3,h4⟩:=jU h2;refine⟨by simp[h3],fun j e he=>?_⟩
  cases j with
  |zero=>simp at he;subst he;exact⟨o,rfl,h1⟩
  |succ j=>
   obtain⟨o',q1,q2⟩:=h4 j e (by simpa using he);exact⟨o',by simpa using q1,q2⟩
theorem EB{r:List V->Hp->VK->Prop}{g:List D->Option (D×Bool)}(h:PE X e (tCB r (tA X.K fs)))(hr:K6 X.K r g):PX X e (hV g fs):=PX.imp h fun σ H Q hw=>by
 obtain⟨δ,T,rr,δ',E,e,k⟩:=hw;obtain⟨⟨os,δ1⟩,h1,e⟩:=fL e;obtain⟨ds,h2,e⟩:=fL e;obtain⟨z,h3,e⟩:=fL e;obtain⟨rfl,rfl⟩:=fY e;obtain⟨h4,h5⟩:=jU h2;refine⟨δ,T,os,δ1,E,h1,fun vs H1 T1 B=>?_⟩;refine hr ds z vs H1 _ Q (fun p hp=>B.np hp) (h4.trans B.len) (fun j d v hd hv=>?_) h3 (B.done k);obtain⟨o,ho,cu⟩:=h5 j d hd;exact B.view ho hv cu
end
open PySem.SeqAt
mutual
/-- ==of data -/
noncomputable def D.eqb:D->D->Bool
 | .non,.non=>true
 | .bl a,.bl b=>a==b
 | .bl a,.int b=>(if a then 1 else 0)==b
 | .int a,.bl b=>a==(if b then 1 else 0)
 | .int a,.int b=>a==b
 | .str a,.str b=>a==b
 | .tup l,.tup m=>D.eqbL l m
 | .lst l,.lst m=>D.eqbL l m
 | .oth _ _ _,.oth _ _ _=>true
 |_,_=>false
noncomputable def D.eqbL:List D->List D->Bool
 |[],[]=>true
 |a::l,b::m=>D.eqb a b&&D.eqbL l m
 |_,_=>false
end
mutual
noncomputable def D.dep:D->Nat
 | .tup l=>D.depL l+1
 | .lst l=>D.depL l+1
 | .oth _ _ _=>20000
 |_=>0
noncomputable def D.depL:List D->Nat
 |[]=>0
 |d::l=>max (D.dep d) (D.depL l)
end
mutual
theorem D.eqb_refl: ∀d:D,D.eqb d d=true
 | .non=>rfl
 | .bl a=>by simp[D.eqb]
 | .int a=>by simp[D.eqb]
 | .str a=>by simp[D.eqb]
 | .tup l=>by rw[D.eqb];exact D.eqbL_refl l
 | .lst l=>by rw[D.eqb];exact D.eqbL_refl l
 | .oth _ _ _=>by rw[D.eqb]
theorem D.eqbL_refl: ∀l:List D,D.eqbL l l=true
 |[]=>rfl
 |d::l=>by rw[D.eqbL,D.eqb_refl d,D.eqbL_refl l];rfl
end
theorem D.dep_mem{d:D}: ∀{l:List D} {j:Nat},l[j]?=some d->d.dep<=D.depL l
 |[],j,h=>by simp at h
 |e::l,0,h=>by simp at h;subst h;rw[D.depL];exact Nat.le_max_left _ _
 |e::l,j+1,h=>by rw[D.depL];exact lT (D.dep_mem (by simpa using h)) (Nat.le_max_right _ _)
noncomputable def mI(l m:List D)(j:Nat):Bool:=match l[j]?,m[j]? with
 |some d,some e=>D.eqb d e
 |_,_=>true
theorem jM: ∀l m:List D,((List.range (min l.length m.length)).all (mI l m)&&l.length==m.length)=D.eqbL l m
 |[],[]=>rfl
 |[],e::m=>by simp[D.eqbL]
 |d::l,[]=>by simp[D.eqbL]
 |d::l,e::m=>by
  rw[D.eqbL,<-jM l m];simp only[pq,Nat.succ_min_succ,List.range_succ_eq_map,List.all_cons,List.all_map,Function.comp_def];have h0:mI (d::l) (e::m) 0=D.eqb d e:=rfl;have h1:(fun x=>mI (d::l) (e::m) (Nat.succ x))=mI l m:=by funext x;simp[mI]
  rw[h0];simp only[h1,Bool.and_assoc]
  congr 2
  simp
section
variable {X:Cx}{pins:gq}{σ:L2.St}{H:Hp}{s:fQ}
theorem jT(h:ik X.K H O (.tup l) v): ∃a xs,v= .ref a/\SqT X.K H a xs/\RepL X.K H O l xs:=by
 rcases h with h|⟨a,rfl,h⟩
 ·obtain⟨a,xs,e,q,r⟩:=h.tup;exact⟨a,xs,e,q.sq,r⟩
 ·exact h.elim
theorem jc(h:ik X.K H O (.lst l) v): ∃a xs,v= .ref a/\SqL X.K H a xs/\RepL X.K H O l xs:=by
 rcases h with h|⟨a,rfl,h⟩
 ·obtain⟨a,xs,e,q,r⟩:=h.lst;exact⟨a,xs,e,q.sq,r⟩
 ·obtain⟨xs,e,r⟩:=h;exact⟨a,xs,rfl,.inl (.inl e),r⟩
theorem RepL.views{O:AP'}{l:List D}{xs:List V}(r:RepL X.K H O l xs){j:Nat}{d:D}{v:V}(h1:l[j]?=some d)(h2:xs[j]?=some v):Rep X.K H O d v:=by
 obtain⟨w,h3,h4⟩:=r.get h1;rw[h2] at h3;cases h3;exact h4
theorem Dj(I:Inv X pins σ H s)(h:OthB X.K (H a) k ks vs us): ∃o,s.heap.get? a=some o/\(o.cls= .type "dict"\/o.cls= .type "set"\/ ∃C,o.cls= .ref C):=by
 cases k with
 |dct=>
  rcases h with⟨l3,e,_⟩|⟨l3,e,_⟩
  ·obtain⟨_,_,vs,_,o,es,ep,h1,h2,_⟩:=(show ObjOk X.prog X.w H s.heap a (.dK l3) from I.hok a _ e)
   exact⟨o,h1,.inl h2.1⟩
  ·obtain⟨_,_,xs,_,o,es,ep,h1,h2,_⟩:=(show ObjOk X.prog X.w H s.heap a (.dT l3) from I.hok a _ e)
   exact⟨o,h1,.inl h2.1⟩
 |set=>
  obtain⟨_,zs,e,_⟩:=h;obtain⟨es,n,t,h1,_⟩:=(show ObjOk X.prog X.w H s.heap a (.stt zs) from I.hok a _ e)
  exact⟨_,h1,.inr (.inl rfl)⟩
 |exc C=>
  obtain⟨_,o,e,h1,_⟩:=h;obtain⟨e1,_⟩:=(show ObjOk X.prog X.w H s.heap a (.frz o (.own 0)) from I.hok a _ e)
  exact⟨o,e1,.inr (.inr ⟨C,h1⟩)⟩
 |_=>exact h.elim
theorem vW(I:Inv X pins σ H s)(h1:SqT X.K H a xs)(h2:SqL X.K H a ys):False:=by
 obtain⟨b6,_,⟨o,e,c,_⟩,_⟩:=I.tuple h1;obtain⟨e7,_,⟨o2,n2,e2,c2,_⟩,_⟩:=I.list h2;rw[e] at e2;cases e2;rw[c] at c2;exact absurd c2 (by simp)
theorem E5(I:Inv X pins σ H s)(h1:SqT X.K H a xs)(h2:OthB X.K (H a) k ks vs us):False:=by
 obtain⟨b6,_,⟨o,e,c,_⟩,_⟩:=I.tuple h1;obtain⟨o2,e2,c2⟩:=Dj I h2;rw[e] at e2;cases e2;rw[c] at c2;rcases c2 with c2|c2|⟨C,c2⟩<;>exact absurd c2 (by simp)
theorem E6(I:Inv X pins σ H s)(h1:SqL X.K H a xs)(h2:OthB X.K (H a) k ks vs us):False:=by
 obtain⟨b6,_,⟨o,n,e,c,_⟩,_⟩:=I.list h1;obtain⟨o2,e2,c2⟩:=Dj I h2;rw[e] at e2;cases e2;rw[c] at c2;rcases c2 with c2|c2|⟨C,c2⟩<;>exact absurd c2 (by simp)
mutual
theorem Rep.inj(I:Inv X pins σ H s): ∀{d e:D} {v:V},d.dep<20000->Rep X.K H O d v->Rep X.K H O' e v->d=e
 | .non,e,v,hz,h,h'=>by
  have:=h.non;subst this
  cases e with
  |non=>rfl
  |bl b=>have:=h'.bl;cases this
  |int b=>have:=h'.int;cases this
  |str b=>have:=h'.str;cases this
  |tup m=>obtain⟨a,xs,z,_⟩:=h'.tup;cases z
  |lst m=>obtain⟨a,xs,z,_⟩:=h'.lst;cases z
  |oth m m1 m2=>obtain⟨a,xs,z,_⟩:=h'.oth;cases z
 | .bl b,e,v,hz,h,h'=>by
  have:=h.bl;subst this
  cases e with
  |non=>have:=h'.non;cases this
  |bl b=>have:=h'.bl;cases this;rfl
  |int b=>have:=h'.int;cases this
  |str b=>have:=h'.str;cases this
  |tup m=>obtain⟨a,xs,z,_⟩:=h'.tup;cases z
  |lst m=>obtain⟨a,xs,z,_⟩:=h'.lst;cases z
  |oth m m1 m2=>obtain⟨a,xs,z,_⟩:=h'.oth;cases z
 | .int b,e,v,hz,h,h'=>by
  have:=h.int;subst this
  cases e with
  |non=>have:=h'.non;cases this
  |bl b=>have:=h'.bl;cases this
  |int b=>have:=h'.int;cases this;rfl
  |str b=>have:=h'.str;cases this
  |tup m=>obtain⟨a,xs,z,_⟩:=h'.tup;cases z
  |lst m=>obtain⟨a,xs,z,_⟩:=h'.lst;cases z
  |oth m m1 m2=>obtain⟨a,xs,z,_⟩:=h'.oth;cases z
 | .str b,e,v,hz,h,h'=>by
  have:=h.str;subst this
  cases e with
  |non=>have:=h'.non;cases this
  |bl b=>have:=h'.bl;cases this
  |int b=>have:=h'.int;cases this
  |str b=>have:=h'.str;cases this;rfl
  |tup m=>obtain⟨a,xs,z,_⟩:=h'.tup;cases z
  |lst m=>obtain⟨a,xs,z,_⟩:=h'.lst;cases z
  |oth m m1 m2=>obtain⟨a,xs,z,_⟩:=h'.oth;cases z
 | .tup l,e,v,hz,h,h'=>by
  rw[D.dep] at hz;obtain⟨a,xs,rfl,q,r⟩:=h.tup
  cases e with
  |non=>have:=h'.non;cases this
  |bl b=>have:=h'.bl;cases this
  |int b=>have:=h'.int;cases this
  |str b=>have:=h'.str;cases this
  |tup m=>
   obtain⟨a2,eh,z,q2,r2⟩:=h'.tup;cases z;have:=I.tuple_inj q.sq q2.sq;subst this;rw[RepL.inj I (by omega) r r2]
  |lst m=>
   obtain⟨a2,eh,z,q2,r2⟩:=h'.lst;cases z;exact(vW I q.sq q2.sq).elim
  |oth m m1 m2=>
   obtain⟨a2,us2,z,q2,r2⟩:=h'.oth;cases z;exact(E5 I q.sq q2.2).elim
 | .lst l,e,v,hz,h,h'=>by
  rw[D.dep] at hz;obtain⟨a,xs,rfl,q,r⟩:=h.lst
  cases e with
  |non=>have:=h'.non;cases this
  |bl b=>have:=h'.bl;cases this
  |int b=>have:=h'.int;cases this
  |str b=>have:=h'.str;cases this
  |tup m=>
   obtain⟨a2,eh,z,q2,r2⟩:=h'.tup;cases z;exact(vW I q2.sq q.sq).elim
  |lst m=>
   obtain⟨a2,eh,z,q2,r2⟩:=h'.lst;cases z;have:=I.list_inj q.sq q2.sq;subst this;rw[RepL.inj I (by omega) r r2]
  |oth m m1 m2=>
   obtain⟨a2,us2,z,q2,r2⟩:=h'.oth;cases z;exact(E6 I q.sq q2.2).elim
 | .oth _ _ _,e,v,hz,h,h'=>by rw[D.dep] at hz;omega
theorem RepL.inj(I:Inv X pins σ H s){O O':AP'}: ∀{l m:List D} {vs:List V},D.depL l<20000->RepL X.K H O l vs->RepL X.K H O' m vs->l=m
 |[],m,vs,_,h,h'=>by
  rw[RepL] at h;subst h
  cases m with
  |nil=>rfl
  |cons e m=>rw[RepL] at h';obtain⟨_,_,z,_⟩:=h';cases z
 |d::l,m,vs,hz,h,h'=>by
  rw[D.depL] at hz;rw[RepL] at h;obtain⟨v,r,rfl,h1,h2⟩:=h
  cases m with
  |nil=>rw[RepL] at h';cases h'
  |cons e m=>
   rw[RepL] at h';obtain⟨v',r',z,h3,h4⟩:=h';cases z;rw[Rep.inj I (by omega) h1 h3,RepL.inj I (by omega) h2 h4]
end
theorem oD(h:ik X.K H O d v)(hd:d.dep=0)(nt: ∀l,d≠ .tup l)(nl: ∀l,d≠ .lst l):Rep X.K H O d v:=by
 rcases h with h|⟨a,rfl,h⟩
 ·exact h
 ·cases d with
  |lst l=>exact absurd rfl (nl l)
  |oth _ _ _=>rw[D.dep] at hd;omega
  |_=>exact h.elim
inductive Sh(X:Cx)(H:Hp)(s:fQ)(O:AP'):D->V->Value->Prop
 |non:Sh X H s O .non .non .none
 |bl (b:Bool):Sh X H s O (.bl b) (.bl b) (.bool b)
 |int (i:Int) (t:Tok):Sh X H s O (.int i) (.int i) (.int i t)
 |str (x:Str) (t:Tok):Sh X H s O (.str x) (.str x) (.str x t)
 |tup {l:List D} {p:fM} {xs:List V} {b6:gJ} (q:SqT X.K H p xs) (r:RepL X.K H O l xs) (v:Vals xs b6) (pl:IsTup s.heap p b6.toArray):Sh X H s O (.tup l) (.ref p) (.ref p)
 |lst {l:List D} {p:fM} {xs:List V} {b6:gJ} (q:SqL X.K H p xs) (r:RepL X.K H O l xs) (v:Vals xs b6) (pl:s.heap.IsList p b6.toArray):Sh X H s O (.lst l) (.ref p) (.ref p)
theorem mO(I:Inv X pins σ H s)(h:ik X.K H O d v)(ra:RelV v a)(hn:d.dep<20000):Sh X H s O d v a:=by
 cases d with
 |oth m m1 m2=>rw[D.dep] at hn;omega
 |tup l=>obtain⟨p,xs,rfl,q,r⟩:=jT h;cases ra;obtain⟨b6,v1,pl,_⟩:=I.tuple q;exact .tup q r v1 pl
 |lst l=>obtain⟨p,xs,rfl,q,r⟩:=jc h;cases ra;obtain⟨b6,v1,pl,_⟩:=I.list q;exact .lst q r v1 pl.isList
 |non=>have:=(oD h rfl (by simp) (by simp)).non;subst this;cases ra;exact .non
 |bl c=>have:=(oD h rfl (by simp) (by simp)).bl;subst this;cases ra;exact .bl c
 |int c=>have:=(oD h rfl (by simp) (by simp)).int;subst this;obtain⟨t,rfl⟩:=ra;exact .int c t
 |str c=>have:=(oD h rfl (by simp) (by simp)).str;subst this;obtain⟨t,rfl⟩:=ra;exact .str c t
theorem tD(I:Inv X pins σ H s)(n:Nat)
  (ih: ∀(d e:D) (v u:V) (a b:fW) (O O':AP') (A:gc),ik X.K H O d v->ik X.K H O' e u->RelV v a->RelV u b->d.dep+1<=n->e.dep<20000->A.units+n<cLine+1->EqAt A s a b (D.eqb d e)):
  ∀(d e:D) (v u:V) (a b:fW) (O O':AP') (A:gc),ik X.K H O d v->ik X.K H O' e u->RelV v a->RelV u b->d.dep<=n->e.dep<20000->A.units+n<cLine->EqAt A s a b (D.eqb d e):=by
 intro d e v u a b O O' A hd he ra rb hn t8 hA;have hu:A.units<cLine:=by omega
 have aj:cLine=9900:=rfl
 have items: ∀(l m:List D) (xs ys:List V) (b6 e7:gJ) (O1 O2:AP'),D.depL l+1<=n->D.depL m<20000->RepL X.K H O1 l xs->RepL X.K H O2 m ys->Vals xs b6->Vals ys e7->
   ∀j (h1:j<b6.toArray.size) (h2:j<e7.toArray.size),EqAt A.in1 s b6.toArray[j] e7.toArray[j] (mI l m j):=fun l m xs ys b6 e7 O1 O2 hl hm r1 r2 v1 v2 j h1 h2=>by
  have e1:=v1.length;have e2:=v2.length;have e3:=r1.length;have e4:=r2.length;simp only[iA] at h1 h2;have hx:xs[j]?=some xs[j]:=gW (by omega);have hy:ys[j]?=some ys[j]:=gW (by omega);have aV:l[j]?=some l[j]:=gW (by omega);have aF:m[j]?=some m[j]:=gW (by omega);obtain⟨w,w1,w2⟩:=v1.get hx;obtain⟨w',w3,w4⟩:=v2.get hy
  have i1:b6.toArray[j]=w:=by
   have:b6[j]?=some b6[j]:=gW (by omega);rw[this] at w1;simpa using w1
  have i2:e7.toArray[j]=w':=by
   have:e7[j]?=some e7[j]:=gW (by omega);rw[this] at w3;simpa using w3
  rw[i1,i2];have hj:mI l m j=D.eqb l[j] m[j]:=by unfold mI;rw[aV,aF]
  rw[hj];have ax:=D.dep_mem aV;have hdep2:=D.dep_mem aF;exact ih _ _ _ _ _ _ O1 O2 A.in1 (.inl (r1.views aV hx)) (.inl (r2.views aF hy)) w2 w4 (by omega) (by omega) (by show A.units+1+n<cLine+1;omega)
 have h1:=mO I hd ra (by omega);have h2:=mO I he rb t8
 cases h1 with
 |non=>
  cases h2 with
  |non=>exact jo ra rb rfl rfl
  |bl c2=>exact jo ra rb rfl rfl
  |int c2 t2=>exact jo ra rb rfl rfl
  |str c2 t2=>exact jo ra rb rfl rfl
  |tup q2 r2 v2 f7=>exact EqAt.none_tuple f7 hu
  |lst q2 r2 v2 f7=>exact EqAt.none_list f7 hu
 |bl c1=>
  cases h2 with
  |non=>exact jo ra rb rfl rfl
  |bl c2=>exact jo ra rb rfl rfl
  |int c2 t2=>exact jo ra rb rfl rfl
  |str c2 t2=>exact jo ra rb rfl rfl
  |tup q2 r2 v2 f7=>exact EqAt.bool_tuple c1 f7 hu
  |lst q2 r2 v2 f7=>exact EqAt.bool_list c1 f7 hu
 |int c1 t1=>
  cases h2 with
  |non=>exact jo ra rb rfl rfl
  |bl c2=>exact jo ra rb rfl rfl
  |int c2 t2=>exact jo ra rb rfl rfl
  |str c2 t2=>exact jo ra rb rfl rfl
  |tup q2 r2 v2 f7=>exact EqAt.int_tuple c1 t1 f7 hu
  |lst q2 r2 v2 f7=>exact EqAt.int_list c1 t1 f7 hu
 |str c1 t1=>
  cases h2 with
  |non=>exact jo ra rb rfl rfl
  |bl c2=>exact jo ra rb rfl rfl
  |int c2 t2=>exact jo ra rb rfl rfl
  |str c2 t2=>exact jo ra rb rfl rfl
  |tup q2 r2 v2 f7=>exact EqAt.str_tuple c1 t1 f7 hu
  |lst q2 r2 v2 f7=>exact EqAt.str_list c1 t1 f7 hu
 | @tup l p xs b6 q r v1 pl=>
  cases h2 with
  |non=>exact EqAt.tuple_none pl hu
  |bl c2=>exact EqAt.tuple_bool c2 pl hu
  |int c2 t2=>exact EqAt.tuple_int c2 t2 pl hu
  |str c2 t2=>exact EqAt.tuple_str c2 t2 pl hu
  | @tup m p2 ys e7 q2 r2 v2 f7=>
   by_cases hp:p=p2
   ·subst hp;have:=I.tuple_inj q q2;subst this;rw[RepL.inj I (by rw[D.dep] at hn;omega) r r2,D.eqb_refl];exact EqAt.same _
   ·refine .of_refs hp ?_;have hl:D.depL l+1<=n:=by rw[D.dep] at hn;exact hn
    have hm:D.depL m<20000:=by rw[D.dep] at t8;omega
    have z:=RcAt.tuples pl f7 hu (items l m xs ys b6 e7 _ _ hl hm r r2 v1 v2);have e1:=v1.length;have e2:=v2.length;have e3:=r.length;have e4:=r2.length;simp only[iA] at z;rw[show b6.length=l.length by omega,show e7.length=m.length by omega,jM] at z;rw[D.eqb];exact z
  |lst q2 r2 v2 f7=>exact EqAt.tuple_list pl f7 hu
 | @lst l p xs b6 q r v1 pl=>
  cases h2 with
  |non=>exact EqAt.list_none pl hu
  |bl c2=>exact EqAt.list_bool c2 pl hu
  |int c2 t2=>exact EqAt.list_int c2 t2 pl hu
  |str c2 t2=>exact EqAt.list_str c2 t2 pl hu
  |tup q2 r2 v2 f7=>exact EqAt.list_tuple pl f7 hu
  | @lst m p2 ys e7 q2 r2 v2 f7=>
   by_cases hp:p=p2
   ·subst hp;have:=I.list_inj q q2;subst this;rw[RepL.inj I (by rw[D.dep] at hn;omega) r r2,D.eqb_refl];exact EqAt.same _
   ·refine .of_refs hp ?_;have hl:D.depL l+1<=n:=by rw[D.dep] at hn;exact hn
    have hm:D.depL m<20000:=by rw[D.dep] at t8;omega
    have e1:=v1.length;have e2:=v2.length;have e3:=r.length;have e4:=r2.length;have al:=jM l m;by_cases hlen:l.length=m.length
    ·have z:=RcAt.lists pl f7 (by simp only[iA];omega) hu (items l m xs ys b6 e7 _ _ hl hm r r2 v1 v2);simp only[iA] at z;rw[show b6.length=min l.length m.length by omega] at z;rw[D.eqb,<-al,hlen];rw[hlen] at z;simpa using z
    ·have z:=RcAt.lists_lengths pl f7 (by simp only[iA,bne_iff_ne,ne_eq];omega) hu;rw[D.eqb,<-al];rw[show(l.length==m.length)=false by simpa using hlen];simpa using z
theorem ze(I:Inv X pins σ H s): ∀(n:Nat) (d e:D) (v u:V) (a b:fW) (O O':AP') (A:gc),ik X.K H O d v->ik X.K H O' e u->RelV v a->RelV u b->d.dep<=n->e.dep<20000->A.units+n<cLine->EqAt A s a b (D.eqb d e):=by
 intro n
 induction n with
 |zero=>
  intro d e v u a b O O' A hd he ra rb hn t8 hA;exact tD I 0 (fun d e v u a b O O' A hd he ra rb hn t8 hA=>absurd hn (by omega)) d e v u a b O O' A hd he ra rb hn t8 hA
 |succ n ih=>
  intro d e v u a b O O' A hd he ra rb hn t8 hA;exact tD I (n+1) (fun d e v u a b O O' A hd he ra rb hn t8 hA=>ih d e v u a b O O' A hd he ra rb (by omega) t8 (by omega)) d e v u a b O O' A hd he ra rb hn t8 hA
end
section
variable {X:Cx}{pins:gq}{σ:L2.St}{H:Hp}{s:fQ}
theorem wX(I:Inv X pins σ H s){A:gc}{n:Nat}(hA:A.units+n<cLine): ∀(l m:List D) (xs ys:List V) (b6 e7:gJ) (O1 O2:AP'),D.depL l+1<=n->D.depL m<20000->RepL X.K H O1 l xs->RepL X.K H O2 m ys->Vals xs b6->Vals ys e7->
   ∀j (h1:j<b6.toArray.size) (h2:j<e7.toArray.size),EqAt A.in1 s b6.toArray[j] e7.toArray[j] (mI l m j):=fun l m xs ys b6 e7 O1 O2 hl hm r1 r2 v1 v2 j h1 h2=>by
 have e1:=v1.length;have e2:=v2.length;have e3:=r1.length;have e4:=r2.length;simp only[iA] at h1 h2;have hx:xs[j]?=some xs[j]:=gW (by omega);have hy:ys[j]?=some ys[j]:=gW (by omega);have aV:l[j]?=some l[j]:=gW (by omega);have aF:m[j]?=some m[j]:=gW (by omega);obtain⟨w,w1,w2⟩:=v1.get hx;obtain⟨w',w3,w4⟩:=v2.get hy
 have i1:b6.toArray[j]=w:=by
  have:b6[j]?=some b6[j]:=gW (by omega);rw[this] at w1;simpa using w1
 have i2:e7.toArray[j]=w':=by
  have:e7[j]?=some e7[j]:=gW (by omega);rw[this] at w3;simpa using w3
 rw[i1,i2];have hj:mI l m j=D.eqb l[j] m[j]:=by unfold mI;rw[aV,aF]
 rw[hj];have ax:=D.dep_mem aV;have hdep2:=D.dep_mem aF;exact ze I (n-1) _ _ _ _ _ _ O1 O2 A.in1 (.inl (r1.views aV hx)) (.inl (r2.views aF hy)) w2 w4 (by omega) (by omega) (by show A.units+1+(n-1)<cLine;omega)
theorem GB(I:Inv X pins σ H s)(hd:ik X.K H O d v)(he:ik X.K H O' e u)(ra:RelV v a)(rb:RelV u b)(hn:d.dep<=n)(t8:e.dep<20000)(hA:A.units+n<cLine):RcAt A s a b (D.eqb d e):=by
 have hu:A.units<cLine:=by omega
 have items:=wX I hA;have aj:cLine=9900:=rfl;have h1:=mO I hd ra (by omega);have h2:=mO I he rb t8
 cases h1 with
 |non=>
  cases h2 with
  |non=>exact RcAt.none_none
  |bl c2=>exact RcAt.none_bool c2
  |int c2 t2=>exact RcAt.none_int c2 t2
  |str c2 t2=>exact RcAt.none_str c2 t2
  |tup q2 r2 v2 f7=>exact RcAt.none_tuple f7 hu
  |lst q2 r2 v2 f7=>exact RcAt.none_list f7 hu
 |bl c1=>
  cases h2 with
  |non=>exact RcAt.bool_none c1
  |bl c2=>exact RcAt.bool_bool c1 c2
  |int c2 t2=>exact RcAt.bool_int c1 c2 t2
  |str c2 t2=>exact RcAt.bool_str c1 c2 t2
  |tup q2 r2 v2 f7=>exact RcAt.bool_tuple c1 f7 hu
  |lst q2 r2 v2 f7=>exact RcAt.bool_list c1 f7 hu
 |int c1 t1=>
  cases h2 with
  |non=>exact RcAt.int_none c1 t1
  |bl c2=>exact RcAt.int_bool c1 t1 c2
  |int c2 t2=>exact RcAt.int_int c1 t1 c2 t2
  |str c2 t2=>exact RcAt.int_str c1 t1 c2 t2
  |tup q2 r2 v2 f7=>exact RcAt.int_tuple c1 t1 f7 hu
  |lst q2 r2 v2 f7=>exact RcAt.int_list c1 t1 f7 hu
 |str c1 t1=>
  cases h2 with
  |non=>exact RcAt.str_none c1 t1
  |bl c2=>exact RcAt.str_bool c1 t1 c2
  |int c2 t2=>exact RcAt.str_int c1 t1 c2 t2
  |str c2 t2=>exact RcAt.str_str c1 t1 c2 t2
  |tup q2 r2 v2 f7=>exact RcAt.str_tuple c1 t1 f7 hu
  |lst q2 r2 v2 f7=>exact RcAt.str_list c1 t1 f7 hu
 | @tup l p xs b6 q r v1 pl=>
  cases h2 with
  |non=>exact RcAt.tuple_none pl hu
  |bl c2=>exact RcAt.tuple_bool c2 pl hu
  |int c2 t2=>exact RcAt.tuple_int c2 t2 pl hu
  |str c2 t2=>exact RcAt.tuple_str c2 t2 pl hu
  | @tup m p2 ys e7 q2 r2 v2 f7=>
   have hl:D.depL l+1<=n:=by rw[D.dep] at hn;exact hn
   have hm:D.depL m<20000:=by rw[D.dep] at t8;omega
   have e1:=v1.length;have e2:=v2.length;have e3:=r.length;have e4:=r2.length;have z:=RcAt.tuples pl f7 hu (items l m xs ys b6 e7 _ _ hl hm r r2 v1 v2);simp only[iA] at z;rw[show b6.length=l.length by omega,show e7.length=m.length by omega,jM] at z;rw[D.eqb];exact z
  |lst q2 r2 v2 f7=>exact RcAt.tuple_list pl f7 hu
 | @lst l p xs b6 q r v1 pl=>
  cases h2 with
  |non=>exact RcAt.list_none pl hu
  |bl c2=>exact RcAt.list_bool c2 pl hu
  |int c2 t2=>exact RcAt.list_int c2 t2 pl hu
  |str c2 t2=>exact RcAt.list_str c2 t2 pl hu
  |tup q2 r2 v2 f7=>exact RcAt.list_tuple pl f7 hu
  | @lst m p2 ys e7 q2 r2 v2 f7=>
   have hl:D.depL l+1<=n:=by rw[D.dep] at hn;exact hn
   have hm:D.depL m<20000:=by rw[D.dep] at t8;omega
   have e1:=v1.length;have e2:=v2.length;have e3:=r.length;have e4:=r2.length;have al:=jM l m;by_cases hlen:l.length=m.length
   ·have z:=RcAt.lists pl f7 (by simp only[iA];omega) hu (items l m xs ys b6 e7 _ _ hl hm r r2 v1 v2);simp only[iA] at z;rw[show b6.length=min l.length m.length by omega] at z;rw[D.eqb,<-al,hlen];rw[hlen] at z;simpa using z
   ·have z:=RcAt.lists_lengths pl f7 (by simp only[iA,bne_iff_ne,ne_eq];omega) hu;rw[D.eqb,<-al];rw[show(l.length==m.length)=false by simpa using hlen];simpa using z
theorem CF(I:Inv X pins σ H s)(hd:ik X.K H O d v)(he:ik X.K H O' e u)(ra:RelV v a)(rb:RelV u b)(hn:d.dep<=n)(t8:e.dep<20000)(hA:A.units+n<cLine):RcNeAt A s a b (!D.eqb d e):=by
 have hu:A.units<cLine:=by omega
 have items:=wX I hA;have aj:cLine=9900:=rfl;have h1:=mO I hd ra (by omega);have h2:=mO I he rb t8
 cases h1 with
 |non=>
  cases h2 with
  |non=>exact RcNeAt.none_none
  |bl c2=>exact RcNeAt.none_bool c2
  |int c2 t2=>exact RcNeAt.none_int c2 t2
  |str c2 t2=>exact RcNeAt.none_str c2 t2
  |tup q2 r2 v2 f7=>exact RcNeAt.none_tuple f7 hu
  |lst q2 r2 v2 f7=>exact RcNeAt.none_list f7 hu
 |bl c1=>
  cases h2 with
  |non=>exact RcNeAt.bool_none c1
  |bl c2=>exact RcNeAt.bool_bool c1 c2
  |int c2 t2=>exact RcNeAt.bool_int c1 c2 t2
  |str c2 t2=>exact RcNeAt.bool_str c1 c2 t2
  |tup q2 r2 v2 f7=>exact RcNeAt.bool_tuple c1 f7 hu
  |lst q2 r2 v2 f7=>exact RcNeAt.bool_list c1 f7 hu
 |int c1 t1=>
  cases h2 with
  |non=>exact RcNeAt.int_none c1 t1
  |bl c2=>exact RcNeAt.int_bool c1 t1 c2
  |int c2 t2=>exact RcNeAt.int_int c1 t1 c2 t2
  |str c2 t2=>exact RcNeAt.int_str c1 t1 c2 t2
  |tup q2 r2 v2 f7=>exact RcNeAt.int_tuple c1 t1 f7 hu
  |lst q2 r2 v2 f7=>exact RcNeAt.int_list c1 t1 f7 hu
 |str c1 t1=>
  cases h2 with
  |non=>exact RcNeAt.str_none c1 t1
  |bl c2=>exact RcNeAt.str_bool c1 t1 c2
  |int c2 t2=>exact RcNeAt.str_int c1 t1 c2 t2
  |str c2 t2=>exact RcNeAt.str_str c1 t1 c2 t2
  |tup q2 r2 v2 f7=>exact RcNeAt.str_tuple c1 t1 f7 hu
  |lst q2 r2 v2 f7=>exact RcNeAt.str_list c1 t1 f7 hu
 | @tup l p xs b6 q r v1 pl=>
  cases h2 with
  |non=>exact RcNeAt.tuple_none pl hu
  |bl c2=>exact RcNeAt.tuple_bool c2 pl hu
  |int c2 t2=>exact RcNeAt.tuple_int c2 t2 pl hu
  |str c2 t2=>exact RcNeAt.tuple_str c2 t2 pl hu
  | @tup m p2 ys e7 q2 r2 v2 f7=>
   have hl:D.depL l+1<=n:=by rw[D.dep] at hn;exact hn
   have hm:D.depL m<20000:=by rw[D.dep] at t8;omega
   have e1:=v1.length;have e2:=v2.length;have e3:=r.length;have e4:=r2.length;have z:=RcNeAt.tuples pl f7 hu (items l m xs ys b6 e7 _ _ hl hm r r2 v1 v2);simp only[iA] at z;rw[show b6.length=l.length by omega,show e7.length=m.length by omega,jM] at z;rw[D.eqb];exact z
  |lst q2 r2 v2 f7=>exact RcNeAt.tuple_list pl f7 hu
 | @lst l p xs b6 q r v1 pl=>
  cases h2 with
  |non=>exact RcNeAt.list_none pl hu
  |bl c2=>exact RcNeAt.list_bool c2 pl hu
  |int c2 t2=>exact RcNeAt.list_int c2 t2 pl hu
  |str c2 t2=>exact RcNeAt.list_str c2 t2 pl hu
  |tup q2 r2 v2 f7=>exact RcNeAt.list_tuple pl f7 hu
  | @lst m p2 ys e7 q2 r2 v2 f7=>
   have hl:D.depL l+1<=n:=by rw[D.dep] at hn;exact hn
   have hm:D.depL m<20000:=by rw[D.dep] at t8;omega
   have e1:=v1.length;have e2:=v2.length;have e3:=r.length;have e4:=r2.length;have al:=jM l m;by_cases hlen:l.length=m.length
   ·have z:=RcNeAt.lists pl f7 (by simp only[iA];omega) hu (items l m xs ys b6 e7 _ _ hl hm r r2 v1 v2);simp only[iA] at z;rw[show b6.length=min l.length m.length by omega] at z;rw[D.eqb,<-al,hlen];rw[hlen] at z;simpa using z
   ·have z:=RcNeAt.lists_lengths pl f7 (by simp only[iA,bne_iff_ne,ne_eq];omega) hu;rw[D.eqb,<-al];rw[show(l.length==m.length)=false by simpa using hlen];simpa using z
theorem Hv(hu:X.A.units+60<cLine):OpR X (compareOp .Eq) (fun x y H Q=> ∃O d e,ik X.K H O d x/\ik X.K H O e y/\(d.dep<=50/\e.dep<=50)/\Q (.bl (D.eqb d e)) H):=by
 intro pins s σ H x y v u Q I rx ry h;obtain⟨O,d,e,h1,h2,h3,q⟩:=h;exact GB (A:=X.A) I h1 h2 rx ry h3.1 (by omega) (by omega) _ _ _ _ ⟨.bl _,H,I,rfl,q⟩
theorem Hs(hu:X.A.units+60<cLine):OpR X (compareOp .NotEq) (fun x y H Q=> ∃O d e,ik X.K H O d x/\ik X.K H O e y/\(d.dep<=50/\e.dep<=50)/\Q (.bl (!D.eqb d e)) H):=by
 intro pins s σ H x y v u Q I rx ry h;obtain⟨O,d,e,h1,h2,h3,q⟩:=h;exact CF (A:=X.A) I h1 h2 rx ry h3.1 (by omega) (by omega) _ _ _ _ ⟨.bl _,H,I,rfl,q⟩
end
theorem gy{α:Type}{c:Prop}[Decidable c]{a b:α}(h:(if c then some a else none)=some b):c/\a=b:=by
 split at h
 ·rename_i hc;exact⟨hc,iG h⟩
 ·cases h
section
variable {X:Cx}{pins:gq}{σ:L2.St}{H:Hp}{s:fQ}
end
def rD1(K:fX)(g:D->Option (D×Bool)):V->Hp->VK->Prop:=fun x H Q=> ∃(O:AP') (d:D) (z:D×Bool),(∀p,¬Ow (H p)-> ¬O p)/\ik K H O d x/\g d=some z/\Gen K H O z Q
def rD(K:fX)(g:D->D->Option (D×Bool)):R2:=fun x y H Q=> ∃(O:AP') (d e:D) (z:D×Bool),(∀p,¬Ow (H p)-> ¬O p)/\ik K H O d x/\ik K H O e y/\g d e=some z/\Gen K H O z Q
def rDn(K:fX)(g:List D->Option (D×Bool)):List V->Hp->VK->Prop:=fun vs H Q=> ∃(O:AP') (ds:List D) (z:D×Bool),(∀p,¬Ow (H p)-> ¬O p)/\ds.length=vs.length/\(∀(j:Nat) d v,ds[j]?=some d->vs[j]?=some v->ik K H O d v)/\g ds=some z/\Gen K H O z Q
section
variable {X:Cx}{e a b:fV}{fa fb:FO}{fs:List FO}{pos:Pos}
theorem px1(h:PE X e (tUn (rD1 X.K g) (tO X.K fa))):PX X e (iV g fa):=GJ h fun x z v H O Q np hx hg G=>⟨O,x,z,np,hx,hg,G⟩
theorem px2(h:PE X e (tOp (rD X.K g) (tO X.K fa) (tO X.K fb))):PX X e (gj g fa fb):=GI h fun x y z v u H O Q np hx hy hg G=>⟨O,x,y,z,np,hx,hy,hg,G⟩
theorem pxn(h:PE X e (tCB (rDn X.K g) (tA X.K fs))):PX X e (hV g fs):=EB h fun ds z vs H O Q np hl hv hg G=>⟨O,ds,z,np,hl,hv,hg,G⟩
theorem gg{K H}{O:AP'}{i:Int}{v:V}(h:ik K H O (.int i) v):v= .int i:=h.elim (fun h=>h.int) fun⟨_,_,h⟩=>h.elim
theorem uD{K H}(h:ik K H O (.bl i) v):v= .bl i:=h.elim (fun h=>h.bl) fun⟨_,_,h⟩=>h.elim
theorem og{K H}(h:ik K H O (.str i) v):v= .str i:=h.elim (fun h=>h.str) fun⟨_,_,h⟩=>h.elim
theorem vR{K H}(h:ik K H O .non v):v= .non:=h.elim (fun h=>h.non) fun⟨_,_,h⟩=>h.elim
theorem Gen.str{K H}(g:Gen K H O (.str i,false) Q):Q (.str i) H:=g _ H (fun _ _ e=>e) Rep.mkStr
noncomputable def gI(f:Int->Int->Option D):D->D->Option (D×Bool)
 | .int i,.int j=>(f i j).map fun z=>(z,false)
 |_,_=>none
theorem qf{f:Int->Int->Option D}{d e:D}{z:D×Bool}(h:gI f d e=some z): ∃i j y,d= .int i/\e= .int j/\f i j=some y/\z=(y,false):=by
 cases d with
 |int i=>
  cases e with
  |int j=>
   cases hf:f i j with
   |none=>rw[gI,hf] at h;cases h
   |some y=>rw[gI,hf] at h;cases h;exact⟨i,j,y,rfl,rfl,hf,rfl⟩
  |_=>cases h
 |_=>cases h
theorem mW{f:pe}{C:Int->Int->Prop}[∀i j,Decidable (C i j)]{g:Int->Int->Int}(ho:OpR X f (rI C fun i j=> .int (g i j))):OpR X f (rD X.K (gI fun i j=>if C i j then some (.int (g i j)) else none)):=by
 intro pins s σ H x y v u Q I rx ry h;obtain⟨O,d,e,z,np,h1,h2,hg,G⟩:=h;obtain⟨i,j,w,rfl,rfl,hf,rfl⟩:=qf hg;obtain⟨hc,rfl⟩:=gy hf;exact ho pins s σ H x y v u Q I rx ry ⟨i,j,gg h1,gg h2,hc,G.int⟩
theorem wz{f:pe}{g:Int->Int->Int}(ho:OpR X f (rI0 fun i j=> .int (g i j))):OpR X f (rD X.K (gI fun i j=>some (.int (g i j)))):=by
 intro pins s σ H x y v u Q I rx ry h;obtain⟨O,d,e,z,np,h1,h2,hg,G⟩:=h;obtain⟨i,j,w,rfl,rfl,hf,rfl⟩:=qf hg;cases hf;exact ho pins s σ H x y v u Q I rx ry ⟨i,j,gg h1,gg h2,G.int⟩
instance(i j:Int):Decidable (CMul i j):=by unfold CMul;exact inferInstance
instance(i j:Int):Decidable (Bl i j):=by unfold Bl;exact inferInstance
instance(i j:Int):Decidable (oO i j):=by unfold oO;exact inferInstance
noncomputable def gSub:=gI fun i j=>some (.int (i-j))
noncomputable def wK:=gI fun i j=>if CMul i j then some (.int (i*j)) else none
noncomputable def DE:=gI fun i j=>if Bl i j then some (.int (i / j)) else none
noncomputable def se:=gI fun i j=>if 0<j then some (.int (i%j)) else none
noncomputable def vg:=gI fun i j=>if oO i j then some (.int (i^j.toNat)) else none
theorem mU:OpR X (binaryOp .Sub) (rD X.K gSub):=wz Hn
theorem ox:OpR X (binaryOp .Mult) (rD X.K wK):=mW Ht
theorem Ac:OpR X (binaryOp .FloorDiv) (rD X.K DE):=mW Fc
theorem mV:OpR X (binaryOp .Mod) (rD X.K se):=mW Hu
theorem uR:OpR X (binaryOp .Pow) (rD X.K vg):=mW Hr
noncomputable def jY:D->D->Option (D×Bool)
 | .int i,.int j=>some (.int (i+j),false)
 | .str i,.str j=>if i.length+j.length<=sizeLine then some (.str (i++j),false) else none
 | .tup l,.tup m=>if l.length+m.length<=sizeLine then some (.tup (l++m),false) else none
 | .lst l,.lst m=>if l.length+m.length<=sizeLine then some (.lst (l++m),true) else none
 |_,_=>none
theorem hU:OpR X (binaryOp .Add) (rD X.K jY):=by
 intro pins s σ H x y v u Q I rx ry h;obtain⟨O,d,e,z,np,h1,h2,hg,G⟩:=h
 cases d with
 |int i=>
  cases e with
  |int j=>cases hg;exact Hx pins s σ H x y v u Q I rx ry ⟨i,j,gg h1,gg h2,G.int⟩
  |_=>cases hg
 |str i=>
  cases e with
  |str j=>
   obtain⟨hc,rfl⟩:=gy hg;exact yL pins s σ H x y v u Q I rx ry ⟨i,j,og h1,og h2,hc,G.str⟩
  |_=>cases hg
 |tup l=>
  cases e with
  |tup m=>
   obtain⟨hc,rfl⟩:=gy hg;have k1:Rep X.K H O (.tup l) x:=h1.elim id fun⟨_,_,z⟩=>z.elim;have k2:Rep X.K H O (.tup m) y:=h2.elim id fun⟨_,_,z⟩=>z.elim;obtain⟨p1,xs,rfl,q1,r1⟩:=k1.tup;obtain⟨p2,ys,rfl,q2,r2⟩:=k2.tup;have l1:=r1.length;have l2:=r2.length;by_cases hx:xs=[]
   ·subst hx;have:l=[]:=by simpa using l1.symm
    subst this;cases rx;cases ry;obtain⟨b6,v1,eB,_⟩:=I.tuple q1.sq;obtain⟨e7,v2,f7,_⟩:=I.tuple q2.sq;have e1:b6=[]:=by have:=v1.length;simpa using this.symm
    subst e1;obtain⟨⟨cls,dd,data,sl⟩,ho,aj,n,hd⟩:=id eB;obtain⟨⟨cK,u6,data2,r6⟩,t6,l6,n2,hd2⟩:=id f7;simp only at aj hd l6 hd2;subst aj hd l6 hd2
    refine ur ⟨_,ho,rfl⟩ ⟨_,t6,rfl⟩ yf ye yd yc (yb _ _)
     (tuple_addW0 p1 p2 #[] e7.toArray n n2 dd u6 sl r6 (by simp)) ⟨ho,t6,⟨.ref p2,H,I,rfl,?_⟩⟩
    exact G _ H (fun _ _ e=>e) (by simpa using k2)
   ·refine Fd pins s σ H _ _ v u Q I rx ry ⟨p1,p2,xs,ys,rfl,rfl,q1.sq,q2.sq,hx,by omega,fun hy=>?_,fun hy p hp=>?_⟩
    ·subst hy;have:m=[]:=by simpa using l2.symm
     subst this;exact G _ H (fun _ _ e=>e) (by simpa using k1)
    ·exact G.tup hp (np p (nOw hp)) (r1.append r2)
  |_=>cases hg
 |lst l=>
  cases e with
  |lst m=>
   obtain⟨hc,rfl⟩:=gy hg;obtain⟨p1,xs,rfl,q1,r1⟩:=jc h1;obtain⟨p2,ys,rfl,q2,r2⟩:=jc h2;have l1:=r1.length;have l2:=r2.length;cases rx;cases ry;obtain⟨b6,v1,eB,_⟩:=I.list q1;obtain⟨e7,v2,f7,_⟩:=I.list q2;have e1:=v1.length;have e2:=v2.length;obtain⟨⟨cls,dd,data,sl⟩,ho,aj,n,hd⟩:=id eB.isList;obtain⟨⟨cK,u6,data2,r6⟩,t6,l6,n2,hd2⟩:=id f7.isList;simp only at aj hd l6 hd2;subst aj hd l6 hd2
   refine ur ⟨_,ho,rfl⟩ ⟨_,t6,rfl⟩ noFill_list_add seq_list_add PySem.F.slot_list_add PySem.F.entry_list_add (PySem.F.args_list_add_2 _ _)
    (list_addW p1 p2 b6.toArray e7.toArray n n2 dd u6 sl r6 (by simp only[iA];omega)) ⟨ho,t6,?_⟩
   rw[show b6.toArray++e7.toArray=(b6++e7).toArray by simp];exact⟨.ref _,_,I.lnew (t':=s.toks) (v1.append v2) (by rw[pz];omega),rfl,G.lst I.fresh (r1.append r2)⟩
  |_=>cases hg
 |_=>cases hg
noncomputable def gEq(d e:D):Option (D×Bool):=if d.dep<=50/\e.dep<=50 then some (.bl (D.eqb d e),false) else none
noncomputable def gNe(d e:D):Option (D×Bool):=if d.dep<=50/\e.dep<=50 then some (.bl (!D.eqb d e),false) else none
theorem nJ(hu:X.A.units+60<cLine):OpR X (compareOp .Eq) (rD X.K gEq):=by
 intro pins s σ H x y v u Q I rx ry h;obtain⟨O,d,e,z,np,h1,h2,hg,G⟩:=h;obtain⟨hc,rfl⟩:=gy hg;exact Hv hu pins s σ H x y v u Q I rx ry ⟨O,d,e,h1,h2,hc,G.bl⟩
theorem yK(hu:X.A.units+60<cLine):OpR X (compareOp .NotEq) (rD X.K gNe):=by
 intro pins s σ H x y v u Q I rx ry h;obtain⟨O,d,e,z,np,h1,h2,hg,G⟩:=h;obtain⟨hc,rfl⟩:=gy hg;exact Hs hu pins s σ H x y v u Q I rx ry ⟨O,d,e,h1,h2,hc,G.bl⟩
theorem gD{α β:Type}{x:Option α}{f:α->β}{b:β}(h:x.map f=some b): ∃a,x=some a/\f a=b:=by
 cases x with
 |none=>cases h
 |some a=>exact⟨a,rfl,iG h⟩
noncomputable def wI:D->Option (D×Bool)
 | .int i=>some (.int (-i),false)
 |_=>none
theorem Ef:UnR X (unaryOp .USub) (rD1 X.K wI):=by
 intro pins s σ H x v Q I rx h;obtain⟨O,d,z,np,h1,hg,G⟩:=h
 cases d with
 |int i=>cases hg;exact Gu pins s σ H x v Q I rx ⟨i,gg h1,G.int⟩
 |_=>cases hg
noncomputable def gIx:D->D->Option (D×Bool)
 | .tup l,.int i=>(atI l i).map fun d=>(d,false)
 | .lst l,.int i=>(atI l i).map fun d=>(d,false)
 |_,_=>none
theorem Ay{K H}{O:AP'}{l:List D}{xs:List V}{i:Int}{d:D}(r:RepL K H O l xs)(h:atI l i=some d): ∃v,atI xs i=some v/\Rep K H O d v:=by
 unfold atI at h ⊢;rw[r.length];obtain⟨j,h1,h2⟩:=fL h;rw[h1];exact r.get h2
theorem Ja:IxR X (rD X.K gIx):=by
 intro value slice pins s σ H x y v u Q I rx ry h hs;obtain⟨O,d,e,z,np,h1,h2,hg,G⟩:=h
 cases d with
 |tup l=>
  cases e with
  |int i=>
   obtain⟨w,hw,rfl⟩:=gD hg;obtain⟨p,xs,rfl,q,r⟩:=jT h1;obtain⟨vv,hv,hr⟩:=Ay r hw;exact HF value slice pins s σ H _ _ v u Q I rx ry ⟨p,xs,i,vv,rfl,gg h2,q,hv,G _ H (fun _ _ e=>e) hr⟩ hs
  |_=>cases hg
 |lst l=>
  cases e with
  |int i=>
   obtain⟨w,hw,rfl⟩:=gD hg;obtain⟨p,xs,rfl,q,r⟩:=jc h1;obtain⟨vv,hv,hr⟩:=Ay r hw;exact Fn value slice pins s σ H _ _ v u Q I rx ry ⟨p,xs,i,vv,rfl,gg h2,q,hv,G _ H (fun _ _ e=>e) hr⟩ hs
  |_=>cases hg
 |_=>cases hg
theorem GU(ho:OpR X (binaryOp op) (rD X.K g))(ha:PO X a fa)(hb:PO X b fb):PX X (.BinOp a op b pos) (gj g fa fb):=px2 (IQ ho ha hb)
theorem GS{op:CmpOp}{g:D->D->Option (D×Bool)}(ho:OpR X (compareOp op) (rD X.K g))(ha:PO X a fa)(hb:PO X b fb)(hm:behindInMarks op b=false):PX X (.Compare a [op] [b] pos) (gj g fa fb):=px2 (EX ho ha hb hm)
theorem GN(ha:PO X a fa):PX X (.UnaryOp .USub a pos) (iV wI fa):=px1 (IM Ef ha)
theorem IJ(ha:PO X a fa)(hb:PO X b fb)(hs:vF b):PX X (.Subscript a b pos) (gj gIx fa fb):=px2 (IS Ja ha hb hs)
end
noncomputable def kT:List Opd->Option (List D)
 |[]=>some []
 | .val r::os=>(kT os).map (r.1:: ·)
 | .slot _::_=>none
noncomputable def kD(fs:List F):F:=fun δ=>(gY (fs.map fS) δ).bind fun p=>(kT p.1).bind fun ds=>if ds.length<=sizeLine then some ((.tup ds,false),p.2) else none
noncomputable def lZ(fs:List F):F:=fun δ=>(gY (fs.map fS) δ).bind fun p=>(kT p.1).bind fun ds=>if ds.length<=sizeLine then some ((.lst ds,true),p.2) else none
section
variable {K:fX}{T T':AP'}{σ:L2.St}{δ δ':Dn}{H H':Hp}{os:List Opd}{vs:List V}
theorem Ops.rep(E:ER K H T σ δ)(B:Ops K T σ δ H os vs δ' H' T'){j:Nat}{r:D×Bool}{v:V}(h1:os[j]?=some (.val r))(h2:vs[j]?=some v):Rep K H' (fun a=>OwnA σ δ' a\/T a) r.1 v:=by
 obtain⟨d,b⟩:=r
 cases b with
 |false=>exact B.val j d v h1 h2
 |true=>
  obtain⟨p,rfl,tp,hp,ok⟩:=B.tmp j d v h1 h2;refine ok.rep (fun z=>?_) fun b _ z=>z;rcases z with z|z
  ·exact B.er.nT p z tp
  ·exact(E.dom p z).ne hp
theorem lE{O:AP'}: ∀{os:List Opd} {vs:List V} {ds:List D},kT os=some ds->os.length=vs.length->(∀(j:Nat) (r:D×Bool) (v:V),os[j]?=some (.val r)->vs[j]?=some v->Rep K H' O r.1 v)->RepL K H' O ds vs
 |[],vs,ds,h,hl,_=>by
  cases h;have:vs=[]:=by simpa using hl.symm
  subst this;exact RepL.nil
 | .slot i::os,vs,ds,h,_,_=>by cases h
 | .val r::os,vs,ds,h,hl,k=>by
  obtain⟨l,h1,rfl⟩:=gD h
  cases vs with
  |nil=>simp at hl
  |cons v vs=>exact RepL.cons (k 0 r v rfl rfl) (lE h1 (by simpa using hl) fun j r' v' a b=>k (j+1) r' v' (by simpa using a) (by simpa using b))
end
section
variable {X:Cx}{e a b:fV}{es:gX}{fa fb:FO}{fs:List F}{pos:Pos}
theorem GD{x1}(h:PA X es (tA X.K (fs.map fS))):PX X (.Tuple es x1 pos) (kD fs):=PX.imp (C9 h) fun σ H Q hw=>by
 obtain⟨δ,T,rr,δ',E,e,k⟩:=hw;obtain⟨⟨os,δ1⟩,h1,e⟩:=fL e;obtain⟨ds,h2,e⟩:=fL e;obtain⟨hn,e⟩:=gy e;obtain⟨rfl,rfl⟩:=nU e;refine⟨δ,T,os,δ1,E,h1,fun vs H1 T1 B=>?_⟩;have r:=lE h2 B.len fun j r v a b=>B.rep E a b;exact⟨by rw[r.length];exact hn,fun p hp=>(B.done k).tup hp (B.np (nOw hp)) r⟩
theorem GO(h:PA X es (tA X.K (fs.map fS))):PX X (.List es pos) (lZ fs):=PX.imp (Hj h) fun σ H Q hw=>by
 obtain⟨δ,T,rr,δ',E,e,k⟩:=hw;obtain⟨⟨os,δ1⟩,h1,e⟩:=fL e;obtain⟨ds,h2,e⟩:=fL e;obtain⟨hn,e⟩:=gy e;obtain⟨rfl,rfl⟩:=nU e;refine⟨δ,T,os,δ1,E,h1,fun vs H1 T1 B=>?_⟩;have r:=lE h2 B.len fun j r v a b=>B.rep E a b;exact⟨by rw[r.length];exact hn,fun p hp=>(B.done k).lst hp r⟩
theorem Fg{ds:List D}{vs:List V}{d:D}(hl:ds.length=vs.length)(hd:ds=[d]): ∃v,vs=[v]:=by
 subst hd
 cases vs with
 |nil=>simp at hl
 |cons v r=>
  cases r with
  |nil=>exact⟨v,rfl⟩
  |cons _ _=>simp at hl
noncomputable def g1(g:D->Option (D×Bool)):List D->Option (D×Bool)
 |[d]=>g d
 |_=>none
noncomputable def g2(g:D->D->Option (D×Bool)):List D->Option (D×Bool)
 |[d,e]=>g d e
 |_=>none
theorem oZ{f:fW}{g:D->Option (D×Bool)}(h: ∀(pins:gq) (s:fQ) (σ:L2.St) (H:Hp) (x:V) (u:fW) (Q:VK) (O:AP') (d:D) (z:D×Bool),Inv X pins σ H s->RelV x u->(∀p,¬Ow (H p)-> ¬O p)->ik X.K H O d x->g d=some z->Gen X.K H O z Q->
  wpAny (model X.prog X.w) X.A (call f [u]) (EP X pins σ Q) X.xe s):iP X f (rDn X.K (g1 g)):=by
 intro pins s σ H xs us Q I r hq;obtain⟨O,ds,z,np,hl,hv,hg,G⟩:=hq
 match ds,hg with
 |[d],hg=>
  obtain⟨v,rfl⟩:=Fg hl rfl;obtain⟨u,rfl,ru⟩:=pG r;exact h pins s σ H v u Q O d z I ru np (hv 0 d v rfl rfl) hg G
theorem DX{f:fW}{g:D->D->Option (D×Bool)}(h: ∀(pins:gq) (s:fQ) (σ:L2.St) (H:Hp) (x y:V) (us:gJ) (Q:VK) (O:AP') (d e:D) (z:D×Bool),Inv X pins σ H s->Vals [x,y] us->(∀p,¬Ow (H p)-> ¬O p)->ik X.K H O d x->ik X.K H O e y->g d e=some z->Gen X.K H O z Q->
  wpAny (model X.prog X.w) X.A (call f us) (EP X pins σ Q) X.xe s):iP X f (rDn X.K (g2 g)):=by
 intro pins s σ H xs us Q I r hq;obtain⟨O,ds,z,np,hl,hv,hg,G⟩:=hq
 match ds,hg,xs,hl with
 |[d,e],hg,[x,y],_=>exact h pins s σ H x y us Q O d e z I r np (hv 0 d x rfl rfl) (hv 1 e y rfl rfl) hg G
noncomputable def wL:D->Option (D×Bool)
 | .tup l=>some (.int l.length,false)
 | .lst l=>some (.int l.length,false)
 |_=>none
theorem lD:iP X (.builtin "len") (rDn X.K (g1 wL)):=oZ fun pins s σ H x u Q O d z I ru np hd hg G=>by
 cases d with
 |tup l=>
  cases hg;obtain⟨p,xs,rfl,q,r⟩:=jT hd;refine oJ pins s σ H [_] [u] Q I (.cons ru .nil) ⟨p,xs,rfl,.inr q,?_⟩;rw[r.length];exact G.int
 |lst l=>
  cases hg;obtain⟨p,xs,rfl,q,r⟩:=jc hd;refine oJ pins s σ H [_] [u] Q I (.cons ru .nil) ⟨p,xs,rfl,.inl q,?_⟩;rw[r.length];exact G.int
 |_=>cases hg
noncomputable def KZ:D->Option (D×Bool)
 | .int i=>some (.int (if i<0 then -i else i),false)
 |_=>none
noncomputable def Fs:D->Option (D×Bool)
 | .int i=>some (.int i,false)
 | .bl b=>some (.int (if b then 1 else 0),false)
 |_=>none
theorem Bk:iP X (.type "int") (rDn X.K (g1 Fs)):=oZ fun pins s σ H x u Q O d z I ru np hd hg G=>by
 cases d with
 |int i=>cases hg;exact tJ pins s σ H [x] [u] Q I (.cons ru .nil) (.inl ⟨i,by rw[gg hd],G.int⟩)
 |bl i=>
  cases hg;refine tJ pins s σ H [x] [u] Q I (.cons ru .nil) (.inr ⟨i,by rw[uD hd],?_⟩);have:=G.int;cases i<;>exact this
 |_=>cases hg
noncomputable def mE:D->Option (D×Bool)
 | .tup l=>some (.tup l,false)
 | .lst l=>some (.tup l,false)
 |_=>none
theorem jZ:iP X (.type "tuple") (rDn X.K (g1 mE)):=oZ fun pins s σ H x u Q O d z I ru np hd hg G=>by
 cases d with
 |tup l=>
  cases hg;have k1:Rep X.K H O (.tup l) x:=hd.elim id fun⟨_,_,z⟩=>z.elim;obtain⟨p,xs,rfl,q,r⟩:=k1.tup;exact nG pins s σ H [_] [u] Q I (.cons ru .nil) ⟨p,xs,rfl,.inr ⟨q.sq,G _ H (fun _ _ e=>e) k1⟩⟩
 |lst l=>
  cases hg;obtain⟨p,xs,rfl,q,r⟩:=jc hd;exact nG pins s σ H [_] [u] Q I (.cons ru .nil) ⟨p,xs,rfl,.inl ⟨q,fun t ht=>G.tup ht (np t (nOw ht)) r⟩⟩
 |_=>cases hg
noncomputable def Gd:D->Option (D×Bool)
 | .tup l=>some (.lst l,true)
 | .lst l=>some (.lst l,true)
 |_=>none
end
abbrev FT:=Dn->Option (Bool×Dn)
def tT(K:fX)(f:FT):TT:=fun σ H Q=> ∃δ T b δ',ER K H T σ δ/\f δ=some (b,δ')/\ ∀H',Keep σ δ H δ' H'->ER K H' T σ δ'->Q b H'
def PTX(X:Cx)(e:fV)(f:FT):Prop:=PT X e (tT X.K f)
def PWX(X:Cx)(e:fV)(f:FT):Prop:=PW X e (tT X.K f)
noncomputable def asB:(D×Bool)×Dn->Option (Bool×Dn)
 |((.bl b,_),δ)=>some (b,δ)
 |_=>none
noncomputable def fT(f:F):FT:=fun δ=>(f δ).bind asB
theorem rR(h:asB p=some q): ∃o,p=((.bl q.1,o),q.2):=by
 obtain⟨⟨d,o⟩,δ⟩:=p
 cases d with
 |bl b=>cases h;exact⟨o,rfl⟩
 |_=>cases h
theorem Cq{K:fX}{f:F}{σ:L2.St}{H:Hp}{Q:Bool->Hp->Prop}(h:tT K (fT f) σ H Q):tF K f σ H fun x H1=> ∃c,x= .bl c/\Q c H1:=by
 obtain⟨δ,T,b,δ',E,e,k⟩:=h;obtain⟨p,h1,h2⟩:=fL e;obtain⟨o,rfl⟩:=rR h2;refine⟨δ,T,_,_,E,h1,fun v H' P=>?_⟩;obtain⟨E1,r⟩:=P.rep E;exact⟨b,r.bl,k H' P.1 E1⟩
section
variable {X:Cx}{e a b c:fV}{es:gX}{fa fb:FO}{f g:F}{ft fu:FT}{pos:Pos}
theorem PT.imp'(h:PT X e t)(k: ∀σ H Q,t' σ H Q->t σ H Q):PT X e t':=fun pins s σ H Q I hw=>h pins s σ H Q I (k σ H Q hw)
theorem PW.imp'(h:PW X e t)(k: ∀σ H Q,t' σ H Q->t σ H Q):PW X e t':=fun wh pins s σ H Q I hw=>h wh pins s σ H Q I (k σ H Q hw)
theorem EE(h:PX X e f)(he: ∀whole,isTrue e X.env whole=(do let v <-whole;standAt e.pos;holding [v] (truthy v))):PTX X e (fT f):=PT.imp' (GZ h he) fun σ H Q hw=>Cq hw
theorem Ff{r:R2}{g:D->D->Option (D×Bool)}(hr:Ia X.K r g){σ:L2.St}{H:Hp}{Q:VK}(hw:tF X.K (gj g fa fb) σ H Q):tOp r (tO X.K fa) (tO X.K fb) σ H Q:=by
 obtain⟨δ,T,rr,δ',E,e,k⟩:=hw;obtain⟨⟨o,δ1⟩,h1,e⟩:=fL e;obtain⟨⟨o2,δ2⟩,h2,e⟩:=fL e;obtain⟨x,h3,e⟩:=fL e;obtain⟨y,h4,e⟩:=fL e;obtain⟨z,h5,e⟩:=fL e;obtain⟨rfl,rfl⟩:=fY e;refine⟨δ,T,o,δ1,E,h1,fun v H1 P1=>⟨δ1,nj T o v,o2,δ2,P1.er E,h2,fun u H2 P2=>?_⟩⟩;have B:=Ops.cons E P1 (Ops.cons (P1.er E) P2 (Ops.nil (P2.er (P1.er E))));exact hr x y z v u H2 _ Q (fun p hp=>B.np hp) (B.view (j:=0) rfl rfl h3) (B.view (j:=1) rfl rfl h4) h5 (B.done k)
theorem IH{K:fX}{g:D->D->Option (D×Bool)}:Ia K (rD K g) g:=fun x y z v u H O Q np hx hy hg G=>⟨O,x,y,z,np,hx,hy,hg,G⟩
theorem EG{op:CmpOp}{g:D->D->Option (D×Bool)}(ho:OpR X (compareOp op) (rD X.K g))(ha:PO X a fa)(hb:PO X b fb)(hm:behindInMarks op b=false):PTX X (.Compare a [op] [b] pos) (fT (gj g fa fb)):=
 PT.imp' (EH ho ha hb hm) fun σ H Q hw=>Ff IH (Cq hw)
noncomputable def Jk(f g:FT):FT:=fun δ=>(f δ).bind fun p=>if p.1=true then g p.2 else some (false,p.2)
noncomputable def oF(f g:FT):FT:=fun δ=>(f δ).bind fun p=>if p.1=true then some (true,p.2) else g p.2
noncomputable def iZ(f:FT):FT:=fun δ=>(f δ).bind fun p=>some (!p.1,p.2)
theorem ED(ha:PTX X a ft):PWX X (.BoolOp .Or [a] pos) ft:=GY ha
theorem GX(ha:PTX X a ft)(hb:PWX X (.BoolOp .Or (b::es) pos) fu):PWX X (.BoolOp .Or (a::b::es) pos) (oF ft fu):=PW.imp' (IK ha hb) fun σ H Q hw=>by
 obtain⟨δ,T,c,δ',E,e,k⟩:=hw;obtain⟨⟨c1,δ1⟩,h1,e⟩:=fL e;refine⟨δ,T,c1,δ1,E,h1,fun H1 K1 E1=>?_⟩
 cases c1 with
 |true=>
  rw[gh rfl] at e;rw[gh rfl];obtain⟨rfl,rfl⟩:=fY e;exact k H1 K1 E1
 |false=>
  rw[gk jb] at e;rw[gk jb];exact⟨δ1,T,c,δ',E1,e,fun H2 K2 E2=>k H2 (K1.trans K2) E2⟩
theorem EF(ha:PTX X a ft):PTX X (.UnaryOp .Not a pos) (iZ ft):=PT.imp' (G2 ha) fun σ H Q hw=>by
 obtain⟨δ,T,c,δ',E,e,k⟩:=hw;obtain⟨⟨c1,δ1⟩,h1,e⟩:=fL e;obtain⟨rfl,rfl⟩:=fY e;exact⟨δ,T,c1,δ1,E,h1,k⟩
noncomputable def wU(f g:F):F:=fun δ=>(f δ).bind fun p=>(asB p).bind fun q=>if q.1=true then g q.2 else some ((.bl false,false),q.2)
noncomputable def fOr(f g:F):F:=fun δ=>(f δ).bind fun p=>(asB p).bind fun q=>if q.1=true then some ((.bl true,false),q.2) else g q.2
noncomputable def DL(f:F):F:=fun δ=>(f δ).bind fun p=>(asB p).bind fun q=>some ((.bl (!q.1),false),q.2)
theorem Post.pre{K:fX}{T:AP'}{σ:L2.St}{δ δ1 δ2:Dn}{H H1 H2:Hp}{r:D×Bool}{v:V}(k:Keep σ δ H δ1 H1)(P:Post K T σ δ1 H1 r δ2 v H2):Post K T σ δ H r δ2 v H2:=by
 refine⟨k.trans P.1,?_⟩;obtain⟨d,o⟩:=r
 cases o with
 |false=>exact P.2
 |true=>
  obtain⟨p,h1,h2,h3⟩:=P.2;refine⟨p,h1,?_,h3⟩
  cases hH:H p with
  |none=>rfl
  |some ob=>exact absurd h2 (k.dm p (by rw[hH];simp))
theorem GV(ha:PX X a f)(hb:PX X (.BoolOp .And (b::es) pos) g):PX X (.BoolOp .And (a::b::es) pos) (wU f g):=PX.imp (Hl ha hb) fun σ H Q hw=>by
 obtain⟨δ,T,r,δ',E,e,k⟩:=hw;obtain⟨p,h1,e⟩:=fL e;obtain⟨⟨c,δ1⟩,h2,e2⟩:=fL e;obtain⟨o,rfl⟩:=rR h2;refine⟨δ,T,_,_,E,h1,fun v H1 P=>?_⟩;obtain⟨E1,rv⟩:=P.rep E;refine⟨c,rv.bl,?_⟩
 cases c with
 |true=>
  rw[gh rfl] at e2;rw[gh rfl];exact⟨δ1,T,r,δ',E1,e2,fun w H2 P2=>k w H2 (P2.pre P.1)⟩
 |false=>
  rw[gk jb] at e2;rw[gk jb];obtain⟨rfl,rfl⟩:=fY e2;exact k _ H1 (Post.val P.1 E1 Rep.mkBl)
theorem EC{op}(ha:PX X a f):PX X (.BoolOp op [a] pos) f:=Hf ha
theorem GK(ha:PX X a f):PX X (.UnaryOp .Not a pos) (DL f):=PX.imp (Hg ha) fun σ H Q hw=>by
 obtain⟨δ,T,r,δ',E,e,k⟩:=hw;obtain⟨p,h1,e⟩:=fL e;obtain⟨⟨c,δ1⟩,h2,e2⟩:=fL e;obtain⟨o,rfl⟩:=rR h2;obtain⟨rfl,rfl⟩:=fY e2;refine⟨δ,T,_,_,E,h1,fun v H1 P=>?_⟩;obtain⟨E1,rv⟩:=P.rep E;exact⟨c,rv.bl,k _ H1 (Post.val P.1 E1 Rep.mkBl)⟩
noncomputable def fIf(t:FT)(f g:F):F:=fun δ=>(t δ).bind fun p=>if p.1=true then f p.2 else g p.2
end
inductive Out where
 |nx(δ:Dn)|rt(r:D×Bool)(δ:Dn)|bk(δ:Dn)|ct(δ:Dn)
abbrev FS:=Dn->Option Out
structure SK(A:gG)(σ:L2.St)(δ:Dn)(H:Hp)(σ':L2.St)(δ':Dn)(H':Hp):Prop where
 kp: ∀a o,H a=some o-> ¬OwnA σ δ a->H' a=some o
 owi: ∀i a,OwnI σ' δ' i a->OwnI σ δ i a\/H a=none
 dm: ∀a,H a≠none->H' a≠none
 as: ∀i,¬A i->σ'[i]?=σ[i]?
structure FI(L:gG)(H0:Hp)(σ:L2.St)(δ:Dn)(H:Hp):Prop where
 ow: ∀i a,OwnI σ δ i a->L i\/H0 a=none
 dm: ∀a,H0 a≠none->H a≠none
def RV(K:fX)(T:AP')(H0:Hp)(r:D×Bool)(σ':L2.St)(δ':Dn)(v:V)(H':Hp):Prop:=
 match r with
 |(d,false)=>ER K H' T σ' δ'/\Rep K H' (fun a=>OwnA σ' δ' a\/T a) d v
 |(d,true)=> ∃p,v= .ref p/\H0 p=none/\ER K H' (fun a=>T a\/a=p) σ' δ'/\OwnOk K H' (fun a=>OwnA σ' δ' a\/T a\/a=p) d p
section
variable {A:gG}{σ σ1 σ2:L2.St}{δ δ1 δ2:Dn}{H H0 H1 H2:Hp}{L:gG}{K:fX}{T:AP'}
theorem SK.refl:SK A σ δ H σ δ H:=⟨fun _ _ e _=>e,fun _ _ z=> .inl z,fun _ z=>z,fun _ _=>rfl⟩
theorem SK.ow(k:SK A σ δ H σ1 δ1 H1)(a:fM)(h:OwnA σ1 δ1 a):OwnA σ δ a\/H a=none:=by
 obtain⟨i,d,h1,h2⟩:=h;rcases k.owi i a ⟨d,h1,h2⟩ with⟨e,h3,h4⟩|z
 ·exact .inl ⟨i,e,h3,h4⟩
 ·exact .inr z
theorem SK.trans(x:SK A σ δ H σ1 δ1 H1)(y:SK A σ1 δ1 H1 σ2 δ2 H2):SK A σ δ H σ2 δ2 H2 where
 kp:=fun a o e n=>y.kp a o (x.kp a o e n) fun z=>(x.ow a z).elim n fun z=>by rw[z] at e;cases e
 owi:=fun i a z=>(y.owi i a z).elim (x.owi i a) fun z=> .inr (by
  cases h:H a with
  |none=>rfl
  |some o=>exact absurd z (x.dm a (by rw[h];simp)))
 dm:=fun a z=>y.dm a (x.dm a z)
 as:=fun i h=>(y.as i h).trans (x.as i h)
theorem Keep.sk(k:Keep σ δ H δ1 H1):SK A σ δ H σ δ1 H1:=⟨k.kp,fun i a z=> .inl (k.owi i a z),k.dm,fun _ _=>rfl⟩
theorem FI.step(f:FI L H0 σ δ H)(k:SK A σ δ H σ1 δ1 H1):FI L H0 σ1 δ1 H1 where
 ow:=fun i a z=>(k.owi i a z).elim (f.ow i a) fun z=> .inr (by
  cases h:H0 a with
  |none=>rfl
  |some o=>exact absurd z (f.dm a (by rw[h];simp)))
 dm:=fun a z=>k.dm a (f.dm a z)
theorem FI.fresh(f:FI L H0 σ δ H)(hp:H p=none):H0 p=none:=by
 cases h:H0 p with
 |none=>rfl
 |some o=>exact absurd hp (f.dm p (by rw[h];simp))
end
def tS(K:fX)(A L:gG)(H0:Hp)(f:FS):TS:=fun D σ H=> ∃δ T out,ER K H T σ δ/\FI L H0 σ δ H/\f δ=some out/\
 match out with
 | .nx δ'=> ∀σ' H',SK A σ δ H σ' δ' H'->ER K H' T σ' δ'->D.nx σ' H'
 | .bk δ'=> ∀σ' H',SK A σ δ H σ' δ' H'->ER K H' T σ' δ'->D.bk σ' H'
 | .ct δ'=> ∀σ' H',SK A σ δ H σ' δ' H'->ER K H' T σ' δ'->D.ct σ' H'
 | .rt r δ'=> ∀v σ' H',SK A σ δ H σ' δ' H'->RV K T H0 r σ' δ' v H'->D.rt v H'
def PSX(X:Cx)(A L:gG)(H0:Hp)(st:Stmt)(f:FS):Prop:=PS X st (tS X.K A L H0 f)
def vH(X:Cx)(A L:gG)(H0:Hp)(st:List Stmt)(f:FS):Prop:=PSs X st (tS X.K A L H0 f)
noncomputable def gR:FS:=fun δ=>some (.nx δ)
noncomputable def gm(f g:FS):FS:=fun δ=>(f δ).bind fun o=>match o with
 | .nx δ1=>g δ1
 |o=>some o
noncomputable def kM(f:F):FS:=fun δ=>(f δ).bind fun p=>some (.nx p.2)
noncomputable def jt(f:F):FS:=fun δ=>(f δ).bind fun p=>some (.rt p.1 p.2)
noncomputable def lJ(i:Nat):FS:=fun δ=>match δ[i]? with
 |some (some (d,true))=>some (.rt (d,true) (δ.set i none))
 |some (some (d,false))=>some (.rt (d,false) δ)
 |_=>none
noncomputable def sIf(t:FT)(f g:FS):FS:=fun δ=>(t δ).bind fun p=>if p.1=true then f p.2 else g p.2
noncomputable def jf(i:Nat)(f:F):FS:=fun δ=>(f δ).bind fun p=>if i<p.2.length then some (.nx (p.2.set i (some p.1))) else none
section
variable {X:Cx}{A L:gG}{H0:Hp}{st:Stmt}{v5:List Stmt}{f g:FS}{fe:F}{ft:FT}{e c:fV}{pos:Pos}
theorem PS.imp'(h:PS X st t)(k: ∀D σ H,t' D σ H->t D σ H):PS X st t':=fun pins s σ H D I hw=>h pins s σ H D I (k D σ H hw)
theorem PSs.imp'(h:PSs X v5 t)(k: ∀D σ H,t' D σ H->t D σ H):PSs X v5 t':=fun pins s σ H D I hw=>h pins s σ H D I (k D σ H hw)
theorem CQ:vH X A L H0 [] gR:=PSs.imp' zV fun D σ H hw=>by
 obtain⟨δ,T,out,E,fi,e,k⟩:=hw;cases e;exact k σ H .refl E
theorem AX(h1:PSX X A L H0 st f)(h2:vH X A L H0 v5 g):vH X A L H0 (st::v5) (gm f g):=PSs.imp' (lu h1 h2) fun D σ H hw=>by
 obtain⟨δ,T,out,E,fi,e,k⟩:=hw;obtain⟨o,h3,e⟩:=fL e;refine⟨δ,T,o,E,fi,h3,?_⟩
 cases o with
 |nx δ1=>
  intro σ1 H1 K1 E1;refine⟨δ1,T,out,E1,fi.step K1,e,?_⟩
  cases out with
  |nx δ2=>exact fun σ2 H2 K2 E2=>k σ2 H2 (K1.trans K2) E2
  |bk δ2=>exact fun σ2 H2 K2 E2=>k σ2 H2 (K1.trans K2) E2
  |ct δ2=>exact fun σ2 H2 K2 E2=>k σ2 H2 (K1.trans K2) E2
  |rt r δ2=>exact fun v σ2 H2 K2 R2=>k v σ2 H2 (K1.trans K2) R2
 |rt r δ1=>cases e;exact k
 |bk δ1=>cases e;exact k
 |ct δ1=>cases e;exact k
theorem CN(h:PX X e fe)(hs:swapsWith e none pos.line X.env=pure false):PSX X A L H0 (.Expr e pos) (kM fe):=PS.imp' (zW h hs) fun D σ H hw=>by
 obtain⟨δ,T,out,E,fi,e,k⟩:=hw;obtain⟨p,h3,e⟩:=fL e;cases e;exact⟨δ,T,p.1,p.2,E,h3,fun v H1 P=>k σ H1 P.1.sk (P.rep E).1⟩
theorem EJ(h:PX X e fe):PSX X A L H0 (.Return (some e) pos) (jt fe):=PS.imp' (CU h) fun D σ H hw=>by
 obtain⟨δ,T,out,E,fi,e,k⟩:=hw;obtain⟨p,h3,e⟩:=fL e;cases e;refine⟨δ,T,p.1,p.2,E,h3,fun v H1 P=>k v σ H1 P.1.sk ?_⟩;obtain⟨⟨d,o⟩,δ1⟩:=p
 cases o with
 |false=>exact P.2
 |true=>
  obtain⟨q,h1,h2,h3⟩:=P.2;exact⟨q,h1,fi.fresh h2,h3⟩
theorem G3(hc:PTX X c ft)(ha:vH X A L H0 a f)(hb:vH X A L H0 b g):PSX X A L H0 (.If c a b pos) (sIf ft f g):=PS.imp' (F4 hc ha hb) fun D σ H hw=>by
 obtain⟨δ,T,out,E,fi,e,k⟩:=hw;obtain⟨⟨c,δ1⟩,h1,e⟩:=fL e;refine⟨δ,T,c,δ1,E,h1,fun H1 K1 E1=>?_⟩;have dz:SK A σ δ H σ δ1 H1:=K1.sk
 have fin: ∀(h:FS),h δ1=some out->tS X.K A L H0 h D σ H1:=fun h he=>by
  refine⟨δ1,T,out,E1,fi.step dz,he,?_⟩
  cases out with
  |nx δ2=>exact fun σ2 H2 K2 E2=>k σ2 H2 (dz.trans K2) E2
  |bk δ2=>exact fun σ2 H2 K2 E2=>k σ2 H2 (dz.trans K2) E2
  |ct δ2=>exact fun σ2 H2 K2 E2=>k σ2 H2 (dz.trans K2) E2
  |rt r δ2=>exact fun v σ2 H2 K2 R2=>k v σ2 H2 (dz.trans K2) R2
 cases c with
 |true=>rw[gh rfl] at e;exact(show(if true=true then tS X.K A L H0 f D σ H1 else _) from by rw[gh rfl];exact fin f e)
 |false=>rw[gk jb] at e;exact(show(if false=true then _ else tS X.K A L H0 g D σ H1) from by rw[gk jb];exact fin g e)
end
theorem jG{α:Type}{l:List α}{i j:Nat}{x y:α}(h:(l.set i x)[j]?=some y):(i=j/\i<l.length/\y=x)\/(i≠j/\l[j]?=some y):=by
 rw[qA] at h;split at h
 ·rename_i l8;split at h
  ·rename_i hl;exact .inl ⟨l8,hl,(iG h).symm⟩
  ·cases h
 ·rename_i l8;exact .inr ⟨l8,h⟩
section
variable {K:fX}{T:AP'}{σ:L2.St}{δ δ1:Dn}{H H1:Hp}{x:D×Bool}{v:V}{i:Nat}
theorem OwnI.store{j:Nat}{a:fM}(h:OwnI (σ.set i (some v)) (δ.set i (some x)) j a):(i≠j/\OwnI σ δ j a)\/(i=j/\x.2=true/\v= .ref a):=by
 obtain⟨d,h1,h2⟩:=h;rcases jG h1 with⟨e,_,q⟩|⟨ne,q⟩
 ·rcases jG h2 with⟨_,_,q2⟩|⟨ne2,_⟩
  ·right;cases q;exact⟨e,rfl,(iG q2).symm⟩
  ·exact absurd e ne2
 ·rcases jG h2 with⟨e2,_,_⟩|⟨_,q2⟩
  ·exact absurd e2 ne
  ·exact .inl ⟨ne,d,q,q2⟩
theorem OwnA.store(h:OwnA (σ.set i (some v)) (δ.set i (some x)) a):OwnA σ δ a\/(x.2=true/\v= .ref a):=by
 obtain⟨j,d,h1,h2⟩:=h;rcases OwnI.store ⟨d,h1,h2⟩ with⟨_,e,h3,h4⟩|⟨_,h3⟩
 ·exact .inl ⟨j,e,h3,h4⟩
 ·exact .inr h3
theorem ER.store(E1:ER K H1 (Tmp T x v) σ δ1)(hi:i<δ1.length)(hx:match x with|(d,false)=>Rep K H1 (fun a=>OwnA σ δ1 a\/T a) d v|(d,true)=> ∃p,v= .ref p/\ ¬T p/\OwnOk K H1 (fun a=>OwnA σ δ1 a\/T a\/a=p) d p):
  ER K H1 T (σ.set i (some v)) (δ1.set i (some x)):=by
 have hσ:i<σ.length:=by rw[E1.len];exact hi
 have sub: ∀b,H1 b≠none->(OwnA (σ.set i (some v)) (δ1.set i (some x)) b\/T b)->(OwnA σ δ1 b\/Tmp T x v b):=fun b _ z=>by
  rcases z with z|z
  ·rcases z.store with z|z
   ·exact .inl z
   ·exact .inr (.inr z)
  ·exact .inr (.inl z)
 refine⟨by rw[nu,nu];exact E1.len,fun j d hj=>?_,fun j d hj=>?_,fun j k d e a hj hk h1 h2=>?_,fun a z=>?_,fun a z=>E1.dom a (.inl z)⟩
 ·rcases jG hj with⟨rfl,_,q⟩|⟨ne,q⟩
  ·have q:=iG q;subst q
   exact⟨v,jJ hσ,Rep.mono (fun _ _ e _=>e) (fun b hb z=>by
    rcases z with z|z
    ·rcases z.store with z|z
     ·exact .inl z
     ·exact absurd z.1 (by simp)
    ·exact .inr z) hx⟩
  ·obtain⟨w,h1,h2⟩:=E1.val j d q;exact⟨w,by rw[kz ne];exact h1,Rep.mono (fun _ _ e _=>e) sub h2⟩
 ·rcases jG hj with⟨rfl,_,q⟩|⟨ne,q⟩
  ·have q:=iG q;subst q;obtain⟨p,rfl,np,ok⟩:=hx;refine⟨p,jJ hσ,ok.mono (fun _ _ e _=>e) (fun b hb z=>?_) fun _ e=>e⟩;rcases z with z|z
   ·rcases z.store with z|z
    ·exact .inl z
    ·have:=z.2;cases this;exact .inr (.inr rfl)
   ·exact .inr (.inl z)
  ·obtain⟨a,h1,h2⟩:=E1.own j d q;exact⟨a,by rw[kz ne];exact h1,h2.mono (fun _ _ e _=>e) sub fun _ e=>e⟩
 ·rcases OwnI.store ⟨d,hj,h1⟩ with⟨n1,d',g1,g2⟩|⟨e1,g1,g2⟩
  ·rcases OwnI.store ⟨e,hk,h2⟩ with⟨n2,e',g3,g4⟩|⟨e2,g3,g4⟩
   ·exact E1.inj j k d' e' a g1 g3 g2 g4
   ·exact absurd (Or.inr ⟨g3,g4⟩) (E1.nT a ⟨j,d',g1,g2⟩)
  ·rcases OwnI.store ⟨e,hk,h2⟩ with⟨n2,e',g3,g4⟩|⟨e2,g3,g4⟩
   ·exact absurd (Or.inr ⟨g1,g2⟩) (E1.nT a ⟨k,e',g3,g4⟩)
   ·exact e1.symm.trans e2
 ·rcases z.store with z|z
  ·exact fun t=>E1.nT a z (.inl t)
  ·obtain⟨d,b⟩:=x
   cases b with
   |false=>exact absurd z.1 (by simp)
   |true=>
    obtain⟨p,rfl,np,_⟩:=hx;have:=z.2;cases this;exact np
theorem SK.store(k:Keep σ δ H δ1 H1)(ha:A i)(hp:x.2=true-> ∀p,v= .ref p->H p=none):SK A σ δ H (σ.set i (some v)) (δ1.set i (some x)) H1 where
 kp:=k.kp
 owi:=fun j a z=>by
  rcases z.store with⟨_,z⟩|⟨_,z1,z2⟩
  ·exact .inl (k.owi j a z)
  ·exact .inr (hp z1 a z2)
 dm:=k.dm
 as:=fun j hj=>kz (fun(e:i=j)=>hj (by subst e;exact ha))
end
section
variable {X:Cx}{A L:gG}{H0:Hp}{fe:F}{e c:fV}{pos pos':Pos}
theorem my{K:fX}{T:AP'}{σ:L2.St}{δ δ1:Dn}{H H1:Hp}{r:D×Bool}{v:V}{i:Nat}(E:ER K H T σ δ)(P:Post K T σ δ H r δ1 v H1)(hi:i<δ1.length)(ha:A i):
  SK A σ δ H (σ.set i (some v)) (δ1.set i (some r)) H1/\ER K H1 T (σ.set i (some v)) (δ1.set i (some r)):=by
 have hp:r.2=true-> ∀p,v= .ref p->H p=none:=fun h p hv=>by
  obtain⟨d,o⟩:=r
  cases o with
  |false=>cases h
  |true=>obtain⟨q,h1,h2,_⟩:=P.2;rw[hv] at h1;cases h1;exact h2
 refine⟨SK.store P.1 ha hp,ER.store (P.er E) hi ?_⟩;obtain⟨d,o⟩:=r
 cases o with
 |false=>exact P.2.2
 |true=>
  obtain⟨p,rfl,h2,h3,h4⟩:=P.2;exact⟨p,rfl,fun z=>(E.dom p z).ne h2,h4⟩
theorem EI{i:Nat}{x:Str}(hN:X.N.Nodup)(hi:X.N[i]?=some x)(hx:Loc X.env.scope x)(he:PX X e fe)(hs:swapsWith e (some (.Name x pos')) pos.line X.env=pure false)(hf:X.fn x=true\/X.env.scope.names.lookup x=some .local)(ha:A i):
  PSX X A L H0 (.Assign [.Name x pos'] e pos) (jf i fe):=PS.imp' (CS hN hi hx he hs hf) fun D σ H hw=>by
 obtain⟨δ,T,out,E,fi,e,k⟩:=hw;obtain⟨⟨r,δ1⟩,h3,e⟩:=fL e;obtain⟨hi,rfl⟩:=gy e;refine⟨δ,T,r,δ1,E,h3,fun v H1 P=>?_⟩;obtain⟨h1,h2⟩:=my (A:=A) E P hi ha;exact k _ H1 h1 h2
theorem yG{i:Nat}{x:Str}(hN:X.N[i]?=some x)(hv:Vis X.env.scope x)(hd:(x==("__debug__":Str))=false)(n6:(x==("__classdict__":Str))=false)(hl: ¬L i):PSX X A L H0 (.Return (some (.Name x pos')) pos) (lJ i):=PS.imp' (CU (rd hN hv hd n6)) fun D σ H hw=>by
 obtain⟨δ,T,out,E,fi,e,k⟩:=hw;unfold lJ at e
 cases hi:δ[i]? with
 |none=>rw[hi] at e;cases e
 |some q=>
  cases q with
  |none=>rw[hi] at e;cases e
  |some p=>
   obtain⟨d,b⟩:=p;have hil:i<δ.length:=(pR.mp hi).1
   cases b with
   |false=>
    rw[hi] at e;cases e;obtain⟨v,h1,h2⟩:=E.val i d hi;exact⟨v,h1,k v σ H .refl ⟨E,h2⟩⟩
   |true=>
    rw[hi] at e;cases e;obtain⟨a,h1,h2⟩:=E.own i d hi
    have gone: ∀j b,OwnI σ (δ.set i none) j b->i≠j/\OwnI σ δ j b:=fun j b ⟨d',g1,g2⟩=>by
     rcases jG g1 with⟨_,_,q⟩|⟨ne,q⟩
     ·cases q
     ·exact⟨ne,d',q,g2⟩
    have goneA: ∀b,OwnA σ (δ.set i none) b->OwnA σ δ b/\b≠a:=fun b ⟨j,d',g1,g2⟩=>by
     obtain⟨ne,d2,g3,g4⟩:=gone j b ⟨d',g1,g2⟩;exact⟨⟨j,d2,g3,g4⟩,fun z=>ne (by subst z;exact E.inj i j d d2 _ hi g3 h1 g4)⟩
    have ha:OwnA σ δ a:=⟨i,d,hi,h1⟩
    have sub: ∀b,H b≠none->(OwnA σ (δ.set i none) b\/(T b\/b=a))->(OwnA σ δ b\/T b):=fun b _ z=>by
     rcases z with z|z|z
     ·exact .inl (goneA b z).1
     ·exact .inr z
     ·subst z;exact .inl ha
    refine⟨.ref a,h1,k (.ref a) σ H ⟨fun _ _ e _=>e,fun j b z=> .inl (gone j b z).2,fun _ z=>z,fun _ _=>rfl⟩ ⟨a,rfl,?_,?_,h2.mono (fun _ _ e _=>e) sub fun _ e=>e⟩⟩
    ·rcases fi.ow i a ⟨d,hi,h1⟩ with z|z
     ·exact absurd z hl
     ·exact z
    ·refine⟨by rw[nu];exact E.len,fun j d' hj=>?_,fun j d' hj=>?_,fun j k d' e' b hj hk g1 g2=>?_,fun b z t=>?_,fun b z=>?_⟩
     ·rcases jG hj with⟨_,_,q⟩|⟨ne,q⟩
      ·cases q
      ·obtain⟨w,w1,w2⟩:=E.val j d' q;exact⟨w,w1,Rep.mono (fun _ _ e _=>e) sub w2⟩
     ·rcases jG hj with⟨_,_,q⟩|⟨ne,q⟩
      ·cases q
      ·obtain⟨w,w1,w2⟩:=E.own j d' q;exact⟨w,w1,w2.mono (fun _ _ e _=>e) sub fun _ e=>e⟩
     ·obtain⟨_,d2,q1,q2⟩:=gone j b ⟨d',hj,g1⟩;obtain⟨_,d3,q3,q4⟩:=gone k b ⟨e',hk,g2⟩;exact E.inj j k d2 d3 b q1 q3 q2 q4
     ·obtain⟨z1,z2⟩:=goneA b z;rcases t with t|t
      ·exact E.nT b z1 t
      ·exact z2 t
     ·rcases z with z|z
      ·exact E.dom b z
      ·subst z;exact E.ownOw ha
end
abbrev Tg:=D->Dn->Option Dn
def tG(K:fX)(A:gG)(tg:Tg):TG:=fun v σ H Q=> ∃δ T d δ',ER K H T σ δ/\Rep K H (fun a=>OwnA σ δ a\/T a) d v/\tg d δ=some δ'/\ ∀σ',SK A σ δ H σ' δ' H->ER K H T σ' δ'->Q σ' H
def PGX(X:Cx)(A:gG)(e:fV)(tg:Tg):Prop:=PG X e (tG X.K A tg)
noncomputable def gP(i:Nat):Tg:=fun d δ=>if i<δ.length then some (δ.set i (some (d,false))) else none
noncomputable def zF:List Tg->List D->Dn->Option Dn
 |[],[],δ=>some δ
 |t::ts,d::ds,δ=>(t d δ).bind (zF ts ds)
 |_,_,_=>none
noncomputable def zD(ts:List Tg):Tg
 | .tup ds,δ=>zF ts ds δ
 |_,_=>none
def tGs(K:fX)(A:gG)(ts:List Tg):TGs:=fun vs σ H Q=> ∃δ T ds δ',ER K H T σ δ/\RepL K H (fun a=>OwnA σ δ a\/T a) ds vs/\zF ts ds δ=some δ'/\ ∀σ',SK A σ δ H σ' δ' H->ER K H T σ' δ'->Q σ' H
section
variable {X:Cx}{A:gG}{pos:Pos}{e:fV}{es:gX}{t:Tg}{ts:List Tg}
theorem PG.imp'{t t':TG}(h:PG X e t)(k: ∀v σ H Q,t' v σ H Q->t v σ H Q):PG X e t':=fun pins s σ H v u Q I r hw=>h pins s σ H v u Q I r (k v σ H Q hw)
theorem PGs.imp'{t t':TGs}(h:PGs X es t)(k: ∀v σ H Q,t' v σ H Q->t v σ H Q):PGs X es t':=fun pins s σ H v u Q I r hw=>h pins s σ H v u Q I r (k v σ H Q hw)
theorem C6{i:Nat}{x:Str}(hN:X.N.Nodup)(hi:X.N[i]?=some x)(hx:Loc X.env.scope x)(hf:X.fn x=true\/X.env.scope.names.lookup x=some .local)(ha:A i):PGX X A (.Name x pos) (gP i):=PG.imp' (zY hN hi hx hf) fun v σ H Q hw=>by
 obtain⟨δ,T,d,δ',E,r,e,k⟩:=hw;obtain⟨hi,rfl⟩:=gy e;obtain⟨h1,h2⟩:=my (A:=A) (r:=(d,false)) (v:=v) E (Post.val .refl E r) hi ha;exact k _ h1 h2
theorem C7:PGs X [] (tGs X.K A []):=PGs.imp' EW fun v σ H Q hw=>by
 obtain⟨δ,T,ds,δ',E,r,e,k⟩:=hw
 cases ds with
 |nil=>
  cases e;rw[RepL] at r;exact⟨r,k σ .refl E⟩
 |cons _ _=>cases e
theorem sZ(h1:PGX X A e t)(h2:PGs X es (tGs X.K A ts))(hs:(assignEach (e::es) X.env).map (·.2)=assign e X.env::(assignEach es X.env).map (·.2)):PGs X (e::es) (tGs X.K A (t::ts)):=PGs.imp' (C8 h1 h2 hs) fun v σ H Q hw=>by
 obtain⟨δ,T,ds,δ',E,r,e,k⟩:=hw
 cases ds with
 |nil=>cases e
 |cons d ds=>
  rw[RepL] at r;obtain⟨v1,vr,rfl,r1,r2⟩:=r;obtain⟨δ1,h3,e⟩:=fL e;refine⟨v1,vr,rfl,δ,T,d,δ1,E,r1,h3,fun σ1 K1 E1=>⟨δ1,T,ds,δ',E1,?_,e,fun σ2 K2 E2=>k σ2 (K1.trans K2) E2⟩⟩;exact RepL.mono (fun _ _ e _=>e) (fun b hb z=>z.elim (fun z=>(K1.ow b z).elim Or.inl fun z=>absurd z hb) Or.inr) r2
theorem EV{k:Nat}(hc:X.calm=true)(h:PGs X es (tGs X.K A ts)){n:Nat}(hn:(assignEach es X.env).length=n)(hl:ts.length=n)(x8:(assignEach es X.env).findIdx? (·.1)=none):PGX X A (.Tuple es k pos) (zD ts):=PG.imp' (Hc hc h hn x8) fun v σ H Q hw=>by
 obtain⟨δ,T,d,δ',E,r,e,k⟩:=hw
 cases d with
 |tup ds=>
  obtain⟨a,xs,rfl,q,rr⟩:=r.tup;refine⟨a,xs,rfl,q.sq,?_,δ,T,ds,δ',E,rr,e,k⟩
  have: ∀(ts:List Tg) (ds:List D) (δ:Dn),zF ts ds δ=some δ'->ds.length=ts.length:=by
   intro ts
   induction ts with
   |nil=>intro ds δ h;cases ds with|nil=>rfl|cons _ _=>cases h
   |cons t ts ih=>
    intro ds δ h
    cases ds with
    |nil=>cases h
    |cons d ds=>obtain⟨δ1,_,h⟩:=fL h;simp[ih ds δ1 h]
  rw[rr.length,this ts ds δ e,hl]
 |_=>cases e
end
abbrev SB:=Nat->Prop
def OwB(B:SB)(T:AP')(σ:L2.St)(δ:Dn):AP':=fun a=>(∃i,¬B i/\OwnI σ δ i a)\/T a
theorem OwB.own(h:OwB B T σ δ a):OwnA σ δ a\/T a:=h.imp (fun⟨i,_,d,h1,h2⟩=>⟨i,d,h1,h2⟩) id
structure ItOk(K:fX)(J:It)(ds:List D)(P O:AP')(H1:Hp):Prop where
 go: ∀(i:Nat) d Hi,ds[i]?=some d->(∀a o,H1 a=some o-> ¬P a->Hi a=some o)->J.go i Hi/\ ∀x H',J.yld i Hi x H'->(∀a o,Hi a=some o->H' a=some o)/\
  ∀O':AP',(∀b,H1 b≠none->O' b->O b)->(∀b,Hi b=none-> ¬O' b)->Rep K H' O' d x
 stop: ∀(i:Nat) Hi,ds.length<=i->(∀a o,H1 a=some o-> ¬P a->Hi a=some o)->J.stop i Hi
abbrev FIt:=Dn->Option (List D×Dn)
def tI(K:fX)(B:SB)(fi:FIt):TI:=fun σ H R=> ∃δ T ds δ',ER K H T σ δ/\fi δ=some (ds,δ')/\ ∀J H',Keep σ δ H δ' H'->ER K H' T σ δ'->ItOk K J ds (OwB B T σ δ') (fun a=>OwnA σ δ' a\/T a) H'->R J H'
def PIX(X:Cx)(B:SB)(tg iter:fV)(fi:FIt):Prop:=PI X tg iter (tI X.K B fi)
noncomputable def qT:D->Option (List D)
 | .tup l=>some l
 | .lst l=>some l
 |_=>none
noncomputable def rC(f:FO):FIt:=fun δ=>(f δ).bind fun p=>(res p.2 p.1).bind fun d=>(qT d).bind fun l=>some (l,p.2)
noncomputable def jW(f:F):FIt:=fun δ=>(f δ).bind fun p=>match p.1.1 with
 | .lst l=>some (l,p.2)
 | .tup l=>some (l,p.2)
 |_=>none
noncomputable def ji(lo:Int)(n:Nat):List D:=(List.range n).map fun(k:Nat)=> .int (lo+k)
noncomputable def A9(f:FO):FIt:=fun δ=>(gY [f] δ).bind fun p=>match nI p.2 p.1 with
 |some [.int j]=>if -(2^62)<=j/\j<2^62 then some (ji 0 j.toNat,p.2) else none
 |_=>none
def SlB(B:SB)(f:FO):Prop:= ∀δ i δ',f δ=some (.slot i,δ')->B i
theorem Ej:SlB B (fS f):=fun δ i δ' h=>by
 obtain⟨p,_,h⟩:=fL h;cases h
theorem uH(h:B i):SlB B (fR i):=fun δ j δ' e=>by
 unfold fR at e;split at e<;>cases e
 exact h
noncomputable def isL:D->Bool
 | .lst _=>true
 |_=>false
def SqA(b:Bool)(K:fX)(H:Hp)(P:AP')(a:fM)(xs:List V):Prop:=if b=true then SqLO K H P a xs else SqTO K H P a xs
theorem SqA.mono{K H H'}{P P':AP'}(q:SqA b K H P a xs)(k: ∀b o,H b=some o-> ¬P b->H' b=some o)(hP: ∀b,P' b->P b):SqA b K H' P' a xs:=by
 cases b with
 |true=>exact SqLO.mono q k fun b _=>hP b
 |false=>exact SqTO.mono (K:=K) q k fun b _=>hP b
theorem SqA.l{K H}(q:SqA true K H P a xs):SqL K H a xs:=SqLO.sq q
theorem SqA.t{K H}(q:SqA false K H P a xs):SqT K H a xs:=SqTO.sq (K:=K) q
theorem sW{K H}(h:qT d=some l)(r:Rep K H O d v): ∃a xs,v= .ref a/\SqA (isL d) K H O a xs/\RepL K H O l xs:=by
 cases d with
 |tup m=>cases h;obtain⟨a,xs,rfl,q,rr⟩:=r.tup;exact⟨a,xs,rfl,q,rr⟩
 |lst m=>cases h;obtain⟨a,xs,rfl,q,rr⟩:=r.lst;exact⟨a,xs,rfl,q,rr⟩
 |_=>cases h
theorem Ops.seq{K:fX}{T T':AP'}{σ:L2.St}{δ δ':Dn}{H H':Hp}{os:List Opd}{vs:List V}(E:ER K H T σ δ)(W:Ops K T σ δ H os vs δ' H' T'){j:Nat}(h1:os[j]?=some o)(h2:vs[j]?=some v)(hr:res δ' o=some d)(hs:qT d=some l)(hB: ∀i,o= .slot i->B i):
  ∃a xs,v= .ref a/\SqA (isL d) K H' (OwB B T σ δ') a xs/\RepL K H' (fun a=>OwnA σ δ' a\/T a) l xs:=by
 have fin:Rep K H' (fun a=>OwnA σ δ' a\/T a) d v-> ∃a xs,v= .ref a/\SqA (isL d) K H' (OwB B T σ δ') a xs/\RepL K H' (fun a=>OwnA σ δ' a\/T a) l xs:=fun r=>by
  obtain⟨a,xs,rfl,q,rr⟩:=sW hs r;exact⟨a,xs,rfl,q.mono (fun _ _ e _=>e) fun a z=>z.own,rr⟩
 cases o with
 |val r=>cases hr;exact fin (W.rep E h1 h2)
 |slot i=>
  have hk:=W.slt j i _ h1 h2
  have hd: ∃f,δ'[i]?=some (some (d,f)):=by
   unfold res at hr;dsimp only at hr;split at hr<;>cases hr
   exact⟨_,by assumption⟩
  obtain⟨f,hd⟩:=hd
  cases f with
  |false=>
   obtain⟨w,e1,e2⟩:=W.er.val i _ hd;rw[hk] at e1;cases e1;exact fin (Rep.mono (fun _ _ e _=>e) (fun b _ z=>z.imp id (W.tt b)) e2)
  |true=>
   obtain⟨a,e1,ok⟩:=W.er.own i _ hd;rw[hk] at e1;cases e1
   cases d with
   |lst m=>
    cases hs;obtain⟨xs,e,rr⟩:=ok;exact⟨a,xs,rfl,.inl ⟨.inl e,fun z=>z.elim (fun⟨k,nb,d',g1,g2⟩=>nb (W.er.inj i k _ _ a hd g1 hk g2▸hB i rfl)) fun z=>W.er.nT a ⟨i,_,hd,hk⟩ (W.tt a z)⟩,RepL.mono (fun _ _ e _=>e) (fun b _ z=>z.imp id (W.tt b)) rr⟩
   |tup m=>exact ok.elim
   |_=>cases hs
section
variable {X:Cx}{B:SB}{tg e:fV}{f:F}{fo:FO}{pos p:Pos}
theorem PI.imp'(h:PI X tg e t)(k: ∀σ H R,t' σ H R->t σ H R):PI X tg e t':=fun pins s σ H R I hw=>h pins s σ H R I (k σ H R hw)
theorem PI.or(h:PI X tg e t)(h':PI X tg e t'):PI X tg e (fun σ H R=>t σ H R\/t' σ H R):=fun pins s σ H R I hw=>hw.elim (h pins s σ H R I) (h' pins s σ H R I)
noncomputable def ItS(b:Bool)(K:fX)(a:fM):It:=if b=true then Itl K a else Itt K a
theorem Dy{K:fX}{P O:AP'}{H1:Hp}{a:fM}{xs:List V}{l:List D}(q:SqA b K H1 P a xs)(r:RepL K H1 O l xs)(hP: ∀a,P a->O a):ItOk K (ItS b K a) l P O H1:=by
 cases b<;>(
  refine⟨fun i d Hi hd hp=>?_,fun i Hi hi hp=>?_⟩
  ·have q2:=SqA.mono q hp fun _ z=>z
   first|replace q2:=q2.l|replace q2:=q2.t
   obtain⟨x,hx,rx⟩:=r.get hd;refine⟨⟨xs,x,q2,hx⟩,fun y H' hy=>?_⟩;obtain⟨rfl,hy⟩:=hy;have:=hy xs q2;rw[hx] at this;cases this;exact⟨fun _ _ e=>e,fun O' h1 h2=>Rep.mono (fun b o e n=>hp b o e fun z=>n (hP b z)) h1 rx⟩
  ·exact⟨xs,by first|exact(SqA.mono q hp fun _ z=>z).l|exact(SqA.mono q hp fun _ z=>z).t,by rw[r.length];exact hi⟩)
theorem rE{K:fX}{P O:AP'}{H1:Hp}(lo:Int)(n:Nat):ItOk K (Itr lo n) (ji lo n) P O H1:=by
 refine⟨fun i d Hi hd hp=>?_,fun i Hi hi hp=>?_⟩
 ·unfold ji at hd;rw[iN] at hd;obtain⟨k,h1,h2⟩:=gD hd;have hi:i<n:=by have:=(pR.mp h1).1;simpa using this
  have hk:k=i:=by rw[List.getElem?_range hi] at h1;exact(iG h1).symm
  subst hk;refine⟨hi,fun y H' hy=>?_⟩;obtain⟨rfl,rfl⟩:=hy;refine⟨fun _ _ e=>e,fun O' _ _=>?_⟩;rw[<-h2];exact Rep.mkInt
 ·unfold ji at hi;have:n<=i:=by simpa using hi
  exact this
theorem wx(h:PO X e fo)(hB:SlB B fo):PIX X B tg e (rC fo):=PI.imp' (PI.or (EU (tg:=tg) h) (Hb h)) fun σ H R hw=>by
 obtain⟨δ,T,ds,δ',E,e,k⟩:=hw;obtain⟨⟨o,δ1⟩,h1,e⟩:=fL e;obtain⟨d,h2,e⟩:=fL e;obtain⟨l,h3,e⟩:=fL e;obtain⟨rfl,rfl⟩:=fY e
 have key: ∀v H1,PostO X.K T σ δ H o δ1 v H1-> ∃a xs,v= .ref a/\SqA (isL d) X.K H1 (OwB B T σ δ1) a xs/\R (ItS (isL d) X.K a) H1:=fun v H1 P=>by
  have W:=Ops.cons E P (Ops.nil (P.er E));obtain⟨a,xs,rfl,q,rr⟩:=W.seq E (j:=0) rfl rfl h2 h3 fun i hi=>hB _ _ _ (hi▸h1);exact⟨a,xs,rfl,q,k _ H1 W.keep (W.er.mono (fun _ _ e _=>e) (fun b _ z=>W.tt b z) (fun a z=>W.er.dom a (W.tt a z))) (Dy q rr fun a z=>z.own)⟩
 cases d with
 |lst m=>exact .inl ⟨δ,T,_,_,E,h1,fun v H1 P=>let⟨a,xs,e,q,r⟩:=key v H1 P;⟨a,e,⟨xs,q.l⟩,r⟩⟩
 |tup m=>exact .inr ⟨δ,T,_,_,E,h1,fun v H1 P=>let⟨a,xs,e,q,r⟩:=key v H1 P;⟨a,e,⟨xs,q.t⟩,r⟩⟩
 |_=>cases h3
theorem EO(h:PX X e f):PIX X B tg e (jW f):=PI.imp' (wx (B:=B) (PX.po h) Ej) fun σ H R hw=>by
 have:jW f=rC (fS f):=funext fun δ=>by
  unfold jW rC fS
  cases f δ with
  |none=>rfl
  |some p=>obtain⟨⟨d,o⟩,δ1⟩:=p;cases d<;>rfl
 rwa [this] at hw
end
noncomputable def vo(tg:Tg)(fb:FS):List D->FS
 |[],δ=>some (.nx δ)
 |d::ds,δ=>(tg d δ).bind fun δ1=>(fb δ1).bind fun o=>match o with
  | .nx δ2=>vo tg fb ds δ2
  | .ct δ2=>vo tg fb ds δ2
  | .bk δ2=>some (.nx δ2)
  | .rt r δ2=>some (.rt r δ2)
noncomputable def uN(fi:FIt)(tg:Tg)(fb:FS):FS:=fun δ=>(fi δ).bind fun p=>vo tg fb p.1 p.2
section
variable {X:Cx}{A L:gG}{H0:Hp}{tg iter:fV}{body:List Stmt}{fi:FIt}{t:Tg}{fb:FS}{pos:Pos}
theorem EL(hp:PassesOwn (model X.prog X.w) X.A X.env X.xe)(hc:X.calm=true)(hi:PIX X (fun _=>False) tg iter fi)(hg:PGX X A tg t)(hb:vH X A L H0 body fb)(hs: ∀x,foldedSetIterable iter X.env x=pure x):
  PSX X A L H0 (.For tg iter body [] pos) (uN fi t fb):=PS.imp' (G7 hp hc hi hg hb hs) fun D σ H hw=>by
 obtain⟨δ,T,out,E,fi0,e,k⟩:=hw;obtain⟨⟨ds,δ1⟩,h1,e⟩:=fL e;refine⟨δ,T,ds,δ1,E,h1,fun J H1 K1 E1 ok=>?_⟩;have S1:SK A σ δ H σ δ1 H1:=K1.sk;refine⟨fun i m σ' H'=>m=ds.length-i/\i<=ds.length/\ ∃δ',SK A σ δ1 H1 σ' δ' H'/\ER X.K H' T σ' δ'/\vo t fb (ds.drop i) δ'=some out,⟨ds.length,by simp,qk _,δ1,.refl,E1,by simpa using e⟩,?_⟩;rintro i m σ2 H2 ⟨rfl,hle,δ2,S2,E2,e2⟩;have aL: ∀a o,H1 a=some o-> ¬OwB (fun _=>False) T σ δ1 a->H2 a=some o:=fun a o ea n=>S2.kp a o ea fun⟨i,d,z⟩=>n (.inl ⟨i,id,d,z⟩);by_cases y6:i<ds.length
 ·refine .inr ?_;have hd:ds[i]?=some ds[i]:=gW y6;obtain⟨go,yl⟩:=ok.go i _ H2 hd aL;rw[qj y6] at e2;obtain⟨δ3,h3,e3⟩:=fL e2;obtain⟨o,h4,e4⟩:=fL e3;refine⟨go,fun σ' H'=> ∃δ',SK A σ δ1 H1 σ' δ' H'/\ER X.K H' T σ' δ'/\vo t fb (ds.drop (i+1)) δ'=some out,fun σ' H' ⟨δ',q1,q2,q3⟩=>⟨ds.length-(i+1),by omega,rfl,y6,δ',q1,q2,q3⟩,fun x H' hy=>?_⟩;obtain⟨ext,rep⟩:=yl x H' hy;have eg:ER X.K H' T σ2 δ2:=E2.mono (fun b ob eb _=>ext b ob eb) (fun _ _ z=>z) (fun a z=>(E2.dom a z).up (ext a));have fJ:SK A σ δ1 H1 σ2 δ2 H':=S2.trans (Keep.ext ext).sk;have rx:=rep (fun a=>OwnA σ2 δ2 a\/T a) (fun b hb z=>z.elim (fun z=>(S2.ow b z).elim Or.inl fun z=>absurd z hb) Or.inr) (fun b hb z=>z.elim (fun z=>E2.ownDom z hb) fun z=>(E2.dom b z).ne hb);refine⟨δ2,T,ds[i],δ3,eg,rx,h3,fun σ3 S3 E3=>?_⟩;have cM:=fJ.trans S3;refine⟨δ3,T,o,E3,(fi0.step S1).step cM,h4,?_⟩
  cases o with
  |nx δ4=>exact fun σ4 H4 S4 E4=>⟨δ4,cM.trans S4,E4,e4⟩
  |ct δ4=>exact fun σ4 H4 S4 E4=>⟨δ4,cM.trans S4,E4,e4⟩
  |bk δ4=>cases e4;exact fun σ4 H4 S4 E4=>k σ4 H4 (S1.trans (cM.trans S4)) E4
  |rt r δ4=>cases e4;exact fun v σ4 H4 S4 R4=>k v σ4 H4 (S1.trans (cM.trans S4)) R4
 ·refine .inl ⟨ok.stop i H2 (by omega) aL,?_⟩;rw[qz (by omega)] at e2;cases e2;exact k σ2 H2 (S1.trans S2) E2
end
noncomputable def HG(f g:FO):FIt:=fun δ=>(gY [f,g] δ).bind fun p=>match nI p.2 p.1 with
 |some [.int i,.int j]=>if -(2^62)<=i/\i<2^62/\ -(2^62)<=j/\j<2^62 then some (ji i (j-i).toNat,p.2) else none
 |_=>none
section
variable {X:Cx}{A L:gG}{H0:Hp}{B:SB}{tg e c a b:fV}{body:List Stmt}{ft:FT}{fb:FS}{fa fo:FO}{pos p:Pos}
theorem mP{K:fX}{T T':AP'}{σ:L2.St}{δ δ':Dn}{H H':Hp}{os:List Opd}{vs:List V}{ds:List D}(B:Ops K T σ δ H os vs δ' H' T')(h:nI δ' os=some ds){j:Nat}{i:Int}(hd:ds[j]?=some (.int i)):vs[j]?=some (.int i):=by
 obtain⟨h1,h2⟩:=jU h;obtain⟨o,h3,h4⟩:=h2 j _ hd;have hj:j<vs.length:=by have:=(pR.mp h3).1;have:=B.len;omega
 have hv:vs[j]?=some vs[j]:=gW hj;have:=gg (B.view h3 hv h4);rw[hv,this]
theorem yJ(hg:Gl X "range")(hm:X.mg "range"=none)(ha:PA X [a] (tA X.K [fa]))(hs:starEach [a] X.env=[(false,eval a X.env)]):PIX X B tg (.Call (.Name "range" p) [a] [] pos) (A9 fa):=PI.imp' (A1 hg hm ha hs) fun σ H R hw=>by
 obtain⟨δ,T,ds,δ',E,e,k⟩:=hw;obtain⟨⟨os,δ1⟩,h1,e⟩:=fL e;refine⟨δ,T,os,δ1,E,h1,fun vs H1 T1 B=>?_⟩;dsimp only at e;split at e
 ·rename_i j hj;obtain⟨⟨c1,c2⟩,e⟩:=gy e;obtain⟨rfl,rfl⟩:=nU e;have hv:=mP B hj (j:=0) rfl;obtain⟨hl,_⟩:=jU hj
  have:vs=[.int j]:=by
   have hlen:=B.len
   cases vs with
   |nil=>simp at hv
   |cons v r=>
    cases r with
    |nil=>simp at hv;rw[hv]
    |cons _ _=>simp at hl hlen;omega
  exact⟨j,this,c1,c2,k _ H1 B.keep (B.er.mono (fun _ _ e _=>e) (fun b _ z=>B.tt b z) (fun a z=>B.er.dom a (B.tt a z))) (rE 0 j.toNat)⟩
 ·cases e
theorem yI(hg:Gl X "range")(hm:X.mg "range"=none)(ha:PA X [a,b] (tA X.K [fa,fo]))(hs:starEach [a,b] X.env=[(false,eval a X.env),(false,eval b X.env)])(n9:starEach [b] X.env=[(false,eval b X.env)]):PIX X B tg (.Call (.Name "range" p) [a,b] [] pos) (HG fa fo):=PI.imp' (A0 hg hm ha hs n9) fun σ H R hw=>by
 obtain⟨δ,T,ds,δ',E,e,k⟩:=hw;obtain⟨⟨os,δ1⟩,h1,e⟩:=fL e;refine⟨δ,T,os,δ1,E,h1,fun vs H1 T1 B=>?_⟩;dsimp only at e;split at e
 ·rename_i i j hj;obtain⟨c1,e⟩:=gy e;obtain⟨rfl,rfl⟩:=nU e;have hv:=mP B hj (j:=0) rfl;have dJ:=mP B hj (j:=1) rfl;obtain⟨hl,_⟩:=jU hj
  have:vs=[.int i,.int j]:=by
   have hlen:=B.len
   match vs,hv,dJ with
   |[x,y],hv,dJ=>simp at hv dJ;rw[hv,dJ]
   |x::y::z::r,_,_=>simp at hl hlen;omega
  exact⟨i,j,this,c1,k _ H1 B.keep (B.er.mono (fun _ _ e _=>e) (fun b _ z=>B.tt b z) (fun a z=>B.er.dom a (B.tt a z))) (rE i (j-i).toNat)⟩
 ·cases e
end
abbrev EvF:=List (D×Bool)->Option ((D×Bool)×Dn)
def spF(K:fX)(ev:EvF):Sp:=fun vs H Q _=> ∃T args r outs,ER K H T (vs.map some) (args.map some)/\ev args=some (r,outs)/\ ∀v H',Post K T (vs.map some) (args.map some) H r outs v H'->Q v H'
noncomputable def gU(args:List (D×Bool))(δ:Dn):Dn:=args.zipIdx.map fun p=>if p.1.2=true then(δ[p.2]?).join else some p.1
noncomputable def evF(n np:Nat)(asg:gx)(f:FS):EvF:=fun args=>
 if args.length=np/\np<=n/\(args.zipIdx.all fun p=>!(p.1.2&&asg.contains p.2))=true then
  match f (args.map some++List.replicate (n-np) none) with
  |some (.rt r δ)=>some (r,gU args δ)
  |some (.nx δ)=>some ((.non,false),gU args δ)
  |_=>none
 else none
theorem Di(args:List (D×Bool))(δ:Dn)(i:Nat):(gU args δ)[i]?=args[i]?.map fun x=>if x.2=true then(δ[i]?).join else some x:=by
 unfold gU;rw[iN,xR]
 cases args[i]? with
 |none=>rfl
 |some x=>simp
theorem lA(h:x.join=some p):x=some (some p):=by
 cases x with
 |none=>cases h
 |some y=>exact lS some h
section
variable {K:fX}{T:AP'}{A:gG}{vs:List V}{args:List (D×Bool)}{H H':Hp}{m:Nat}{σ':L2.St}{δ':Dn}{r:D×Bool}{v:V}
theorem vJ{α:Type}{xs:List α}{m i:Nat}{y:α}:(xs.map some++List.replicate m none)[i]?=some (some y)↔xs[i]?=some y:=by
 by_cases h:i<xs.length
 ·rw[yg (by simpa using h),iN];cases xs[i]?<;>simp
 ·rw[yh (by simpa using h)];constructor
  ·intro e;rw[nY] at e;split at e<;>cases e
  ·intro e;exact absurd (pR.mp e).1 h
theorem mZ{α:Type}{xs:List α}{i:Nat}{y:α}:(xs.map some)[i]?=some (some y)↔xs[i]?=some y:=by
 rw[iN];cases xs[i]?<;>simp
theorem Bm{i:Nat}{a:fM}:OwnI (vs.map some++List.replicate m none) (args.map some++List.replicate m none) i a↔OwnI (vs.map some) (args.map some) i a:=by
 unfold OwnI;simp only[vJ,mZ]
theorem wy:OwnA σ δ a↔ ∃i,OwnI σ δ i a:=Iff.rfl
theorem Dh:OwnA (vs.map some++List.replicate m none) (args.map some++List.replicate m none) a↔OwnA (vs.map some) (args.map some) a:=by
 rw[wy,wy];exact exists_congr fun i=>Bm
theorem ER.pad(E:ER K H T (vs.map some) (args.map some)):ER K H T (vs.map some++List.replicate m none) (args.map some++List.replicate m none):=by
 have len:vs.length=args.length:=by simpa using E.len
 refine⟨by simp[len],fun i d h=>?_,fun i d h=>?_,fun i j d e a h1 h2 h3 h4=>?_,fun a z=>E.nT a (Dh.mp z),E.dom⟩
 ·obtain⟨w,w1,w2⟩:=E.val i d (mZ.mpr (vJ.mp h));exact⟨w,vJ.mpr (mZ.mp w1),Rep.mono (fun _ _ e _=>e) (fun b _ z=>z.imp Dh.mp id) w2⟩
 ·obtain⟨w,w1,w2⟩:=E.own i d (mZ.mpr (vJ.mp h));exact⟨w,vJ.mpr (mZ.mp w1),w2.mono (fun _ _ e _=>e) (fun b _ z=>z.imp Dh.mp id) fun _ e=>e⟩
 ·exact E.inj i j d e a (mZ.mpr (vJ.mp h1)) (mZ.mpr (vJ.mp h2)) (mZ.mpr (vJ.mp h3)) (mZ.mpr (vJ.mp h4))
theorem Ab{T':AP'}(E:ER K H T (vs.map some) (args.map some))(S:SK A (vs.map some++List.replicate m none) (args.map some++List.replicate m none) H σ' δ' H')(hA: ∀(i:Nat) d,args[i]?=some (d,true)-> ¬A i)
  (E':ER K H' T' σ' δ')(hT: ∀b,H b≠none->T' b->T b):ER K H' T' (vs.map some) (gU args δ')/\(∀b,OwnA (vs.map some) (gU args δ') b->OwnA σ' δ' b)/\Keep (vs.map some) (args.map some) H (gU args δ') H':=by
 have len:vs.length=args.length:=by simpa using E.len
 have here: ∀(i:Nat) d w,args[i]?=some (d,true)->vs[i]?=some w->σ'[i]?=some (some w):=fun i d w h1 h2=>by
  rw[S.as i (hA i d h1)];exact vJ.mpr h2
 have outI: ∀(i:Nat) d b,(gU args δ')[i]?=some (some (d,b))->(∃e,args[i]?=some (e,true)/\δ'[i]?=some (some (d,b)))\/(b=false/\args[i]?=some (d,false)):=fun i d b h=>by
  rw[Di] at h;obtain⟨⟨e,c⟩,h1,h2⟩:=gD h
  cases c with
  |true=>
   left;exact⟨e,h1,lA (by simpa using h2)⟩
  |false=>
   right;have:some (e,false)=some (d,b):=by simpa using h2
   cases this;exact⟨rfl,h1⟩
 have aM: ∀i a,OwnI (vs.map some) (gU args δ') i a->OwnI σ' δ' i a/\OwnI (vs.map some) (args.map some) i a:=fun i a ⟨d,h1,h2⟩=>by
  rcases outI i d true h1 with⟨e,h3,h4⟩|⟨z,_⟩
  ·exact⟨⟨d,h4,here i e _ h3 (mZ.mp h2)⟩,⟨e,mZ.mpr h3,h2⟩⟩
  ·cases z
 have bg: ∀b,OwnA (vs.map some) (gU args δ') b->OwnA σ' δ' b:=fun b ⟨i,d,h1,h2⟩=>by
  obtain⟨⟨e,q1,q2⟩,_⟩:=aM i b ⟨d,h1,h2⟩;exact⟨i,e,q1,q2⟩
 have owA2: ∀b,OwnA (vs.map some) (gU args δ') b->OwnA (vs.map some) (args.map some) b:=fun b ⟨i,d,h1,h2⟩=>by
  obtain⟨_,⟨e,q1,q2⟩⟩:=aM i b ⟨d,h1,h2⟩;exact⟨i,e,q1,q2⟩
 have kp: ∀a o,H a=some o-> ¬OwnA (vs.map some) (args.map some) a->H' a=some o:=fun a o e n=>S.kp a o e fun z=>n (Dh.mp z);refine⟨⟨?_,fun i d h=>?_,fun i d h=>?_,fun i j d e a h1 h2 h3 h4=>?_,fun a z=>E'.nT a (bg a z),E'.dom⟩,bg,⟨kp,fun i a z=>(aM i a z).2,S.dm⟩⟩
 ·simp[gU,len]
 ·have hi:i<vs.length:=by
   have:=(pR.mp h).1;simp[gU] at this;omega
  have hv:vs[i]?=some vs[i]:=gW hi;rcases outI i d false h with⟨e,h3,h4⟩|⟨_,h3⟩
  ·obtain⟨w,w1,w2⟩:=E'.val i d h4;rw[here i e _ h3 hv] at w1;cases w1;exact⟨_,mZ.mpr hv,Rep.mono (fun _ _ e _=>e) (fun b _ z=>z.imp (bg b) id) w2⟩
  ·obtain⟨w,w1,w2⟩:=E.val i d (mZ.mpr h3);exact⟨w,w1,Rep.mono (fun b o e n=>kp b o e fun z=>n (.inl z)) (fun b hb z=>z.imp (owA2 b) (hT b hb)) w2⟩
 ·have hi:i<vs.length:=by
   have:=(pR.mp h).1;simp[gU] at this;omega
  have hv:vs[i]?=some vs[i]:=gW hi;rcases outI i d true h with⟨e,h3,h4⟩|⟨z,_⟩
  ·obtain⟨w,w1,w2⟩:=E'.own i d h4;rw[here i e _ h3 hv] at w1;have w1':vs[i]=V.ref w:=by simpa using w1
   exact⟨w,by rw[<-w1'];exact mZ.mpr hv,w2.mono (fun _ _ e _=>e) (fun b _ z=>z.imp (bg b) id) fun _ e=>e⟩
  ·cases z
 ·obtain⟨_,⟨d1,q1,q2⟩⟩:=aM i a ⟨d,h1,h3⟩;obtain⟨_,⟨d2,q3,q4⟩⟩:=aM j a ⟨e,h2,h4⟩;exact E.inj i j d1 d2 a q1 q3 q2 q4
theorem pd(E:ER K H T (vs.map some) (args.map some))(S:SK A (vs.map some++List.replicate m none) (args.map some++List.replicate m none) H σ' δ' H')(hA: ∀(i:Nat) d,args[i]?=some (d,true)-> ¬A i)
  (R:RV K T H r σ' δ' v H'):Post K T (vs.map some) (args.map some) H r (gU args δ') v H':=by
 obtain⟨d,b⟩:=r
 cases b with
 |false=>
  obtain⟨E',rv⟩:=R;obtain⟨E2,ow,kp⟩:=Ab E S hA E' (fun _ _ z=>z);exact⟨kp,E2,Rep.mono (fun _ _ e _=>e) (fun b _ z=>z.imp (ow b) id) rv⟩
 |true=>
  obtain⟨p,rfl,hp,E',ok⟩:=R;obtain⟨E2,ow,kp⟩:=Ab E S hA E' (fun b hb z=>z.elim id fun z=>by subst z;exact absurd hp hb);exact⟨kp,p,rfl,hp,E2,ok.mono (fun _ _ e _=>e) (fun b _ z=>z.imp (ow b) id) fun _ e=>e⟩
end
section
variable {P:gi}{w:gd}{K:fX}{mg:iF}{base:fZ}{N:gf}{m:Nat}{asg:gx}{fs:FS}{vs:List V}{H:Hp}{Q:VK}{E:XK}
theorem zK(h:spF K (evF N.length m asg fs) vs H Q E):vs.length=m:=by
 obtain⟨T,args,r,outs,E0,e,_⟩:=h;unfold evF at e;split at e
 ·rename_i hc;have:=E0.len;simp at this;rw[this];exact hc.1
 ·cases e
theorem Cu(h:spF K (evF N.length m asg fs) vs H Q E): ∃L:Nat->Prop,(∀i,L i->i<m)/\tS K (fun i=>i∈asg) L H fs {nx:=fun _ H'=>Q .non H',rt:=Q} (L2.kX N vs) H:=by
 obtain⟨T,args,r,outs,E0,e,kq⟩:=h;unfold evF at e;split at e
 ·rename_i hc;obtain⟨h1,h2,h3⟩:=hc;have hlen:vs.length=args.length:=by simpa using E0.len
  refine⟨fun i=> ∃d,args[i]?=some (d,true),fun i ⟨d,hd⟩=>by have:=(pR.mp hd).1;omega,?_⟩;have x8:L2.kX N vs=vs.map some++List.replicate (N.length-m) none:=by unfold L2.kX;rw[hlen,h1]
  have hA: ∀(i:Nat) d,args[i]?=some (d,true)-> ¬(i∈asg):=fun i d hd hm=>by
   have hz:(args.zipIdx)[i]?=some ((d,true),i):=by rw[xR,hd];simp
   have:=vI.mp h3 _ (qo hz);simp at this;exact this hm
  rw[x8]
  have fi:FI (fun i=> ∃d,args[i]?=some (d,true)) H (vs.map some++List.replicate (N.length-m) none) (args.map some++List.replicate (N.length-m) none) H:=⟨fun i a z=>by
   obtain⟨d,q1,_⟩:=Bm.mp z;exact .inl ⟨d,mZ.mp q1⟩,fun _ z=>z⟩
  cases hf:fs (args.map some++List.replicate (N.length-m) none) with
  |none=>rw[hf] at e;cases e
  |some out=>
   rw[hf] at e;refine⟨_,T,out,E0.pad,fi,hf,?_⟩
   cases out with
   |rt r1 δ1=>
    obtain⟨rfl,rfl⟩:=fY e;exact fun v σ' H' S1 R1=>kq v H' (pd E0 S1 hA R1)
   |nx δ1=>
    obtain⟨rfl,rfl⟩:=fY e;exact fun σ' H' S1 E1=>kq .non H' (pd (r:=(.non,false)) E0 S1 hA ⟨E1,Rep.mkNon⟩)
   |bk δ1=>cases e
   |ct δ1=>cases e
 ·cases e
theorem HK{x qual:Str}{st:Stmt}{f:fM}{fd:jq}{ps:gf}{k:Nat}(F:Fun K x qual st f fd)(S:FnScope N ps (fP st))
  (m5: ∀(e6:fW) (A:gc) (outer:List Env) (s:fQ) (H:Hp) (E:XK) (L:gG),(∀i,L i->i<ps.length)->Room k (A.deeper (envOfC qual (fP st) s.heap.objs.size f e6))->
   vH (kG CX0 P w K mg base N qual (fP st) f e6 A outer s H E).nox (fun i=>i∈asg) L H (iI st) fs):FnOk P w K mg base CX0 (k+1) f fd ps (spF K (evF N.length ps.length asg fs)):=
 F.ok S (fun vs H Q E h=>zK h) fun e6 A outer s H vs Q E hr h=>let⟨L,h1,h2⟩:=Cu h;⟨_,m5 e6 A outer s H E L h1 hr,h2⟩
end
noncomputable def rS(δ:Dn):Opd->Option (D×Bool)
 | .val r=>some (r.1,false)
 | .slot i=>(δ[i]?).join
noncomputable def hZ(δ:Dn):List Opd->Option (List (D×Bool))
 |[]=>some []
 |o::os=>(rS δ o).bind fun a=>(hZ δ os).bind fun l=>some (a::l)
noncomputable def gn:List Opd->List (D×Bool)->List Nat
 | .slot i::os,(_,true)::as=>i::gn os as
 |_::os,_::as=>gn os as
 |_,_=>[]
noncomputable def wb:List Opd->List (D×Bool)->Dn->Dn->Dn
 | .slot i::os,(_,true)::as,o::outs,δ=>wb os as outs (δ.set i o)
 |_::os,_::as,_::outs,δ=>wb os as outs δ
 |_,_,_,δ=>δ
noncomputable def gp(ev:EvF)(fs:List FO):F:=fun δ=>(gY fs δ).bind fun p=>(hZ p.2 p.1).bind fun args=>if(gn p.1 args).Nodup then(ev args).bind fun q=>some (q.1,wb p.1 args q.2 p.2) else none
theorem jN{δ:Dn}: ∀{os:List Opd} {as:List (D×Bool)},hZ δ os=some as->as.length=os.length/\ ∀(j:Nat) a,as[j]?=some a-> ∃o,os[j]?=some o/\rS δ o=some a
 |[],as,h=>by cases h;exact⟨rfl,fun j d h=>by simp at h⟩
 |o::os,as,h=>by
  unfold hZ at h;obtain⟨d,h1,h⟩:=fL h;obtain⟨l,h2,h⟩:=fL h;cases h;obtain⟨h3,h4⟩:=jN h2;refine⟨by simp[h3],fun j e he=>?_⟩
  cases j with
  |zero=>simp at he;subst he;exact⟨o,rfl,h1⟩
  |succ j=>
   obtain⟨o',q1,q2⟩:=h4 j e (by simpa using he);exact⟨o',by simpa using q1,q2⟩
theorem mX: ∀{os:List Opd} {as:List (D×Bool)} {j i:Nat} {d:D},os[j]?=some (.slot i)->as[j]?=some (d,true)->i∈gn os as
 |[],_,_,_,_,h,_=>by simp at h
 |_::_,[],_,_,_,_,h=>by simp at h
 |o::os,(e,b)::as,0,i,d,h1,h2=>by
  simp at h1 h2;obtain⟨rfl,rfl⟩:=h2;subst h1;simp[gn]
 |o::os,(e,b)::as,j+1,i,d,h1,h2=>by
  have ih:=mX (os:=os) (as:=as) (j:=j) (i:=i) (d:=d) (by simpa using h1) (by simpa using h2)
  cases o with
  |val r=>simpa[gn] using ih
  |slot k=>
   cases b with
   |true=>simp[gn,ih]
   |false=>simpa[gn] using ih
theorem tm: ∀{os:List Opd} {as:List (D×Bool)} {i:Nat},i∈gn os as-> ∃(j:Nat) (d:D),os[j]?=some (.slot i)/\as[j]?=some (d,true)
 |[],_,_,h=>by simp[gn] at h
 |o::_,[],_,h=>by cases o<;>simp[gn] at h
 |o::os,(e,b)::as,i,h=>by
  have cc:i∈gn os as-> ∃(j:Nat) (d:D),(o::os)[j]?=some (.slot i)/\((e,b)::as)[j]?=some (d,true):=fun h=>by
   obtain⟨j,d,h1,h2⟩:=tm h;exact⟨j+1,d,by simpa using h1,by simpa using h2⟩
  cases o with
  |val r=>exact cc (by simpa[gn] using h)
  |slot k=>
   cases b with
   |true=>
    simp[gn] at h;rcases h with rfl|h
    ·exact⟨0,e,rfl,rfl⟩
    ·exact cc h
   |false=>exact cc (by simpa[gn] using h)
theorem tu: ∀{os:List Opd} {as:List (D×Bool)} {j k i:Nat} {d e:D},(gn os as).Nodup->os[j]?=some (.slot i)->as[j]?=some (d,true)->os[k]?=some (.slot i)->as[k]?=some (e,true)->j=k
 |[],_,_,_,_,_,_,_,h,_,_,_=>by simp at h
 |_::_,[],_,_,_,_,_,_,_,h,_,_=>by simp at h
 |o::os,(e0,b)::as,j,k,i,d,e,nd,h1,h2,h3,h4=>by
  cases j with
  |zero=>
   cases k with
   |zero=>rfl
   |succ k=>
    simp at h1 h2;obtain⟨rfl,rfl⟩:=h2;subst h1;have:=mX (os:=os) (as:=as) (j:=k) (by simpa using h3) (by simpa using h4);simp[gn] at nd;exact absurd this nd.1
  |succ j=>
   cases k with
   |zero=>
    simp at h3 h4;obtain⟨rfl,rfl⟩:=h4;subst h3;have:=mX (os:=os) (as:=as) (j:=j) (by simpa using h1) (by simpa using h2);simp[gn] at nd;exact absurd this nd.1
   |succ k=>
    have dc:(gn os as).Nodup:=by
     cases o with
     |val r=>simpa[gn] using nd
     |slot m=>
      cases b with
      |true=>simp[gn] at nd;exact nd.2
      |false=>simpa[gn] using nd
    have:=tu (os:=os) (as:=as) (j:=j) (k:=k) dc (by simpa using h1) (by simpa using h2) (by simpa using h3) (by simpa using h4);omega
theorem qM: ∀{os:List Opd} {as:List (D×Bool)} {outs δ:Dn} {i:Nat},i∉gn os as->(wb os as outs δ)[i]?=δ[i]?
 |[],_,_,_,_,_=>by simp[wb]
 |o::_,[],_,_,_,_=>by cases o<;>simp[wb]
 |o::os,(e,b)::as,[],_,_,_=>by cases o<;>cases b<;>simp[wb]
 |o::os,(e,b)::as,x::outs,δ,i,h=>by
  cases o with
  |val r=>simp only[wb];exact qM (by simpa[gn] using h)
  |slot k=>
   cases b with
   |true=>
    simp[gn] at h;rw[wb,qM h.2,kz (ll h.1)]
   |false=>simp only[wb];exact qM (by simpa[gn] using h)
theorem qN: ∀{os:List Opd} {as:List (D×Bool)} {outs δ:Dn},(wb os as outs δ).length=δ.length
 |[],_,_,_=>by simp[wb]
 |o::_,[],_,_=>by cases o<;>simp[wb]
 |o::os,(e,b)::as,[],_=>by cases o<;>cases b<;>simp[wb]
 |o::os,(e,b)::as,x::outs,δ=>by
  cases o with
  |val r=>simp only[wb];exact qN
  |slot k=>
   cases b with
   |true=>simp only[wb];rw[qN,nu]
   |false=>simp only[wb];exact qN
theorem zA: ∀{os:List Opd} {as:List (D×Bool)} {outs δ:Dn} {i j:Nat} {d:D} {x:Sl},(gn os as).Nodup->os[j]?=some (.slot i)->as[j]?=some (d,true)->outs[j]?=some x->i<δ.length->(wb os as outs δ)[i]?=some x
 |[],_,_,_,_,_,_,_,_,h,_,_,_=>by simp at h
 |o::_,[],_,_,_,_,_,_,_,_,h,_,_=>by simp at h
 |o::os,(e,b)::as,[],_,_,_,_,_,_,_,_,h,_=>by simp at h
 |o::os,(e,b)::as,y::outs,δ,i,0,d,x,nd,h1,h2,h3,hi=>by
  simp at h1 h2 h3;obtain⟨rfl,rfl⟩:=h2;subst h1;subst h3;simp[gn] at nd;rw[wb,qM nd.1,jJ hi]
 |o::os,(e,b)::as,y::outs,δ,i,j+1,d,x,nd,h1,h2,h3,hi=>by
  have dc:(gn os as).Nodup:=by
   cases o with
   |val r=>simpa[gn] using nd
   |slot m=>
    cases b with
    |true=>simp[gn] at nd;exact nd.2
    |false=>simpa[gn] using nd
  cases o with
  |val r=>simp only[wb];exact zA dc (by simpa using h1) (by simpa using h2) (by simpa using h3) hi
  |slot k=>
   cases b with
   |true=>simp only[wb];exact zA dc (by simpa using h1) (by simpa using h2) (by simpa using h3) (by rw[nu];exact hi)
   |false=>simp only[wb];exact zA dc (by simpa using h1) (by simpa using h2) (by simpa using h3) hi
section
variable {K:fX}{T T1:AP'}{σ:L2.St}{δ δ1:Dn}{H H1 H':Hp}{os:List Opd}{vs:List V}{args:List (D×Bool)}{outs:Dn}{r:D×Bool}{v:V}
noncomputable def Tc(T:AP')(σ:L2.St)(δ1:Dn)(vs:List V)(args:List (D×Bool)):AP':=fun a=>T a\/(OwnA σ δ1 a/\ ¬OwnA (vs.map some) (args.map some) a)
theorem oz(B:Ops K T σ δ H os vs δ1 H1 T1)(ha:hZ δ1 os=some args){j:Nat}{d:D}(h:args[j]?=some (d,true)): ∃(i:Nat) (a:fM),os[j]?=some (.slot i)/\δ1[i]?=some (some (d,true))/\vs[j]?=some (.ref a)/\σ[i]?=some (some (.ref a)):=by
 obtain⟨hl,hg⟩:=jN ha;obtain⟨o,h1,h2⟩:=hg j _ h
 cases o with
 |val r=>cases h2
 |slot i=>
  have h3:δ1[i]?=some (some (d,true)):=lA h2;have hj:j<vs.length:=by have:=(pR.mp h1).1;have:=B.len;omega
  have hv:vs[j]?=some vs[j]:=gW hj;have h4:=B.slt j i _ h1 hv;obtain⟨a,h5,_⟩:=B.er.own i d h3;rw[h4] at h5;have:vs[j]=V.ref a:=by simpa using h5
  exact⟨i,a,h1,h3,by rw[hv,this],by rw[h4,this]⟩
theorem wF(B:Ops K T σ δ H os vs δ1 H1 T1)(ha:hZ δ1 os=some args){j:Nat}{a:fM}(h:OwnI (vs.map some) (args.map some) j a): ∃(i:Nat) (d:D),os[j]?=some (.slot i)/\args[j]?=some (d,true)/\OwnI σ δ1 i a:=by
 obtain⟨d,h1,h2⟩:=h;have h1':=mZ.mp h1;obtain⟨i,b,q1,q2,q3,q4⟩:=oz B ha h1';have:=mZ.mp h2;rw[q3] at this;cases this;exact⟨i,d,q1,h1',d,q2,q4⟩
theorem Ai(B:Ops K T σ δ H os vs δ1 H1 T1)(ha:hZ δ1 os=some args)(h:OwnA (vs.map some) (args.map some) a):OwnA σ δ1 a:=by
 obtain⟨j,d,h1,h2⟩:=h;obtain⟨i,_,_,_,e,q1,q2⟩:=wF B ha ⟨d,h1,h2⟩;exact⟨i,e,q1,q2⟩
theorem oK(E:ER K H T σ δ)(B:Ops K T σ δ H os vs δ1 H1 T1)(ha:hZ δ1 os=some args)(nd:(gn os args).Nodup):ER K H1 (Tc T σ δ1 vs args) (vs.map some) (args.map some):=by
 obtain⟨hl,hg⟩:=jN ha
 have sub: ∀b,(OwnA (vs.map some) (args.map some) b\/Tc T σ δ1 vs args b)->OwnA σ δ1 b\/T b:=fun b z=>by
  rcases z with z|z|z
  ·exact .inl (Ai B ha z)
  ·exact .inr z
  ·exact .inl z.1
 refine⟨by simp[hl,B.len],fun j d h=>?_,fun j d h=>?_,fun j k d e a h1 h2 h3 h4=>?_,fun a z t=>?_,fun a z=>?_⟩
 ·have h:=mZ.mp h;obtain⟨o,h1,h2⟩:=hg j _ h;have hj:j<vs.length:=by have:=(pR.mp h1).1;have:=B.len;omega
  have hv:vs[j]?=some vs[j]:=gW hj;refine⟨_,mZ.mpr hv,?_⟩
  cases o with
  |val q=>
   have:q.1=d:=by cases h2;rfl
   subst this;exact Rep.mono (fun _ _ e _=>e) (fun b _ z=>sub b z) (B.rep E h1 hv)
  |slot i=>
   have h3:δ1[i]?=some (some (d,false)):=lA h2;have h4:=B.slt j i _ h1 hv;obtain⟨w,w1,w2⟩:=B.er.val i d h3;rw[h4] at w1;have:vs[j]=w:=by simpa using w1
   rw[this];exact Rep.mono (fun _ _ e _=>e) (fun b _ z=>(sub b z).imp id (B.tt b)) w2
 ·obtain⟨i,a,q1,q2,q3,q4⟩:=oz B ha (mZ.mp h);obtain⟨b,h5,h6⟩:=B.er.own i d q2;rw[q4] at h5;cases h5;exact⟨a,mZ.mpr q3,h6.mono (fun _ _ e _=>e) (fun b _ z=>(sub b z).imp id (B.tt b)) fun _ e=>e⟩
 ·obtain⟨i,d1,q1,q2,e1,q3,q4⟩:=wF B ha ⟨d,h1,h3⟩;obtain⟨i2,d2,g1,g2,e2,g3,g4⟩:=wF B ha ⟨e,h2,h4⟩;have:=B.er.inj i i2 e1 e2 a q3 g3 q4 g4;subst this;exact tu nd q1 q2 g1 g2
 ·rcases t with t|t
  ·exact B.er.nT a (Ai B ha z) (B.tt a t)
  ·exact t.2 z
 ·rcases z with z|z
  ·exact B.er.dom a (B.tt a z)
  ·exact B.er.ownOw z.1
theorem Au{T' Td:AP'}(E:ER K H T σ δ)(B:Ops K T σ δ H os vs δ1 H1 T1)(ha:hZ δ1 os=some args)(nd:(gn os args).Nodup)(kC:Keep (vs.map some) (args.map some) H1 outs H')
  (E':ER K H' Td (vs.map some) outs)(t1: ∀b,Tc T σ δ1 vs args b->Td b)(t2: ∀b,T' b->Td b)(t3: ∀b,H1 b≠none->T' b->T b):
  ER K H' T' σ (wb os args outs δ1)/\(∀b,OwnA σ (wb os args outs δ1) b->OwnA (vs.map some) outs b\/Tc T σ δ1 vs args b)/\Keep σ δ1 H1 (wb os args outs δ1) H':=by
 obtain⟨hl,hg⟩:=jN ha;have ol:outs.length=args.length:=by have:=E'.len;have:=B.len;simp at*;omega
 have aI: ∀(i:Nat) (x:Sl),(wb os args outs δ1)[i]?=some x->(i∉gn os args/\δ1[i]?=some x)\/ ∃(j:Nat) (d:D),os[j]?=some (.slot i)/\args[j]?=some (d,true)/\outs[j]?=some x:=fun i x h=>by
  by_cases hm:i∈gn os args
  ·right;obtain⟨j,d,h1,h2⟩:=tm hm;have hj:j<outs.length:=by have:=(pR.mp h2).1;omega
   have ho:outs[j]?=some outs[j]:=gW hj;have hi:i<δ1.length:=by have:=(pR.mp h).1;rwa [qN] at this
   have:=zA (δ:=δ1) nd h1 h2 ho hi;rw[h] at this;cases this;exact⟨j,d,h1,h2,ho⟩
  ·left;rw[qM hm] at h;exact⟨hm,h⟩
 have notL: ∀{i:Nat} {a:fM},i∉gn os args->OwnI σ δ1 i a-> ¬OwnA (vs.map some) (args.map some) a:=fun {i a} hm ⟨e,q1,q2⟩ ⟨j,d,h1,h2⟩=>by
  obtain⟨i2,d2,g1,g2,e2,g3,g4⟩:=wF B ha ⟨d,h1,h2⟩;have:=B.er.inj i i2 e e2 a q1 g3 q2 g4;subst this;exact hm (mX g1 g2)
 have aM: ∀i a,OwnI σ (wb os args outs δ1) i a->OwnI σ δ1 i a/\(OwnA (vs.map some) outs a\/Tc T σ δ1 vs args a):=fun i a ⟨d,h1,h2⟩=>by
  rcases aI i _ h1 with⟨hm,h3⟩|⟨j,e,g1,g2,g3⟩
  ·exact⟨⟨d,h3,h2⟩,.inr (.inr ⟨⟨i,d,h3,h2⟩,notL hm ⟨d,h3,h2⟩⟩)⟩
  ·obtain⟨i2,b,q1,q2,q3,q4⟩:=oz B ha g2;rw[g1] at q1;cases q1;rw[h2] at q4;cases q4;exact⟨⟨e,q2,h2⟩,.inl ⟨j,d,g3,mZ.mpr q3⟩⟩
 have bg: ∀b,OwnA σ (wb os args outs δ1) b->OwnA (vs.map some) outs b\/Tc T σ δ1 vs args b:=fun b ⟨i,d,h1,h2⟩=>(aM i b ⟨d,h1,h2⟩).2
 have dC: ∀b,OwnA σ (wb os args outs δ1) b->OwnA σ δ1 b:=fun b ⟨i,d,h1,h2⟩=>by
  obtain⟨⟨e,q1,q2⟩,_⟩:=aM i b ⟨d,h1,h2⟩;exact⟨i,e,q1,q2⟩
 have kp: ∀a o,H1 a=some o-> ¬OwnA σ δ1 a->H' a=some o:=fun a o e n=>kC.kp a o e fun z=>n (Ai B ha z)
 have subO: ∀b,(OwnA σ (wb os args outs δ1) b\/T' b)->OwnA (vs.map some) outs b\/Td b:=fun b z=>by
  rcases z with z|z
  ·exact(bg b z).imp id (t1 b)
  ·exact .inr (t2 b z)
 refine⟨⟨by rw[qN];exact B.er.len,fun i d h=>?_,fun i d h=>?_,fun i k d e a h1 h2 h3 h4=>?_,fun a z t=>?_,fun a z=>E'.dom a (t2 a z)⟩,bg,⟨kp,fun i a z=>(aM i a z).1,kC.dm⟩⟩
 ·rcases aI i _ h with⟨hm,h3⟩|⟨j,e,g1,g2,g3⟩
  ·obtain⟨w,w1,w2⟩:=B.er.val i d h3;exact⟨w,w1,Rep.mono (fun b o e n=>kp b o e fun z=>n (.inl z)) (fun b hb z=>z.imp (dC b) fun z=>B.tt b (t3 b hb z)) w2⟩
  ·obtain⟨i2,b,q1,q2,q3,q4⟩:=oz B ha g2;rw[g1] at q1;cases q1;obtain⟨w,w1,w2⟩:=E'.val j d g3;have:=mZ.mp w1;rw[q3] at this;cases this;exact⟨_,q4,Rep.mono (fun _ _ e _=>e) (fun b _ z=>subO b z) w2⟩
 ·rcases aI i _ h with⟨hm,h3⟩|⟨j,e,g1,g2,g3⟩
  ·obtain⟨a,w1,w2⟩:=B.er.own i d h3;exact⟨a,w1,w2.mono (fun b o e n=>kp b o e fun z=>n (.inl z)) (fun b hb z=>z.imp (dC b) fun z=>B.tt b (t3 b hb z)) fun o e=>kC.kp a o e (notL hm ⟨d,h3,w1⟩)⟩
  ·obtain⟨i2,b,q1,q2,q3,q4⟩:=oz B ha g2;rw[g1] at q1;cases q1;obtain⟨a,w1,w2⟩:=E'.own j d g3;have:=mZ.mp w1;rw[q3] at this;cases this;exact⟨_,q4,w2.mono (fun _ _ e _=>e) (fun b _ z=>subO b z) fun _ e=>e⟩
 ·obtain⟨⟨e1,q1,q2⟩,_⟩:=aM i a ⟨d,h1,h3⟩;obtain⟨⟨e2,q3,q4⟩,_⟩:=aM k a ⟨e,h2,h4⟩;exact B.er.inj i k e1 e2 a q1 q3 q2 q4
 ·exact B.er.nT a (dC a z) (B.tt a (t3 a (B.er.ownDom (dC a z)) t))
theorem rO(E:ER K H T σ δ)(B:Ops K T σ δ H os vs δ1 H1 T1)(ha:hZ δ1 os=some args)(nd:(gn os args).Nodup)(P:Post K (Tc T σ δ1 vs args) (vs.map some) (args.map some) H1 r outs v H'):
  Post K T σ δ H r (wb os args outs δ1) v H':=by
 obtain⟨d,b⟩:=r
 cases b with
 |false=>
  obtain⟨kC,E',rv⟩:=P;obtain⟨E2,ow,k2⟩:=Au (T':=T) E B ha nd kC E' (fun _ z=>z) (fun _ z=> .inl z) (fun _ _ z=>z);refine⟨B.keep.trans k2,E2,Rep.mono (fun _ _ e _=>e) (fun b _ z=>?_) rv⟩;rcases z with z|z
  ·exact ow b z
  ·exact .inr (.inl z)
 |true=>
  obtain⟨kC,p,rfl,hp,E',ok⟩:=P;obtain⟨E2,ow,k2⟩:=Au (T':=fun a=>T a\/a=p) E B ha nd kC E' (fun _ z=> .inl z) (fun b z=>z.elim (fun z=> .inl (.inl z)) .inr) (fun b hb z=>z.elim id fun z=>by subst z;exact absurd hp hb);refine⟨B.keep.trans k2,p,rfl,?_,E2,ok.mono (fun _ _ e _=>e) (fun b _ z=>?_) fun _ e=>e⟩
  ·cases hH:H p with
   |none=>rfl
   |some ob=>exact absurd hp (B.keep.dm p (by rw[hH];simp))
  ·rcases z with z|z|z
   ·exact(ow b z).imp id .inl
   ·exact .inr (.inl (.inl z))
   ·exact .inr (.inr z)
end
section
variable {X:Cx}{e:fV}{es:gX}{fs:List FO}{pos p:Pos}{k:Nat}{f:fM}{fd:jq}{ps:gf}{ev:EvF}{x:Str}
theorem Es(F:FnOk X.prog X.w X.K X.mg X.base CX0 k f fd ps (spF X.K ev))(hr:Room k X.A)(hg:Gl X x)(hm:X.mg x=some (.ref f))(hk:PySem.W.keepIn X.K (.ref f)=true)(hb:Binds X.K fd ps [])
  (ha:PA X (e::es) (tA X.K fs))(j4:(x==("__debug__":Str))=false)(he:starEach (e::es) X.env=(false,eval e X.env)::starEach es X.env)(i3:(backTo pos (starEach es X.env)).any (·.1)=false):
  PX X (.Call (.Name x p) (e::es) [] pos) (gp ev fs):=PX.imp (Aa F hr hg hm hk hb (.nil) F7 ha j4 he i3) fun σ H Q hw=>by
 obtain⟨δ,T,rr,δ',E,e,k⟩:=hw;obtain⟨⟨os,δ1⟩,h1,e⟩:=fL e;obtain⟨args,h2,e⟩:=fL e;dsimp only at e;split at e
 ·rename_i nd;obtain⟨⟨r,outs⟩,h3,e⟩:=fL e;obtain⟨rfl,rfl⟩:=fY e;refine⟨δ,T,os,δ1,E,h1,fun vs H1 T1 B=>?_⟩;show spF X.K ev (vs++[]) H1 Q E0;rw[pB];exact⟨Tc T σ δ1 vs args,args,r,outs,oK E B h2 nd,h3,fun v H' P=>k v H' (rO E B h2 nd P)⟩
 ·cases e
end
structure SKd(A:gG)(d:fM)(σ:L2.St)(δ:Dn)(H:Hp)(σ':L2.St)(δ':Dn)(H':Hp):Prop where
 kp: ∀a o,H a=some o-> ¬OwnA σ δ a->a≠d->H' a=some o
 owi: ∀i a,OwnI σ' δ' i a->OwnI σ δ i a\/H a=none
 dm: ∀a,H a≠none->H' a≠none
 as: ∀i,¬A i->σ'[i]?=σ[i]?
section
variable {A:gG}{d:fM}{σ σ1 σ2:L2.St}{δ δ1 δ2:Dn}{H H1 H2:Hp}
theorem SK.skd(k:SK A σ δ H σ1 δ1 H1):SKd A d σ δ H σ1 δ1 H1:=⟨fun a o e n _=>k.kp a o e n,k.owi,k.dm,k.as⟩
theorem SKd.ow(k:SKd A d σ δ H σ1 δ1 H1)(a:fM)(h:OwnA σ1 δ1 a):OwnA σ δ a\/H a=none:=by
 obtain⟨i,e,h1,h2⟩:=h;rcases k.owi i a ⟨e,h1,h2⟩ with⟨e,h3,h4⟩|z
 ·exact .inl ⟨i,e,h3,h4⟩
 ·exact .inr z
theorem SKd.trans(x:SKd A d σ δ H σ1 δ1 H1)(y:SKd A d σ1 δ1 H1 σ2 δ2 H2):SKd A d σ δ H σ2 δ2 H2 where
 kp:=fun a o e n nd=>y.kp a o (x.kp a o e n nd) (fun z=>(x.ow a z).elim n fun z=>by rw[z] at e;cases e) nd
 owi:=fun i a z=>(y.owi i a z).elim (x.owi i a) fun z=> .inr (by
  cases h:H a with
  |none=>rfl
  |some o=>exact absurd z (x.dm a (by rw[h];simp)))
 dm:=fun a z=>y.dm a (x.dm a z)
 as:=fun i h=>(y.as i h).trans (x.as i h)
end
structure BS(K:fX)(d:fM)(T:AP')(σ:L2.St)(δ:Dn)(acc:List D)(H:Hp):Prop where
 er:ER K H T σ δ
 td:T d
 at': ∃ys,H d=some (.lst ys)/\RepL K H (fun a=>OwnA σ δ a\/T a) acc ys
abbrev FB:=List D->Dn->Option (List D×Dn)
def tBx(K:fX)(A:gG)(d:fM)(f:FB):TB:=fun σ H N=> ∃δ T acc u9 δ',BS K d T σ δ acc H/\f acc δ=some (u9,δ')/\ ∀σ' H',SKd A d σ δ H σ' δ' H'->BS K d T σ' δ' u9 H'->N σ' H'
noncomputable def jK(f:F):FB:=fun acc δ=>(f δ).bind fun p=>if acc.length<sizeLine then some (acc++[p.1.1],p.2) else none
noncomputable def pP(tg:Tg)(ti:FT)(fb:FB):List D->FB
 |[],acc,δ=>some (acc,δ)
 |x::xs,acc,δ=>(tg x δ).bind fun δ1=>(ti δ1).bind fun p=>(if p.1=true then fb acc p.2 else some (acc,p.2)).bind fun q=>pP tg ti fb xs q.1 q.2
noncomputable def HY(fi:FIt)(tg:Tg)(ti:FT)(fb:FB):FB:=fun acc δ=>(fi δ).bind fun p=>pP tg ti fb p.1 acc p.2
section
variable {K:fX}{A:gG}{d:fM}{T:AP'}{σ σ1:L2.St}{δ δ1:Dn}{acc:List D}{H H1:Hp}
theorem BS.step(b:BS K d T σ δ acc H)(k:SK A σ δ H σ1 δ1 H1)(E1:ER K H1 T σ1 δ1):BS K d T σ1 δ1 acc H1:=by
 obtain⟨ys,h1,h2⟩:=b.at';refine⟨E1,b.td,ys,k.kp d _ h1 fun z=>b.er.nT d z b.td,RepL.mono (fun b o e n=>k.kp b o e fun z=>n (.inl z)) (fun c hc z=>?_) h2⟩;rcases z with z|z
 ·exact(k.ow c z).elim Or.inl fun z=>absurd z hc
 ·exact .inr z
theorem Ah(hg: ∀v σ H Q,tG K A tg v σ H Q->g v σ H Q)(hi: ∀σ H Q,tT K ft σ H Q->ti σ H Q)(hb: ∀σ H N,tBx K A d fb σ H N->tb σ H N)
  (b:BS K d T σ δ acc H)(P O:AP')(ok:ItOk K J ds P O H1)(s1: ∀a o,H1 a=some o-> ¬P a->H a=some o)(s0: ∀a,H1 a≠none->OwnA σ δ a\/a=d->P a)(s2: ∀a,H1 a≠none->(OwnA σ δ a\/T a)->O a)(s3: ∀a,H1 a≠none->H a≠none)(e:pP tg ft fb ds acc δ=some (u9,δ'))
  (k: ∀σ' H',SKd A d σ δ H σ' δ' H'->BS K d T σ' δ' u9 H'->N σ' H'):zJ J g ti tb σ H N:=by
 refine⟨fun i m σ2 H2=>m=ds.length-i/\i<=ds.length/\ ∃δ2 ba,SKd A d σ δ H σ2 δ2 H2/\BS K d T σ2 δ2 ba H2/\pP tg ft fb (ds.drop i) ba δ2=some (u9,δ'),⟨ds.length,by simp,qk _,δ,acc,SK.refl.skd,b,by simpa using e⟩,?_⟩;rintro i m σ2 H2 ⟨rfl,hle,δ2,ba,S2,B2,e2⟩
 have hO: ∀a,H1 a≠none->(OwnA σ2 δ2 a\/T a)->O a:=fun a ha z=>by
  rcases z with z|z
  ·exact(S2.ow a z).elim (fun z=>s2 a ha (.inl z)) fun z=>absurd z (s3 a ha)
  ·exact s2 a ha (.inr z)
 have aL: ∀a o,H1 a=some o-> ¬P a->H2 a=some o:=fun a o ea n=>S2.kp a o (s1 a o ea n) (fun z=>n (s0 a (by rw[ea];simp) (.inl z))) fun z=>n (s0 a (by rw[ea];simp) (.inr z));by_cases y6:i<ds.length
 ·refine .inr ?_;have hd:ds[i]?=some ds[i]:=gW y6;obtain⟨go,yl⟩:=ok.go i _ H2 hd aL;rw[qj y6] at e2;obtain⟨δ3,h3,e3⟩:=fL e2;obtain⟨⟨c,δ4⟩,h4,e4⟩:=fL e3;obtain⟨⟨acc5,δ5⟩,h5,e5⟩:=fL e4;refine⟨go,fun x H' hy=>?_⟩;obtain⟨ext,rep⟩:=yl x H' hy;have eg:ER K H' T σ2 δ2:=B2.er.mono (fun b ob eb _=>ext b ob eb) (fun _ _ z=>z) (fun a z=>(B2.er.dom a z).up (ext a));have SX:SK A σ2 δ2 H2 σ2 δ2 H':=(Keep.ext ext).sk;have B2':=B2.step SX eg;have fJ:SKd A d σ δ H σ2 δ2 H':=S2.trans SX.skd;have rx:=rep (fun a=>OwnA σ2 δ2 a\/T a) hO (fun b hb z=>z.elim (fun z=>B2.er.ownDom z hb) fun z=>(B2.er.dom b z).ne hb);refine hg _ _ _ _ ⟨δ2,T,ds[i],δ3,eg,rx,h3,fun σ3 S3 E3=>?_⟩;have B3:=B2'.step S3 E3;have cM:=fJ.trans S3.skd;refine hi _ _ _ ⟨δ3,T,c,δ4,E3,h4,fun H4 K4 E4=>?_⟩;have S4:SK A σ3 δ3 H' σ3 δ4 H4:=K4.sk;have B4:=B3.step S4 E4;have S4':=cM.trans S4.skd
  cases c with
  |false=>
   rw[gk jb] at h5;obtain⟨rfl,rfl⟩:=fY h5;exact Jc ⟨ds.length-(i+1),by omega,rfl,y6,δ4,ba,S4',B4,e5⟩
  |true=>
   rw[gh rfl] at h5;exact Jb (hb _ _ _ ⟨δ4,T,ba,acc5,δ5,B4,h5,fun σ5 H5 S5 B5=>⟨ds.length-(i+1),by omega,rfl,y6,δ5,acc5,S4'.trans S5,B5,e5⟩⟩)
 ·refine .inl ⟨ok.stop i H2 (by omega) aL,?_⟩;rw[qz (by omega)] at e2;obtain⟨rfl,rfl⟩:=fY e2;exact k σ2 H2 S2 B2
end
section
variable {X:Cx}{A:gG}{d:fM}{elt:fV}{f:F}
theorem PB.imp'{code:Sem Unit}{t t':TB}(h:PB X code t)(k: ∀σ H N,t' σ H N->t σ H N):PB X code t':=fun pins s σ H N I hw=>h pins s σ H N I (k σ H N hw)
theorem Dg{gens:md}{sc:gF}{p:Pos}{depth:Nat}(hn:gens[depth+1]?=none)(he:PX X elt f):PB X (gM (.ListComp elt gens sc p) depth (.ref d) X.env) (tBx X.K A d (jK f)):=PB.imp' (EZ hn he) fun σ H N hw=>by
 obtain⟨δ,T,acc,u9,δ',B,e,k⟩:=hw;obtain⟨⟨r,δ1⟩,h1,e⟩:=fL e;obtain⟨hz,e⟩:=gy e;obtain⟨rfl,rfl⟩:=nU e;refine⟨δ,T,r,δ1,B.er,h1,fun v H1 P=>?_⟩;obtain⟨E1,rv⟩:=P.rep B.er;have S1:SK A σ δ H σ δ1 H1:=P.1.sk;have B1:=B.step S1 E1;obtain⟨ys,hy,ry⟩:=B1.at';refine⟨ys,hy,by rw[ry.length];exact hz,k σ _ ?_ ?_⟩
 ·have:SKd A d σ δ1 H1 σ δ1 (upd H1 d (.lst (ys++[v]))):=⟨fun a o e n nd=>by rw[gu nd];exact e,fun i a z=> .inl z,fun a z=>by
   by_cases ha:a=d
   ·subst ha;rw[gA];simp
   ·rw[gu ha];exact z,fun _ _=>rfl⟩
  exact S1.skd.trans this
 ·have hk: ∀b o,H1 b=some o-> ¬T b->upd H1 d (.lst (ys++[v])) b=some o:=fun b o e n=>by rw[gu (by intro z;subst z;exact n B.td)];exact e
  have hd: ∀a,T a->Ow (upd H1 d (.lst (ys++[v])) a):=fun a z=>by
   by_cases ha:a=d
   ·subst ha;rw[gA];trivial
   ·rw[gu ha];exact E1.dom a z
  refine⟨E1.mono hk (fun _ _ z=>z) hd,B.td,ys++[v],gA,?_⟩;exact RepL.mono (fun b o e n=>hk b o e fun z=>n (.inr z)) (fun _ _ z=>z) (ry.append (RepL.one rv))
theorem EY{e:fV}{depth:Nat}{c:kY}{fi:FIt}{tg:Tg}{ft:FT}{fb:FB}(aR:X.xe=fun _ _=>False)(hc:X.calm=true)
  (hl:(∃elt gens sc p,e= .ListComp elt gens sc p)\/(∃elt gens sc p,e= .SetComp elt gens sc p))(hg:(clausesOf e)[depth+1]?=some c)(ha:c.is_async=0)(l9: ∀g',(clausesOf e)[depth+1+1]?=some g'->g'.is_async=0)
  (hs: ∀x,foldedSetIterable c.iter X.env x=pure x)(pi:PIX X (fun _=>False) c.target c.iter fi)(pg:PGX X A c.target tg)(bx:PIf X c.ifs (tT X.K ft))(pb:PB X (gM e (depth+1) (.ref d) X.env) (tBx X.K A d fb)):
  PB X (gM e depth (.ref d) X.env) (tBx X.K A d (HY fi tg ft fb)):=PB.imp' (Hm aR hc hl hg ha l9 hs pi pg bx pb) fun σ H N hw=>by
 obtain⟨δ,T,acc,u9,δ',B,e,k⟩:=hw;obtain⟨⟨ds,δ1⟩,h1,e⟩:=fL e;refine⟨δ,T,ds,δ1,B.er,h1,fun J H1 K1 E1 ok=>?_⟩;have S1:SK A σ δ H σ δ1 H1:=K1.sk;exact Ah (fun _ _ _ _ h=>h) (fun _ _ _ h=>h) (fun _ _ _ h=>h) (B.step S1 E1) _ _ ok (fun a o e _=>e) (fun a _ z=>z.elim (fun⟨i,x,z⟩=> .inl ⟨i,id,x,z⟩) fun z=> .inr (z▸B.td)) (fun a _ z=>z) (fun a z=>z) e fun σ' H' S' B'=>k σ' H' (S1.skd.trans S') B'
end
noncomputable def jB(caps:gx)(k:Nat)(fi:FIt)(tg:Tg)(ti:FT)(fb:FB):F:=fun δ=>(fi δ).bind fun p=>(hZ p.2 (caps.map .slot)).bind fun args=>
 if(gn (caps.map .slot) args).Nodup then(pP tg ti fb p.1 [] (args.map some++List.replicate k none)).bind fun q=>some ((.lst q.1,true),wb (caps.map .slot) args (gU args q.2) p.2) else none
noncomputable def wu(caps:gx)(k:Nat)(σ:L2.St):L2.St:=(caps.map fun j=>(σ[j]?).join)++List.replicate k none
theorem xi{K:fX}{caps:gx}{k:Nat}{fi:FIt}{tg:Tg}{ti:FT}{fb:FB}{σ:L2.St}{H:Hp}{Q:VK}(h:tF K (jB caps k fi tg ti fb) σ H Q):
  Cs (tI K (fun i=>i∉caps) fi) (tG K (fun i=>caps.length<=i) tg) (tT K ti) (fun d=>tBx K (fun i=>caps.length<=i) d fb) (wu caps k) σ H Q:=by
 obtain⟨δ,T,rr,δr,E,e,kq⟩:=h;obtain⟨⟨ds,δ1⟩,h1,e⟩:=fL e;obtain⟨args,ha,e⟩:=fL e;dsimp only at e ha;split at e
 case isFalse=>cases e
 rename_i nd;obtain⟨⟨acc,δ'⟩,h2,e⟩:=fL e;obtain⟨rfl,rfl⟩:=fY e;refine⟨δ,T,ds,δ1,E,h1,fun J H1 K1 E1 ok d hd=>?_⟩;obtain⟨hl,hg⟩:=jN ha;have hl':args.length=caps.length:=by simpa using hl
 let vs:List V:=caps.map fun j=>((σ[j]?).join).getD .non
 have there: ∀(i j:Nat),caps[i]?=some j-> ∃v,σ[j]?=some (some v):=fun i j hj=>by
  have hi:i<args.length:=by have:=(pR.mp hj).1;omega
  obtain⟨o,q1,q2⟩:=hg i _ (gW hi);rw[iN,hj] at q1;cases q1;have q3:=lA q2;generalize args[i]=y at q3;obtain⟨x,b⟩:=y
  cases b with
  |false=>obtain⟨v,h,_⟩:=E1.val j x q3;exact⟨v,h⟩
  |true=>obtain⟨a,h,_⟩:=E1.own j x q3;exact⟨_,h⟩
 have eH: ∀(i j:Nat),caps[i]?=some j-> ∃v,vs[i]?=some v/\σ[j]?=some (some v):=fun i j hj=>by
  obtain⟨v,hv⟩:=there i j hj;refine⟨v,?_,hv⟩;show(caps.map fun j=>((σ[j]?).join).getD .non)[i]?=some v;rw[iN,hj];simp[hv]
 have av:wu caps k σ=vs.map some++List.replicate k none:=by
  unfold wu
  congr 1
  apply qy;intro i;show _=((caps.map fun j=>((σ[j]?).join).getD .non).map some)[i]?;rw[iN,iN,iN]
  cases hj:caps[i]? with
  |none=>rfl
  |some j=>obtain⟨v,hv⟩:=there i j hj;simp[hv]
 have B0:Ops K T σ δ1 H1 (caps.map Opd.slot) vs δ1 H1 T:=by
  refine⟨by simp[vs],.refl,E1,fun _ z=>z,fun j x v hj=>?_,fun j x v hj=>?_,fun j i v hj hv=>?_⟩
  ·rw[iN] at hj;obtain⟨_,_,z⟩:=gD hj;cases z
  ·rw[iN] at hj;obtain⟨_,_,z⟩:=gD hj;cases z
  ·rw[iN] at hj;obtain⟨c,hc,z⟩:=gD hj;cases z;obtain⟨v',q1,q2⟩:=eH j i hc;rw[hv] at q1;cases q1;exact q2
 have Ec:=oK E1 B0 ha nd
 have hA: ∀(i:Nat) x,args[i]?=some (x,true)-> ¬(caps.length<=i):=fun i x hx=>by
  have:=(pR.mp hx).1;omega
 rw[av];have hx:=jw (o:= .lst []) hd
 have nz: ∀a,H1 a≠none->upd H1 d (.lst []) a≠none:=fun a z=>by
  cases hh:H1 a with
  |none=>exact absurd hh z
  |some o=>rw[hx a o hh];simp
 have b0:BS K d (fun a=>Tc T σ δ1 vs args a\/a=d) (vs.map some++List.replicate k none) (args.map some++List.replicate k none) [] (upd H1 d (.lst [])):=by
  refine⟨(Ec.pad).mono (fun b o eb _=>hx b o eb) (fun b hb z=>z.elim id fun z=>by subst z;exact absurd hd hb) (fun a z=>?_),.inr rfl,[],gA,RepL.nil⟩;rcases z with z|z
  ·exact(Ec.dom a z).up (hx a)
  ·subst z;rw[gA];trivial
 refine Ah (fun _ _ _ _ h=>h) (fun _ _ _ h=>h) (fun _ _ _ h=>h) b0 _ _ ok (fun a o ea _=>hx a o ea) (fun a fv z=>?_) (fun a fv z=>?_) nz h2 fun σ' H2 S2 B2=>?_
 ·rcases z with z|z
  ·obtain⟨j,x,g1,g2⟩:=Dh.mp z;obtain⟨i,_,q1,_,q3⟩:=wF B0 ha ⟨x,g1,g2⟩;refine .inl ⟨i,fun n=>n ?_,q3⟩;rw[iN] at q1;obtain⟨c,hc,e⟩:=gD q1;cases e;exact qo hc
  ·subst z;exact absurd hd fv
 ·rcases z with z|z|z
  ·exact .inl (Ai B0 ha (Dh.mp z))
  ·rcases z with z|z
   ·exact .inr z
   ·exact .inl z.1
  ·subst z;exact absurd hd fv
 ·have SS:SK (fun i=>caps.length<=i) (vs.map some++List.replicate k none) (args.map some++List.replicate k none) H1 σ' δ' H2:=
   ⟨fun a o ea n=>S2.kp a o (hx a o ea) n (by intro z;subst z;rw[ea] at hd;cases hd),fun i a z=>(S2.owi i a z).imp id fun z=>by
    cases hh:H1 a with
    |none=>rfl
    |some o=>exact absurd z (nz a (by rw[hh];simp)),fun a z=>S2.dm a (nz a z),S2.as⟩
  obtain⟨ys,hy,ry⟩:=B2.at';have P:=pd (r:=(.lst acc,true)) (v:= .ref d) Ec SS hA ⟨d,rfl,hd,B2.er,ys,hy,RepL.mono (fun _ _ e _=>e) (fun b _ z=>z) ry⟩;exact kq (.ref d) H2 ((rO E1 B0 ha nd P).pre K1)
section
variable {X:Cx}{elt:fV}{c:kY}{gE:md}{scope:gF}{pos i5 py:Pos}{N':gf}{caps:gx}{k:Nat}{fi:FIt}{tg:Tg}{ti:FT}{fb:FB}{A L:gG}{H0:Hp}
structure CompOk(X:Cx)(N':gf)(scope:gF)(caps:gx)(k:Nat):Prop where
 cell: ∀y∈scope.names,y.2= .cell->scope.names.lookup y.1=some .cell
 kind:scope.kind= .function
 names: ∀y∈scope.names,y.2= .local->scope.names.lookup y.1=some .local
 free: ∀y∈scope.names,y.2= .free->X.env.scope.names.lookup y.1=some .cell\/X.env.scope.names.lookup y.1=some .free
 len:caps.length+k=N'.length
 caps: ∀(i j:Nat) (x:Str),caps[i]?=some j->N'[i]?=some x->X.N[j]?=some x/\scope.names.lookup x=some .free
theorem CompOk.sco(C:CompOk X N' scope caps k):CompScope X N' scope (wu caps k):=by
 refine⟨C.cell,C.kind,C.names,C.free,fun σ=>by simp[wu,C.len],fun σ i v x h1 h2=>?_⟩;unfold wu at h1;by_cases hi:i<caps.length
 ·rw[yg (by simpa using hi),iN,gW hi] at h1;obtain⟨q1,q2⟩:=C.caps i caps[i] x (gW hi) h2;refine⟨q2,caps[i],q1,?_⟩;have h3:(σ[caps[i]]?).join=some v:=by simpa using h1
  cases hs:σ[caps[i]]? with
  |none=>rw[hs] at h3;cases h3
  |some y=>rw[hs] at h3;exact lS some h3
 ·rw[yh (by simpa using hi),nY] at h1;split at h1<;>cases h1
theorem EA(C:CompOk X N' scope caps k)(hc:X.calm=true)(ha:c.is_async=0)(l9: ∀g',gE[0]?=some g'->g'.is_async=0)
  (hs: ∀x,foldedSetIterable c.iter X.env x=pure x)(pi:PIX X (fun i=>i∉caps) c.target c.iter fi)
  (aA: ∀(cl:iw) (C:fM) (s3:fQ) (H3:Hp) (fp:ic) (pins:gq),let X':=X.comp N' scope cl C s3 H3 fp pins
   PGX X' (fun i=>caps.length<=i) c.target tg/\PIf X' c.ifs (tT X.K ti)/\ ∀d,PB X' (gM (.ListComp elt (c::gE) scope pos) 0 (.ref d) X'.env) (tBx X.K (fun i=>caps.length<=i) d fb)):
  PX X (.ListComp elt (c::gE) scope pos) (jB caps k fi tg ti fb):=PX.imp (Dd (g:=tG X.K (fun i=>caps.length<=i) tg) (ti:=tT X.K ti) (tb:=fun d=>tBx X.K (fun i=>caps.length<=i) d fb) C.sco hc ha l9 hs pi aA) fun σ H Q h=>xi h
theorem CP{y:Str}{i:Nat}(bA:swapsWith (.ListComp elt (c::gE) scope pos) (some (.Name y py)) i5.line X.env=pure true)
  (C:CompOk X N' scope caps k)(hc:X.calm=true)(ha:c.is_async=0)(l9: ∀g',gE[0]?=some g'->g'.is_async=0)
  (hs: ∀x,foldedSetIterable c.iter X.env x=pure x)(pi:PIX X (fun i=>i∉caps) c.target c.iter fi)(eA:PG X (.Name y py) (wJ i))(hA:A i)
  (aA: ∀(cl:iw) (C:fM) (s3:fQ) (H3:Hp) (fp:ic) (pins:gq),let X':=X.comp N' scope cl C s3 H3 fp pins
   PGX X' (fun i=>caps.length<=i) c.target tg/\PIf X' c.ifs (tT X.K ti)/\ ∀d,PB X' (gM (.ListComp elt (c::gE) scope pos) 0 (.ref d) X'.env) (tBx X.K (fun i=>caps.length<=i) d fb)):
  PSX X A L H0 (.Assign [.Name y py] (.ListComp elt (c::gE) scope pos) i5) (jf i (jB caps k fi tg ti fb)):=PS.imp' (CW (g:=tG X.K (fun i=>caps.length<=i) tg) (ti:=tT X.K ti) (tb:=fun d=>tBx X.K (fun i=>caps.length<=i) d fb) bA C.sco hc ha l9 hs pi eA aA) fun D σ H hw=>by
 obtain⟨δ,T,out,E,fi,e,k⟩:=hw;obtain⟨⟨r,δ1⟩,h3,e⟩:=fL e;obtain⟨hi,rfl⟩:=gy e;refine xi ⟨δ,T,r,δ1,E,h3,fun v H1 P=>?_⟩;obtain⟨h1,h2⟩:=my (A:=A) E P hi hA;exact k _ H1 h1 h2
end
section
variable {K:fX}{T:AP'}{σ:L2.St}{δ:Dn}{H:Hp}{i:Nat}{l l':List D}{a:fM}{bO:List V}
theorem OwnI.write{j:Nat}{b:fM}(hd:δ[i]?=some (some (.lst l,true)))(h:OwnI σ (δ.set i (some (.lst l',true))) j b):OwnI σ δ j b:=by
 obtain⟨e,h1,h2⟩:=h;rcases jG h1 with⟨rfl,_,_⟩|⟨_,q⟩
 ·exact⟨_,hd,h2⟩
 ·exact⟨e,q,h2⟩
theorem ER.write(E:ER K H T σ δ)(hd:δ[i]?=some (some (.lst l,true)))(hs:σ[i]?=some (some (.ref a)))(r:RepL K H (fun b=>OwnA σ δ b\/T b) l' bO):
  ER K (upd H a (.lst bO)) T σ (δ.set i (some (.lst l',true)))/\Keep σ δ H (δ.set i (some (.lst l',true))) (upd H a (.lst bO)):=by
 have hi:i<δ.length:=(pR.mp hd).1;have oa:OwnA σ δ a:=⟨i,_,hd,hs⟩
 have bg: ∀b,OwnA σ (δ.set i (some (.lst l',true))) b->OwnA σ δ b:=fun b ⟨j,e,h1,h2⟩=>by
  obtain⟨e',q1,q2⟩:=OwnI.write hd ⟨e,h1,h2⟩;exact⟨j,e',q1,q2⟩
 have kp: ∀b o,H b=some o-> ¬(OwnA σ δ b\/T b)->upd H a (.lst bO) b=some o:=fun b o e n=>by rw[gu (by intro z;subst z;exact n (.inl oa))];exact e
 have dm: ∀b,H b≠none->upd H a (.lst bO) b≠none:=fun b z=>by
  by_cases hb:b=a
  ·subst hb;rw[gA];simp
  ·rw[gu hb];exact z
 have sub: ∀b,H b≠none->(OwnA σ (δ.set i (some (.lst l',true))) b\/T b)->OwnA σ δ b\/T b:=fun b _ z=>z.imp (bg b) id;refine⟨⟨by rw[nu];exact E.len,fun j e hj=>?_,fun j e hj=>?_,fun j k e f b hj hk h1 h2=>?_,fun b z=>E.nT b (bg b z),fun b z=>by have ne:b≠a:=fun e=>E.nT a oa (e▸z);rw[gu ne];exact E.dom b z⟩,⟨fun b o e n=>by rw[gu (by intro z;subst z;exact n oa)];exact e,fun j b z=>OwnI.write hd z,dm⟩⟩
 ·rcases jG hj with⟨_,_,q⟩|⟨_,q⟩
  ·cases q
  ·obtain⟨w,w1,w2⟩:=E.val j e q;exact⟨w,w1,Rep.mono kp sub w2⟩
 ·rcases jG hj with⟨rfl,_,q⟩|⟨ne,q⟩
  ·cases q;exact⟨a,hs,bO,gA,RepL.mono kp sub r⟩
  ·obtain⟨b,w1,w2⟩:=E.own j e q;refine⟨b,w1,w2.mono kp sub fun o eo=>?_⟩;rw[gu]
   ·exact eo
   ·intro z;subst z;exact ne (E.inj i j _ _ _ hd q hs w1)
 ·obtain⟨e1,q1,q2⟩:=OwnI.write hd ⟨e,hj,h1⟩;obtain⟨e2,q3,q4⟩:=OwnI.write hd ⟨f,hk,h2⟩;exact E.inj j k e1 e2 b q1 q3 q2 q4
end
noncomputable def oG(i:Nat)(f:F):F:=fun δ=>match δ[i]? with
 |some (some (.lst _,true))=>(f δ).bind fun p=>match p.2[i]? with
  |some (some (.lst l,true))=>if l.length<sizeLine then some ((.non,false),p.2.set i (some (.lst (l++[p.1.1]),true))) else none
  |_=>none
 |_=>none
noncomputable def oR(i:Nat)(f:F)(g:FO):FS:=fun δ=>(f δ).bind fun p=>match p.2[i]? with
 |some (some _)=>(g p.2).bind fun q=>match res q.2 q.1,q.2[i]? with
  |some (.int k),some (some (.lst l,true))=>(ixN l.length k).bind fun j=>some (.nx (q.2.set i (some (.lst (l.set j p.1.1),true))))
  |_,_=>none
 |_=>none
section
variable {X:Cx}{e ix:fV}{f:F}{fo:FO}{pos e9 apos g0:Pos}{i:Nat}{x:Str}{A L:gG}{H0:Hp}
theorem AS(hv:PO X (.Name x e9) (fR i))(he:PX X e f)(m6:attributeBase (.Name x e9) "append" X.env (eval (.Name x e9) X.env)=eval (.Name x e9) X.env)
  (u5:((backTo g0 (starEach [e] X.env)).all (fun x=>!x.1)&&(backToKw g0 (keywordEach [] X.env)).all (fun x=>x.1.isSome)&&decide ([e].length+([]:List Keyword).length+(if([]:List Keyword).isEmpty then 0 else 1)<30))=true)
  (m4:(apos.endLine==g0.line)=true)(hs:starEach [e] X.env=(false,eval e X.env)::starEach [] X.env)(k6:(backTo g0 (starEach [] X.env)).any (·.1)=false):
  PX X (.Call (.Attribute (.Name x e9) "append" apos) [e] [] g0) (oG i f):=
 PX.imp (F6 BG PySem.F.slot_list_append PySem.F.type_list_append A5 hv (jg he lK hs) m6 u5 m4 hs k6) fun σ H Q hw=>by
 obtain⟨δ,T,rr,δ',E,e,k⟩:=hw;unfold oG at e;split at e
 ·rename_i l0 h0;obtain⟨⟨r,δ1⟩,h1,e⟩:=fL e;dsimp only at e;split at e
  ·rename_i l h2;obtain⟨hz,e⟩:=gy e;obtain⟨rfl,rfl⟩:=nU e;refine⟨δ,T,.slot i,δ,E,by unfold fR;rw[h0],fun v H1 P=>?_⟩;obtain⟨K1,E1,hσ⟩:=P;obtain⟨a,g1,ei,g2,g3⟩:=E1.own i _ h0;rw[hσ] at g1;cases g1;refine⟨.inl ⟨rfl,ei,SqL.of g2⟩,δ,T,r,δ1,E1,h1,fun y H2 P2=>?_⟩;obtain⟨E2,ry⟩:=P2.rep E1;obtain⟨a',q1,xs,q2,q3⟩:=E2.own i _ h2;rw[hσ] at q1;cases q1;refine⟨_,xs,y,rfl,rfl,q2,by rw[q3.length];exact hz,?_⟩;obtain⟨E3,K3⟩:=E2.write h2 hσ (q3.append (RepL.one ry));exact k _ _ (Post.val ((K1.trans P2.1).trans K3) E3 Rep.mkNon)
  ·cases e
 ·cases e
theorem AW{i5:Pos}(hv:PO X (.Name x e9) (fR i))(he:PX X e f)(hi:PO X ix fo)
  (ha: ∀v,assign (.Subscript (.Name x e9) ix i5) X.env v=(do
   let ov <-holding [v] (eval (.Name x e9) X.env)
   let iv <-holding [v,ov] (eval ix X.env)
   standAt i5
   holding [v,ov,iv] (setItem ov iv v)
   release [v,ov,iv] []))
  (hs:swapsWithSole [.Subscript (.Name x e9) ix i5] e pos.line X.env=pure false)(hw:swappedStores [.Subscript (.Name x e9) ix i5] e X.env=pure none)
  (h1:(assignEach [.Subscript (.Name x e9) ix i5] X.env).map (·.2)=[assign (.Subscript (.Name x e9) ix i5) X.env]):
  PSX X A L H0 (.Assign [.Subscript (.Name x e9) ix i5] e pos) (oR i f fo):=PS.imp' (G8 he (Hd hv hi Cv ha) hs hw h1) fun D σ H hw=>by
 obtain⟨δ,T,out,E,fi,e,k⟩:=hw;obtain⟨⟨r,δ1⟩,h1,e⟩:=fL e;dsimp only at e;split at e
 case h_2=>cases e
 rename_i y0 h0;obtain⟨⟨o,δ2⟩,h2,e⟩:=fL e;dsimp only at e;split at e
 ·rename_i kk l hk h3;obtain⟨j,hj,e⟩:=fL e;cases e;refine⟨δ,T,r,δ1,E,h1,fun v H1 P1=>⟨δ1,Tmp T r v,.slot i,δ1,P1.er E,by unfold fR;rw[h0],fun v2 H2 P2=>⟨δ1,Tmp T r v,o,δ2,P2.er (P1.er E),h2,fun v3 H3 P3=>?_⟩⟩⟩;have P1':PostO X.K T σ δ H (.val r) δ1 v H1:=P1;have B:=Ops.cons E P1' (Ops.cons (P1.er E) P2 (Ops.cons (P2.er (P1.er E)) P3 (Ops.nil (P3.er (P2.er (P1.er E))))));have E3:ER X.K H3 T σ δ2:=B.er.mono (fun _ _ e _=>e) (fun b _ z=>B.tt b z) (fun a z=>B.er.dom a (B.tt a z));have hσ:σ[i]?=some (some v2):=P2.2.2;obtain⟨a,q1,xs,q2,q3⟩:=E3.own i _ h3;rw[hσ] at q1;cases q1;have vk:=gg (B.view (j:=2) rfl rfl hk);have rv:=B.rep E (j:=0) (r:=r) rfl rfl;refine⟨a,xs,kk,j,rfl,vk,q2,by rw[q3.length];exact hj,?_⟩;obtain⟨E4,K4⟩:=E3.write h3 hσ (RepL.set rv j q3);exact k _ _ (B.keep.trans K4).sk E4
 ·cases e
end
noncomputable def Cy(i j:Nat)(fs:List F):FS:=fun δ=>(gY (fs.map fS) δ).bind fun p=>match kT p.1 with
 |some [a,b]=>if i<p.2.length/\j<p.2.length then some (.nx ((p.2.set i (some (a,false))).set j (some (b,false)))) else none
 |_=>none
noncomputable def JX(tg:Tg)(f:F):FS:=fun δ=>(f δ).bind fun p=>(tg p.1.1 p.2).bind fun δ1=>some (.nx δ1)
section
variable {X:Cx}{A L:gG}{H0:Hp}{a b tg e:fV}{fs:List F}{f:F}{t:Tg}{pos px py pt aK:Pos}{x y:Str}{i j:Nat}{kt k2}
theorem EK(hc:X.calm=true)(hN:X.N.Nodup)(hi:X.N[i]?=some x)(hj:X.N[j]?=some y)(l8:i≠j)(hx:X.env.scope.names.lookup x=some .local)(hy:X.env.scope.names.lookup y=some .local)
  (h:PA X [a,b] (tA X.K (fs.map fS)))(hw:swappedStores [.Tuple [.Name x px,.Name y py] kt pt] (.Tuple [a,b] k2 aK) X.env=pure (some [x,y]))
  (hs:swapsWithSole [.Tuple [.Name x px,.Name y py] kt pt] (.Tuple [a,b] k2 aK) pos.line X.env=pure false)(hA:A i)(hB:A j):
  PSX X A L H0 (.Assign [.Tuple [.Name x px,.Name y py] kt pt] (.Tuple [a,b] k2 aK) pos) (Cy i j fs):=PS.imp' (G6 hc hN hi hj l8 hx hy h hw hs) fun D σ H hw=>by
 obtain⟨δ,T,out,E,fi,e,k⟩:=hw;obtain⟨⟨os,δ1⟩,h1,e⟩:=fL e;dsimp only at e;split at e
 ·rename_i d1 d2 hv;obtain⟨hl,rfl⟩:=gy e;refine⟨δ,T,os,δ1,E,h1,fun vs H1 T1 B=>?_⟩;have r:=lE hv B.len fun j r v a b=>B.rep E a b;have E1:ER X.K H1 T σ δ1:=B.er.mono (fun _ _ e _=>e) (fun b _ z=>B.tt b z) (fun a z=>B.er.dom a (B.tt a z));rw[RepL] at r;obtain⟨v1,r1,rfl,g1,r⟩:=r;rw[RepL] at r;obtain⟨v2,r2,rfl,g2,r⟩:=r;rw[RepL] at r;subst r;refine⟨v1,v2,rfl,?_⟩;obtain⟨q1,q2⟩:=my (A:=A) (r:=(d1,false)) (v:=v1) E (Post.val B.keep E1 g1) hl.1 hA
  have g2':Rep X.K H1 (fun c=>OwnA (σ.set i (some v1)) (δ1.set i (some (d1,false))) c\/T c) d2 v2:=Rep.mono (fun _ _ e _=>e) (fun c hc z=>z.imp (fun z=>by
   rcases z.store with z|z
   ·exact z
   ·exact absurd z.1 (by simp)) id) g2
  obtain⟨q3,q4⟩:=my (A:=A) (i:=j) (r:=(d2,false)) (v:=v2) q2 (Post.val .refl q2 g2') (by rw[nu];exact hl.2) hB;exact k _ H1 (q1.trans q3) q4
 ·cases e
theorem zU{id:String}{p:Pos}{es:gX}{fo:List FO}{g:List D->Option (D×Bool)}{z:Str}(hc:iP X (.builtin id) (rDn X.K g))(hg:Gl X z)(hm:X.mg z=none)(hv:bootBuiltins z=some (.builtin id))(ha:PA X (e::es) (tA X.K fo))(hn:z≠"__name__")(j4:(z==("__debug__":Str))=false)
  (he:starEach (e::es) X.env=(false,eval e X.env)::starEach es X.env)(i3:(backTo pos (starEach es X.env)).any (·.1)=false):PX X (.Call (.Name z p) (e::es) [] pos) (hV g fo):=pxn (ou hc hg hm hv ha hn j4 he i3)
theorem Et{id:String}{p:Pos}{es:gX}{fo:List FO}{g:List D->Option (D×Bool)}{z:Str}(hc:iP X (.type id) (rDn X.K g))(hg:Gl X z)(hm:X.mg z=none)(hv:bootBuiltins z=some (.type id))(ha:PA X (e::es) (tA X.K fo))(hn:z≠"__name__")(j4:(z==("__debug__":Str))=false)
  (he:starEach (e::es) X.env=(false,eval e X.env)::starEach es X.env)(i3:(backTo pos (starEach es X.env)).any (·.1)=false):PX X (.Call (.Name z p) (e::es) [] pos) (hV g fo):=pxn (ly hc hg hm hv ha hn j4 he i3)
end
noncomputable def vz(N:gf)(sc scope:gF)(N':gf)(caps:gx)(k:Nat):Bool:=
 (scope.names.all fun y=>y.2 != .cell||scope.names.lookup y.1==some .cell)&&decide (scope.kind= .function)&&(scope.names.all fun y=>y.2 != .local||scope.names.lookup y.1==some .local)&&
 (scope.names.all fun y=>y.2 != .free||(sc.names.lookup y.1==some .cell||sc.names.lookup y.1==some .free))&&decide (caps.length+k=N'.length)&&
 ((caps.zip N').all fun p=>N[p.1]?==some p.2&&scope.names.lookup p.2==some .free)
theorem zg(hN:X.N=N)(hs:X.env.scope=sc)(h:vz N sc scope N' caps k=true):CompOk X N' scope caps k:=by
 subst hN;subst hs;unfold vz at h;simp only[kv,vI,decide_eq_true_eq] at h;obtain⟨⟨⟨⟨⟨h1,h2⟩,h3⟩,h4⟩,h5⟩,h6⟩:=h;refine⟨fun y hy e=>?_,h2,fun y hy e=>?_,fun y hy e=>?_,h5,fun i j x hi hx=>?_⟩
 ·have:=h1 y hy;rw[e] at this;simpa using this
 ·have:=h3 y hy;rw[e] at this;simpa using this
 ·have:=h4 y hy;rw[e] at this;simpa using this
 ·have hm:(j,x)∈caps.zip N':=by
   have:(caps.zip N')[i]?=some (j,x):=by rw[FR];exact⟨hi,hx⟩
   exact qo this
  have:=h6 _ hm;simpa using this
noncomputable def ki:FT:=fun δ=>some (true,δ)
theorem C3{X:Cx}:PIf X [] (tT X.K ki):=fun pins s σ H Q I h=>by
 obtain⟨δ,T,b,δ',E,e,k⟩:=h;cases e;exact ET pins s σ H Q I (k H .refl E)
inductive Ty where
 |int|bool|str|tuple|list|dict
noncomputable def Ty.n:Ty->String
 | .int=>"int"| .bool=>"bool"| .str=>"str"| .tuple=>"tuple"| .list=>"list"| .dict=>"dict"
noncomputable def isT:D->Ty->Bool
 | .bl _,.bool=>true
 | .bl _,.int=>true
 | .int _,.int=>true
 | .str _,.str=>true
 | .tup _,.tuple=>true
 | .lst _,.list=>true
 | .oth .dct _ _,.dict=>true
 |_,_=>false
noncomputable def tyD:D->String
 | .non=>"NoneType"| .bl _=>"bool"| .int _=>"int"| .str _=>"str"| .tup _=>"tuple"| .lst _=>"list"| .oth .dct _ _=>"dict"| .oth .set _ _=>"set"| .oth _ _ _=>"NoneType"
section
variable {X:Cx}{pins:gq}{σ:L2.St}{H:Hp}{s:fQ}
theorem uZ(K:fX)(d:D)(t:Ty):PySem.W.kitOne K (.type (tyD d)) (.type t.n)=some (isT d t):=by
 cases d with
 |oth k _ _=>cases k<;>cases t<;>with_unfolding_all rfl
 |_=>cases t<;>with_unfolding_all rfl
theorem uQ(I:Inv X pins σ H s)(h:OthB X.K (H a) k ks vs us)(hk:k= .dct\/k= .set:=by first|exact .inl rfl|exact .inr rfl):s.TypeIs (.ref a) (tyD (.oth k ks vs)):=by
 cases k with
 |dct=>
  rcases h with⟨l3,e,_⟩|⟨l3,e,_⟩
  ·obtain⟨_,_,vs,_,o,es,ep,h1,h2,_⟩:=(show ObjOk X.prog X.w H s.heap a (.dK l3) from I.hok a _ e)
   exact⟨o,h1,h2.1⟩
  ·obtain⟨_,_,xs,_,o,es,ep,h1,h2,_⟩:=(show ObjOk X.prog X.w H s.heap a (.dT l3) from I.hok a _ e)
   exact⟨o,h1,h2.1⟩
 |set=>
  obtain⟨_,zs,e,_⟩:=h;obtain⟨es,n,t,h1,_⟩:=(show ObjOk X.prog X.w H s.heap a (.stt zs) from I.hok a _ e)
  exact⟨_,h1,rfl⟩
 |exc C=>rcases hk with z|z<;>cases z
 |_=>exact h.elim
theorem qO{K H}(h:ik K H O (.oth k ks vs) v): ∃a us,v= .ref a/\OthB K (H a) k ks vs us/\RepL K H O vs us:=by
 rcases h with h|⟨a,rfl,h⟩
 ·obtain⟨a,us,e,q,r⟩:=h.oth;exact⟨a,us,e,q.2,r⟩
 ·obtain⟨us,e,r⟩:=h;exact⟨a,us,rfl,e,r⟩
end
theorem jh(K:fX)(d:D): ∀ts:List Ty,PySem.W.kitAny K (.type (tyD d)) (ts.map fun t=>Value.type t.n)=some (ts.any (isT d))
 |[]=>rfl
 |t::ts=>by
  rw[nk,PySem.W.kitAny,uZ,List.any_cons]
  cases isT d t with
  |true=>rfl
  |false=>simpa using jh K d ts
theorem Gi{K:fX}{C:Nat}(h: ∀n∈["int","bool","str","tuple","list","dict"],PySem.W.kitOne K (.ref C) (.type n)=some false)(t:Ty){ks vs:List D}:PySem.W.kitOne K (.ref C) (.type t.n)=some (isT (.oth (.exc C) ks vs) t):=by
 cases t<;>exact h _ (by simp[Ty.n])
theorem Ap{K:fX}{C:Nat}(h: ∀n∈["int","bool","str","tuple","list","dict"],PySem.W.kitOne K (.ref C) (.type n)=some false){ks vs:List D}: ∀ts:List Ty,PySem.W.kitAny K (.ref C) (ts.map fun t=>Value.type t.n)=some (ts.any (isT (.oth (.exc C) ks vs)))
 |[]=>rfl
 |t::ts=>by
  rw[nk,PySem.W.kitAny,Gi h t (ks:=ks) (vs:=vs),List.any_cons]
  cases isT (.oth (.exc C) ks vs) t with
  |true=>rfl
  |false=>simpa using Ap h ts
section
variable {X:Cx}{pins:gq}{σ:L2.St}{H:Hp}{s:fQ}
theorem KR(I:Inv X pins σ H s)(hd:ik X.K H O d x)(rx:RelV x u)(h: ∀tk,Q (.bool (isT d t)) {s with toks:=tk}):
  wpAny (model X.prog X.w) A (call (.builtin "isinstance") [u,.type t.n]) Q E s:=by
 cases d with
 |non=>have:=vR hd;subst this;cases rx;exact nS PySem.W.kitx_none I.kIn True.intro (uZ X.K .non t) (fun z=>nomatch z) h
 |bl b=>have:=uD hd;subst this;cases rx;exact nS PySem.W.kitx_bool I.kIn True.intro (uZ X.K (.bl b) t) (fun z=>nomatch z) h
 |int b=>have:=gg hd;subst this;obtain⟨tk,rfl⟩:=rx;exact nS PySem.W.kitx_int I.kIn True.intro (uZ X.K (.int b) t) (fun z=>nomatch z) h
 |str b=>have:=og hd;subst this;obtain⟨tk,rfl⟩:=rx;exact nS PySem.W.kitx_str I.kIn True.intro (uZ X.K (.str b) t) (fun z=>nomatch z) h
 |tup l=>
  obtain⟨a,xs,rfl,q,_⟩:=jT hd;cases rx;obtain⟨b6,_,⟨o,h1,h2,_⟩,_⟩:=I.tuple q;exact nS PySem.W.kitx_tuple I.kIn ⟨o,h1,h2⟩ (uZ X.K (.tup l) t) (fun z=>nomatch z) h
 |lst l=>
  obtain⟨a,xs,rfl,q,_⟩:=jc hd;cases rx;obtain⟨b6,_,⟨o,n,h1,h2,_⟩,_⟩:=I.list q;exact nS PySem.W.kitx_list I.kIn ⟨o,h1,h2⟩ (uZ X.K (.lst l) t) (fun z=>nomatch z) h
 |oth k ks vs=>
  obtain⟨a,us,rfl,q,_⟩:=qO hd;cases rx
  cases k with
  |dct=>exact nS PySem.W.kitx_dict I.kIn (uQ I q) (uZ X.K (.oth .dct ks vs) t) (fun z=>nomatch z) h
  |set=>exact nS PySem.W.kitx_set I.kIn (uQ I q) (uZ X.K (.oth .set ks vs) t) (fun z=>nomatch z) h
  |exc C=>
   obtain⟨_,o,e,h1,h2,h3⟩:=q;exact nS (h2 a) I.kIn (show ObjOk X.prog X.w H s.heap a (.frz o (.own 0)) from I.hok a _ e).1 (Gi h3 t) (fun z=>nomatch z) h
  |_=>exact q.elim
theorem KQ{A:gc}{E:gw}{Q:gw}(I:Inv X pins σ H s){O:AP'}{d:D}{x:V}{u:fW}{ts:List Ty}{p:fM}{dd:Option Addr}{n:Nat}{sl:mf}(hd:ik X.K H O d x)(rx:RelV x u)
  (aS:s.heap.get? p=some ⟨.type "tuple",dd,.seq (ts.map fun t=>Value.type t.n).toArray n,sl⟩)(h: ∀tk,Q (.bool (ts.any (isT d))) {s with toks:=tk}):wpAny (model X.prog X.w) A (call (.builtin "isinstance") [u,.ref p]) Q E s:=by
 cases d with
 |non=>have:=vR hd;subst this;cases rx;exact nR PySem.W.kitx_none I.kIn True.intro aS (jh X.K .non ts) (fun z=>nomatch z) h
 |bl b=>have:=uD hd;subst this;cases rx;exact nR PySem.W.kitx_bool I.kIn True.intro aS (jh X.K (.bl b) ts) (fun z=>nomatch z) h
 |int b=>have:=gg hd;subst this;obtain⟨tk,rfl⟩:=rx;exact nR PySem.W.kitx_int I.kIn True.intro aS (jh X.K (.int b) ts) (fun z=>nomatch z) h
 |str b=>have:=og hd;subst this;obtain⟨tk,rfl⟩:=rx;exact nR PySem.W.kitx_str I.kIn True.intro aS (jh X.K (.str b) ts) (fun z=>nomatch z) h
 |tup l=>
  obtain⟨a,xs,rfl,q,_⟩:=jT hd;cases rx;obtain⟨b6,_,⟨o,h1,h2,_⟩,_⟩:=I.tuple q;exact nR PySem.W.kitx_tuple I.kIn ⟨o,h1,h2⟩ aS (jh X.K (.tup l) ts) (fun z=>nomatch z) h
 |lst l=>
  obtain⟨a,xs,rfl,q,_⟩:=jc hd;cases rx;obtain⟨b6,_,⟨o,n,h1,h2,_⟩,_⟩:=I.list q;exact nR PySem.W.kitx_list I.kIn ⟨o,h1,h2⟩ aS (jh X.K (.lst l) ts) (fun z=>nomatch z) h
 |oth k ks vs=>
  obtain⟨a,us,rfl,q,_⟩:=qO hd;cases rx
  cases k with
  |dct=>exact nR PySem.W.kitx_dict I.kIn (uQ I q) aS (jh X.K (.oth .dct ks vs) ts) (fun z=>nomatch z) h
  |set=>exact nR PySem.W.kitx_set I.kIn (uQ I q) aS (jh X.K (.oth .set ks vs) ts) (fun z=>nomatch z) h
  |exc C=>
   obtain⟨_,o,e,h1,h2,h3⟩:=q;exact nR (h2 a) I.kIn (show ObjOk X.prog X.w H s.heap a (.frz o (.own 0)) from I.hok a _ e).1 aS (Ap h3 ts) (fun z=>nomatch z) h
  |_=>exact q.elim
end
noncomputable def ni(ts:List Ty)(d:D):Option (D×Bool):=some (.bl (ts.any (isT d)),false)
section
variable {X:Cx}{e:fV}{fa:FO}{pos p p2:Pos}{z:Str}
theorem GP{t:Ty}(ha:PO X e fa)(hg:Gl X "isinstance")(hm:X.mg "isinstance"=none)(aU:Gl X z)(dq:X.mg z=none)(hz:bootBuiltins z=some (.type t.n))(hn:z≠"__name__")(j4:(z==("__debug__":Str))=false)(hv:bootBuiltins "isinstance"=some (.builtin "isinstance"))
  (s1:starEach [e,.Name z p2] X.env=(false,eval e X.env)::starEach [.Name z p2] X.env)(s2:starEach [.Name z p2] X.env=(false,eval (.Name z p2) X.env)::starEach [] X.env)(i3:(backTo pos (starEach [.Name z p2] X.env)).any (·.1)=false):
  PX X (.Call (.Name "isinstance" p) [e,.Name z p2] [] pos) (iV (ni [t]) fa):=by
 have hc:iP X (.builtin "isinstance") (fun xs H Q=> ∃(O:AP') (d:D) (x:V),xs=[x,.ty t.n]/\ik X.K H O d x/\Q (.bl (isT d t)) H):=by
  intro pins s σ H xs us Q I r h;obtain⟨O,d,x,rfl,hd,q⟩:=h;obtain⟨u,w',rfl,ru,aJ⟩:=pF r;cases aJ;exact KR I hd ru fun tk=>⟨.bl _,H,I.tok _,rfl,q⟩
 refine PX.imp (ou hc hg hm hv (jg ha (jg (qc (v:= .ty t.n) aU dq hz rfl hn j4) lK s2) s1) (by decide) (by decide) s1 i3) fun σ H Q hw=>?_;obtain⟨δ,T,rr,δ',E,e,k⟩:=hw;obtain⟨⟨o,δ1⟩,h1,e⟩:=fL e;obtain⟨x,h2,e⟩:=fL e;obtain⟨zz,h3,e⟩:=fL e;cases h3;obtain⟨rfl,rfl⟩:=fY e;refine⟨δ,T,o,δ1,E,h1,fun v H1 P1=>?_⟩;have B:=Ops.cons E P1 (Ops.nil (P1.er E));refine⟨_,x,v,rfl,B.view (j:=0) rfl rfl h2,?_⟩;have:=(B.done k).bl;simpa using this
theorem Ey{t t':Ty}{z z':Str}{p3 p4:Pos}{kk}(ha:PO X e fa)(hg:Gl X "isinstance")(hm:X.mg "isinstance"=none)(aU:Gl X z)(dq:X.mg z=none)(hz:bootBuiltins z=some (.type t.n))(hn:z≠"__name__")(j4:(z==("__debug__":Str))=false)
  (cD:Gl X z')(hmz':X.mg z'=none)(dI:bootBuiltins z'=some (.type t'.n))(cA:z'≠"__name__")(cH:(z'==("__debug__":Str))=false)(hv:bootBuiltins "isinstance"=some (.builtin "isinstance"))
  (s1:starEach [e,.Tuple [.Name z p2,.Name z' p3] kk p4] X.env=(false,eval e X.env)::starEach [.Tuple [.Name z p2,.Name z' p3] kk p4] X.env)(s2:starEach [.Tuple [.Name z p2,.Name z' p3] kk p4] X.env=(false,eval (.Tuple [.Name z p2,.Name z' p3] kk p4) X.env)::starEach [] X.env)
  (s3:starEach [.Name z p2,.Name z' p3] X.env=(false,eval (.Name z p2) X.env)::starEach [.Name z' p3] X.env)(s4:starEach [.Name z' p3] X.env=(false,eval (.Name z' p3) X.env)::starEach [] X.env)
  (i3:(backTo pos (starEach [.Tuple [.Name z p2,.Name z' p3] kk p4] X.env)).any (·.1)=false):
  PX X (.Call (.Name "isinstance" p) [e,.Tuple [.Name z p2,.Name z' p3] kk p4] [] pos) (iV (ni [t,t']) fa):=by
 have hc:iP X (.builtin "isinstance") (fun xs H Q=> ∃(O:AP') (d:D) (x:V) (q:fM),xs=[x,.ref q]/\H q=some (.tup [.ty t.n,.ty t'.n])/\ik X.K H O d x/\Q (.bl ([t,t'].any (isT d))) H):=by
  intro pins s σ H xs us Q I r h;obtain⟨O,d,x,q,rfl,hq,hd,k⟩:=h;obtain⟨u,w',rfl,ru,aJ⟩:=pF r;cases aJ;obtain⟨_,b6,v1,o,h1,h2,n,h3⟩:=I.hok q _ hq;obtain⟨u1,u2,rfl,r1,r2⟩:=pF v1;cases r1;cases r2;obtain⟨cls,dd,dt,sl⟩:=o;simp only at h2 h3;subst h2;subst h3;exact KQ (ts:=[t,t']) I hd ru h1 fun tk=>⟨.bl _,H,I.tok _,rfl,k⟩
 refine PX.imp (ou hc hg hm hv (jg ha (jg (C9 (jg (qc (v:= .ty t.n) aU dq hz rfl hn j4) (jg (qc (v:= .ty t'.n) cD hmz' dI rfl cA cH) lK s4) s3)) lK s2) s1) (by decide) (by decide) s1 i3) fun σ H Q hw=>?_;obtain⟨δ,T,rr,δ',E,e,k⟩:=hw;obtain⟨⟨o,δ1⟩,h1,e⟩:=fL e;obtain⟨x,h2,e⟩:=fL e;obtain⟨zz,h3,e⟩:=fL e;cases h3;obtain⟨rfl,rfl⟩:=fY e;refine⟨δ,T,o,δ1,E,h1,fun v H1 P1=>⟨by show 2<=sizeLine;decide,fun q hq=>?_⟩⟩;have B:=Ops.cons E P1 (Ops.nil (P1.er E));have hx:=jw (o:= .tup [.ty t.n,.ty t'.n]) hq;have vw:=B.view (j:=0) rfl rfl h2;refine⟨fun a=>OwnA σ δ1 a\/T a,x,v,q,rfl,gA,?_,?_⟩
 ·rcases vw with vw|⟨a,rfl,vw⟩
  ·exact .inl (Rep.mono (fun b o e _=>hx b o e) (fun _ _ z=>z) vw)
  ·exact .inr ⟨a,rfl,vw.mono (fun b o e _=>hx b o e) (fun _ _ z=>z) fun o e=>hx a o e⟩
 ·exact(B.done k) _ _ hx Rep.mkBl
end
noncomputable def kS:List D->Option (List Bool)
 |[]=>some []
 | .bl b::l=>(kS l).map (b:: ·)
 |_::_=>none
noncomputable def wM:D->Option (D×Bool)
 | .lst l=>(kS l).map fun bs=>(.bl (bs.all id),false)
 |_=>none
theorem pN{K H}{O:AP'}: ∀{l:List D} {bs:List Bool} {xs:List V} {b6:gJ},kS l=some bs->RepL K H O l xs->Vals xs b6->LSm.BoolsAre b6 bs
 |[],bs,xs,b6,h,r,v=>by
  cases h;rw[RepL] at r;subst r;cases v;exact .nil
 | .bl b::l,bs,xs,b6,h,r,v=>by
  obtain⟨bs',h1,rfl⟩:=gD h;rw[RepL] at r;obtain⟨x,xr,rfl,r1,r2⟩:=r;have:=r1.bl;subst this
  cases v with
  |cons a c=>cases a;exact .cons b (pN h1 r2 c)
 | .non::l,_,_,_,h,_,_=>by cases h
 | .int _::l,_,_,_,h,_,_=>by cases h
 | .str _::l,_,_,_,h,_,_=>by cases h
 | .tup _::l,_,_,_,h,_,_=>by cases h
 | .lst _::l,_,_,_,h,_,_=>by cases h
 | .oth _ _ _::l,_,_,_,h,_,_=>by cases h
section
variable {X:Cx}
theorem va{h h':fZ}{o:Obj}(hk: ∀b x,b∉[h.objs.size]->(h.push o).get? b=some x->h'.get? b=some x)(b:fM)(x:Obj)(e:h.get? b=some x):h'.get? b=some x:=
 hk b x (fun z=>by have:=ma.mp z;subst this;exact absurd (gZ e) (mn _)) (hW _ e)
theorem tK(hc:X.calm=true):iP X (.builtin "all") (rDn X.K (g1 wM)):=oZ fun pins s σ H x u Q O d z I ru np hd hg G=>by
 cases d with
 |lst l=>
  obtain⟨bs,hb,rfl⟩:=gD hg;obtain⟨p,xs,rfl,q,r⟩:=jc hd;cases ru;obtain⟨b6,v,pl,_⟩:=I.list q;have are:=pN hb r v;have hh:X.A.in1.handled=none:=I.ok.hd hc;have plt:p<s.heap.objs.size:=by obtain⟨_,e,_⟩:=pl.isList;exact gZ e
  refine call_all_walk (yk pl.isList ⟨s.heap.objs.size,[s.heap.objs.size,p],[s.heap.objs.size],b6.toArray.size,_,_,fun i=>(bs[i]?).getD true,rfl,Walks.list hh _ p (ig plt) b6.toArray,
   ⟨⟨_,iY _ rfl,rfl,rfl⟩,pl.isList.push _⟩,fun i w s' Q' E' hP hQ=>?_,fun h' tk hk=>?_⟩)
  ·obtain⟨b,e,rfl⟩:=are.get i w (by simpa using hP);dsimp only at hQ;rw[e] at hQ;exact mm hQ
  ·rw[iA,are.length,LSm.range_all];exact⟨.bl _,H,I.kept (va hk),rfl,G.bl⟩
 |_=>cases hg
noncomputable def DD:=gI fun i j=>some (.int (if j>i then j else i))
noncomputable def DC:=gI fun i j=>some (.int (if j<i then j else i))
theorem zj(hc:X.calm=true):iP X (.builtin "max") (rDn X.K (g2 DD)):=DX fun pins s σ H x y us Q O d e z I r np h1 h2 hg G=>by
 obtain⟨i,j,w,rfl,rfl,hf,rfl⟩:=qf hg;cases hf;exact Bj hc pins s σ H [x,y] us Q I r ⟨i,j,by rw[gg h1,gg h2],G.int⟩
theorem zi(hc:X.calm=true):iP X (.builtin "min") (rDn X.K (g2 DC)):=DX fun pins s σ H x y us Q O d e z I r np h1 h2 hg G=>by
 obtain⟨i,j,w,rfl,rfl,hf,rfl⟩:=qf hg;cases hf;exact Bi hc pins s σ H [x,y] us Q I r ⟨i,j,by rw[gg h1,gg h2],G.int⟩
theorem qX{lo:Int}{n:Nat}{acc:jR}(h:ItemsOf (fun i v=> ∃t,v= .int (lo+(i:Int)*1) t) acc n):Vals ((List.range n).map fun(k:Nat)=>V.int (lo+k)) acc.toList:=by
 have key: ∀(l:gJ) (m:Nat),(∀(j:Nat) v,l[j]?=some v-> ∃t,v= .int (lo+((m+j:Nat):Int)) t)->Vals ((List.range' m l.length).map fun(k:Nat)=>V.int (lo+k)) l:=by
  intro l
  induction l with
  |nil=>intro m _;exact .nil
  |cons v l ih=>
   intro m hv;obtain⟨t,e⟩:=hv 0 v rfl;refine .cons ⟨t,by simpa using e⟩ (ih (m+1) fun j w hw=>?_);obtain⟨t',e'⟩:=hv (j+1) w (by simpa using hw);exact⟨t',by rw[e'];congr 2;first|done|omega⟩
 have:=key acc.toList 0 fun j v hv=>by
  obtain⟨t,e⟩:=h.2 j v (by simpa using hv);exact⟨t,by rw[e];congr 1⟩
 rw[sH,h.1,<-List.range_eq_range'] at this;exact this
theorem yD{K H}(lo:Int)(n:Nat):RepL K H O (ji lo n) ((List.range n).map fun(k:Nat)=>V.int (lo+k)):=by
 unfold ji
 induction(List.range n) with
 |nil=>exact RepL.nil
 |cons k l ih=>exact RepL.cons Rep.mkInt ih
end
def RgOk(lo hi:Int):Prop:= -(2^62)<=lo/\lo<2^62/\ -(2^62)<=hi/\hi<2^62/\(hi-lo).toNat<=2^24
instance(lo hi:Int):Decidable (RgOk lo hi):=by unfold RgOk;infer_instance
noncomputable def rgV(lo hi:Int):List V:=(List.range (hi-lo).toNat).map fun(k:Nat)=>V.int (lo+k)
theorem RgOk.small{lo hi:Int}(h:RgOk lo hi):Builtin.Range.small lo hi 1=true:=small_one h.1 h.2.1 h.2.2.1 h.2.2.2.1
theorem zP(lo hi:Int):Builtin.Range.rangeSize lo hi 1=((hi-lo).toNat:Nat):=by rw[rangeSize_one];split<;>omega
section
variable {prog:gi}{w:gd}{A:gc}{E:gw}{s:fQ}
theorem zh{Q:List Value->Shared->Prop}{r:fM}{lo hi:Int}{t u v:Tok}(hh:A.handled=none)(hr:IsRange s.heap r lo hi 1 t u v)(ok:RgOk lo hi)
  (hQ: ∀(h':fZ) tk (acc:jR),(∀b o,s.heap.get? b=some o->h'.get? b=some o)->ItemsOf (fun i v=> ∃t,v= .int (lo+(i:Int)*1) t) acc (hi-lo).toNat->Q acc.toList {s with heap:=h',toks:=tk}):
  wpAny (model prog w) A (collect (.ref r)) Q E s:=by
 unfold collect;refine fU (wpAny_runValue (uo F.entry_proto_collect ?_));rw[xQ F.plain_proto_collect _];refine fU (m:=newList []) (ny ?_);refine gv ⟨plainId_quiet F.plain_list_iadd _,uo F.entry_list_iadd ?_⟩;rw[xQ F.plain_list_iadd _];have e0:=iY s.heap (o:=({cls:= .type "list",data:= .seq ([]:List Value).toArray}:Obj)) rfl
 let R:Result->Shared->Prop:=fun r s'=> ∃(h':fZ) (tk:Nat) (acc:jR) (c':Nat),r= .ok (.ret (.ref s.heap.objs.size))/\s'={s with heap:=h',toks:=tk}/\(∀b o,s.heap.get? b=some o->h'.get? b=some o)/\
  h'.get? s.heap.objs.size=some {cls:= .type "list",dict:=none,data:= .seq acc c',slots:= #[]}/\ItemsOf (fun i v=> ∃t,v= .int (lo+(i:Int)*1) t) acc (hi-lo).toNat
 have fin: ∀{r s'},R r s'-> ∃v,r= .ok (.ret v)/\wpAny (model prog w) A (match v with
   |Value.ref a=>do
    match(<-load a).data with
     |Data.seq xs _=>pure xs.toList
     |_=>unsupported "internal:collect"
   |_=>unsupported "internal:collect") Q E s':=fun {r s'} hR=>by
  obtain⟨h',tk,acc,c',rfl,rfl,hk,fA,y8⟩:=hR;exact⟨_,rfl,fU (m:=load s.heap.objs.size) (wpAny_load fA (gv (hQ h' tk acc hk y8)))⟩
 refine ky (wpAny_extend_range (A:=A) (R:=R) (s:={s with heap:=s.heap.push {cls:= .type "list",data:= .seq ([]:List Value).toArray}}) hh (hW _ hr) ok.small (zP lo hi) ok.2.2.2.2 _ _ 0 e0 fun h' tk u9 c' hk fA y8=>
  ⟨h',tk,u9,c',rfl,rfl,fun b o e=>hk b o (ig (gZ e)) (hW _ e),fA,y8⟩) (fun f s' h=>?_) (fun e s' h=>?_)
 ·cases f with
  |done f=>
   obtain⟨v,hv,h2⟩:=fin h;cases hv;exact h2
  |again c'=>exact⟨h.1,pA h.2 fun r y9 hr=>by obtain⟨v,rfl,h2⟩:=fin hr;exact h2⟩
 ·obtain⟨v,hv,_⟩:=fin h;cases hv
theorem uE{Q₁:gw}{r:fM}{lo hi:Int}{t u v:Tok}(hh:A.handled=none)(hr:IsRange s.heap r lo hi 1 t u v)(ok:RgOk lo hi)
  (h: ∀(h':fZ) tk (acc:jR),(∀b o,s.heap.get? b=some o->h'.get? b=some o)->ItemsOf (fun i v=> ∃t,v= .int (lo+(i:Int)*1) t) acc (hi-lo).toNat->Q₁ (.ref h'.objs.size) {s with heap:=h'.push {cls:= .type "tuple",data:= .seq acc},toks:=tk}):
  codeAny (model prog w) A (.call (.builtin "tuple.__new__") ⟨[.type "tuple",.ref r],[]⟩) (wants Q₁ E) s:=by
 refine xX ?_;refine fU (m:=checkBuiltinCall "tuple.__new__" _) (xS (F.newCall_tuple_1 _) (gv ⟨plainId_quiet F.plain_tuple_new _,uo F.entry_tuple_new ?_⟩));rw[xQ F.plain_tuple_new _];have hsub:=sub_tuple_self;have hinit:=init_tuple_lookup;have hmh:=madeHere_tuple;have t9:s.TypeIs (.ref r) "range":=⟨_,hr,rfl⟩
 have hh1:A.in1.handled=none:=hh
 wp_walk using uq t9,zh hh1 hr ok
 intro h' tk acc hk y8;have hz:acc.size<=sizeLine:=by rw[y8.1,ml];have:=ok.2.2.2.2;omega
 refine fU (m:=Builtin.Tuple.tupleExact acc.toList.toArray) ?_;unfold Builtin.Tuple.tupleExact;refine ny ?_ (by show acc.toList.toArray.size<=sizeLine;simpa using hz);refine gv ?_;have e:acc.toList.toArray=acc:=by simp
 rw[e];exact h h' tk acc hk y8
theorem sf{Q:gw}{r:fM}{lo hi:Int}{t u v:Tok}(hh:A.handled=none)(hr:IsRange s.heap r lo hi 1 t u v)(ok:RgOk lo hi)
  (h: ∀(h':fZ) tk (acc:jR),(∀b o,s.heap.get? b=some o->h'.get? b=some o)->ItemsOf (fun i v=> ∃t,v= .int (lo+(i:Int)*1) t) acc (hi-lo).toNat->Q (.ref h'.objs.size) {s with heap:=h'.push {cls:= .type "tuple",data:= .seq acc},toks:=tk}):
  wpAny (model prog w) A (call (.type "tuple") [.ref r]) Q E s:=by
 refine callType_codes (Q₁:=fun obj s₁=>s₁.TypeIs obj "tuple"/\Q obj s₁) D5 (F.typeCall_tuple_1 _) F.entry_object_init
  (uE hh hr ok fun h' tk acc hm y8=>⟨⟨_,iY _ rfl,rfl⟩,h h' tk acc hm y8⟩) fun obj s₁ h₁=>?_
 exact⟨h₁.1,BF obj _,object_init_meets D5.init.lookup D5.made (by decide) prog w A.in1 _ s₁ ⟨h₁.1,rfl,h₁.2⟩⟩
end
section
variable {X:Cx}
theorem tH:iP X (.type "range") (fun xs H Q=> ∃i j,xs=[.int i,.int j]/\ ∀r,H r=none->Q (.ref r) (upd H r (.rng i j))):=by
 intro pins s σ H xs us Q I r h;obtain⟨i,j,rfl,h⟩:=h;obtain⟨u,u',rfl,⟨t,rfl⟩,⟨t',rfl⟩⟩:=pF r;exact call_range_2 ⟨.ref _,_,I.laid (o:= .rng i j) (fun b o e=>hW _ e) (gO _) ⟨_,_,_,iY _ rfl⟩,rfl,h _ I.fresh⟩
theorem sg(hc:X.calm=true):iP X (.type "list") (fun xs H Q=> ∃r lo hi,xs=[.ref r]/\H r=some (.rng lo hi)/\RgOk lo hi/\ ∀l,H l=none->Q (.ref l) (upd H l (.lst (rgV lo hi)))):=by
 intro pins s σ H xs us Q I cY h;obtain⟨r,lo,hi,rfl,hr,ok,h⟩:=h;obtain⟨u,rfl,ru⟩:=pG cY;cases ru;obtain⟨t,u,v,er⟩:=I.hok r _ hr;refine call_list_range (A:=X.A) (I.ok.hd hc) er ok.small (zP lo hi) ok.2.2.2.2 fun h' tk acc c kp e items=>?_;have rv:=qX items;refine⟨.ref _,_,I.laid kp (gO _) (show ObjOk X.prog X.w _ _ _ (.lst (rgV lo hi)) from⟨?_,acc.toList,c,rv,by simpa using e⟩),rfl,h _ I.fresh⟩;have:=ok.2.2.2.2;simp only[rgV,nv,List.length_range,ml];omega
theorem rN(hc:X.calm=true):iP X (.type "tuple") (fun xs H Q=> ∃r lo hi,xs=[.ref r]/\H r=some (.rng lo hi)/\RgOk lo hi/\ ∀l,H l=none->Q (.ref l) (upd H l (.tup (rgV lo hi)))):=by
 intro pins s σ H xs us Q I cY h;obtain⟨r,lo,hi,rfl,hr,ok,h⟩:=h;obtain⟨u,rfl,ru⟩:=pG cY;cases ru;obtain⟨t,u,v,er⟩:=I.hok r _ hr;refine sf (A:=X.A) (I.ok.hd hc) er ok fun h' tk acc kp items=>?_;have rv:=qX items;have I1:Inv X pins σ H {s with heap:=h',toks:=tk}:=I.kept kp;refine⟨.ref _,_,I1.laid (fun b o e=>hW _ e) (gO _) (show ObjOk X.prog X.w _ _ _ (.tup (rgV lo hi)) from⟨?_,acc.toList,rv,by have:=qF h' acc;simpa using this⟩),rfl,h _ I1.fresh⟩;have:=ok.2.2.2.2;simp only[rgV,nv,List.length_range,ml];omega
noncomputable def gRg(mk:List D->D)(o:Bool):List D->Option (D×Bool)
 |[.int j]=>if RgOk 0 j then some (mk (ji 0 j.toNat),o) else none
 |[.int i,.int j]=>if RgOk i j then some (mk (ji i (j-i).toNat),o) else none
 |_=>none
theorem zQ{K H}(lo hi:Int):RepL K H O (ji lo (hi-lo).toNat) (rgV lo hi):=yD lo _
variable {a b:fV}{fa fb:FO}{p p2 pos bw:Pos}
theorem vU(h:upd H r o l=none):H l=none:=by
 by_cases e:l=r
 ·subst e;rw[gA] at h;cases h
 ·rwa [gu e] at h
theorem tU{K:fX}{T T':AP'}{σ:L2.St}{δ δ':Dn}{H H':Hp}{os:List Opd}{vs:List V}{ds:List D}(B:Ops K T σ δ H os vs δ' H' T')(h:nI δ' os=some ds){is:nQ}(hd:ds=is.map .int):vs=is.map .int:=by
 obtain⟨h1,h2⟩:=jU h;apply qy;intro j;by_cases hj:j<is.length
 ·rw[mP B h (j:=j) (i:=is[j]) (by rw[hd];simp[hj])];simp[hj]
 ·have l1:=B.len;subst hd;simp at h1;rw[um (by omega),um (by simp;omega)]
theorem GG{T:String}{z:Str}{mk:List D->D}{o:Bool}(hT:(T="list"/\mk= .lst/\o=true)\/(T="tuple"/\mk= .tup/\o=false))(hc:X.calm=true)(hg:Gl X z)(hm:X.mg z=none)(hv:bootBuiltins z=some (.type T))(hn:z≠"__name__")(j4:(z==("__debug__":Str))=false)
  (dQ:Gl X "range")(cB:X.mg "range"=none)(ha:PA X [a,b] (tA X.K [fa,fb]))
  (s1:starEach [.Call (.Name "range" p2) [a,b] [] bw] X.env=(false,eval (.Call (.Name "range" p2) [a,b] [] bw) X.env)::starEach [] X.env)(s2:starEach [a,b] X.env=(false,eval a X.env)::starEach [b] X.env)
  (i3:(backTo pos (starEach [] X.env)).any (·.1)=false)(bG:(backTo bw (starEach [b] X.env)).any (·.1)=false):
  PX X (.Call (.Name z p) [.Call (.Name "range" p2) [a,b] [] bw] [] pos) (hV (gRg mk o) [fa,fb]):=by
 have len2: ∀{δ δ1:Dn} {os:List Opd},gY [fa,fb] δ=some (os,δ1)->os.length=2:=fun {δ δ1 os} h1=>by
  unfold gY at h1;obtain⟨p,q1,h1⟩:=fL h1;obtain⟨q,q2,h1⟩:=fL h1;unfold gY at q2;obtain⟨p3,q3,q2⟩:=fL q2;obtain⟨q4,q5,q2⟩:=fL q2;unfold gY at q5;cases q5;obtain⟨rfl,rfl⟩:=fY h1;cases q2;rfl
 rcases hT with⟨rfl,rfl,rfl⟩|⟨rfl,rfl,rfl⟩
 ·refine PX.imp (ly (sg hc) hg hm hv (jg (ly tH dQ cB ux ha (by decide) (by decide) s2 bG) lK s1) hn j4 s1 i3) fun σ H Q hw=>?_;obtain⟨δ,T,rr,δ',E,e,k⟩:=hw;obtain⟨⟨os,δ1⟩,h1,e⟩:=fL e;obtain⟨ds,h2,e⟩:=fL e;obtain⟨zz,h3,e⟩:=fL e;obtain⟨rfl,rfl⟩:=fY e;refine⟨δ,T,os,δ1,E,h1,fun vs H1 T1 B=>?_⟩;unfold gRg at h3;split at h3
  ·obtain⟨hl,_⟩:=jU h2;have:=len2 h1;simp at hl;omega
  ·rename_i i j;obtain⟨ok,rfl⟩:=gy h3;refine⟨i,j,tU B h2 (is:=[i,j]) rfl,fun r hr=>⟨r,i,j,rfl,gA,ok,fun l hl=>?_⟩⟩;have hx: ∀a u,H1 a=some u->upd (upd H1 r (.rng i j)) l (.lst (rgV i j)) a=some u:=fun a u e=>jw hl a u (jw hr a u e);exact(B.done k) l _ (vU hl) hx ⟨rgV i j,gA,zQ i j⟩
  ·cases h3
 ·refine PX.imp (ly (rN hc) hg hm hv (jg (ly tH dQ cB ux ha (by decide) (by decide) s2 bG) lK s1) hn j4 s1 i3) fun σ H Q hw=>?_;obtain⟨δ,T,rr,δ',E,e,k⟩:=hw;obtain⟨⟨os,δ1⟩,h1,e⟩:=fL e;obtain⟨ds,h2,e⟩:=fL e;obtain⟨zz,h3,e⟩:=fL e;obtain⟨rfl,rfl⟩:=fY e;refine⟨δ,T,os,δ1,E,h1,fun vs H1 T1 B=>?_⟩;unfold gRg at h3;split at h3
  ·obtain⟨hl,_⟩:=jU h2;have:=len2 h1;simp at hl;omega
  ·rename_i i j;obtain⟨ok,rfl⟩:=gy h3;refine⟨i,j,tU B h2 (is:=[i,j]) rfl,fun r hr=>⟨r,i,j,rfl,gA,ok,fun l hl=>?_⟩⟩;have hx: ∀a u,H1 a=some u->upd (upd H1 r (.rng i j)) l (.tup (rgV i j)) a=some u:=fun a u e=>jw hl a u (jw hr a u e);exact(B.done k) _ _ hx (Rep.mkTup ⟨gA,B.np (nOw (vU hl))⟩ (zQ i j))
  ·cases h3
end
def Src(h:fZ)(it l:fM)(i:Nat)(xs:jR):Prop:=(h.IsListIter it l i/\h.IsList l xs)\/(h.IsTupleIter it l i/\h.IsTuple l xs)
section
variable {prog:gi}{w:gd}{A:gc}{E:gw}{s:fQ}{it l:fM}{i:Nat}{xs:jR}
theorem Src.ne(x:Src h it l i xs):l≠it:=by
 intro e;subst e;rcases x with⟨⟨o,h1,h2,h3⟩,o',g1,g2,n,g3⟩|⟨⟨o,h1,h2,h3⟩,o',g1,g2,n,g3⟩<;>(rw[h1] at g1;cases g1;rw[h3] at g3;cases g3)
theorem Src.lt(x:Src h it l i xs):it<h.objs.size/\l<h.objs.size:=by
 rcases x with⟨⟨o,h1,_⟩,o',g1,_⟩|⟨⟨o,h1,_⟩,o',g1,_⟩<;>exact⟨gZ h1,gZ g1⟩
theorem Src.keep(x:Src h it l i xs)(k1: ∀o,h.get? it=some o->h'.get? it=some o)(k2: ∀o,h.get? l=some o->h'.get? l=some o):Src h' it l i xs:=by
 rcases x with⟨⟨o,h1,r⟩,o',g1,r'⟩|⟨⟨o,h1,r⟩,o',g1,r'⟩
 ·exact .inl ⟨⟨o,k1 _ h1,r⟩,o',k2 _ g1,r'⟩
 ·exact .inr ⟨⟨o,k1 _ h1,r⟩,o',k2 _ g1,r'⟩
theorem qQ{x:fW}{Q:gw}(hit:s.heap.IsTupleIter it l i)(hl:s.heap.IsTuple l xs)(hx:xs[i]?=some x)
  (hQ: ∀h',h'.IsTupleIter it l (i+1)->Heap.SameBut it s.heap h'->Q x {s with heap:=h'}):wpAny (model prog w) A (Builtin.SmallTypes.nextOf (.ref it)) Q E s:=by
 obtain⟨o,ho,hc,hd⟩:=id hit;obtain⟨ol,eK,_,nl,aV⟩:=hl;unfold Builtin.SmallTypes.nextOf;refine fU (pv (name:=Str.ofString "__next__") hit.typeIs uk (nX uk hit.typeIs BE ?_ (BD _)));refine fU (m:=field (.ref it) 0) (js ho hd (x:= .ref l) rfl ?_);show wpAny _ _ (if(Value.ref l==Value.none)=true then _ else _) _ _ s;rw[gk (by show ¬(Value.ref l==Value.none)=true;exact jb)];refine fU (m:=field (.ref it) 1) (js ho hd (x:= .int i 0) rfl ?_);refine fU (m:=seqItems? (.ref l)) (pk eK aV ?_);simp only[Int.toNat_natCast,hx];refine fU (wpAny_setField ho hd (by simp) (gv ⟨x,rfl,gv (hQ _ ⟨_,BN _ ho (Obj.isFreed_of_fields (Obj.data_mapFields hd _)),(Obj.cls_mapFields ..).trans hc,?_⟩ (BC ..))⟩));rw[Obj.data_mapFields hd];simp[rawInt]
theorem rW{Q:gw}(hh:A.handled=none)(hit:s.heap.IsTupleIter it l i)(hl:s.heap.IsTuple l xs)(hx:xs[i]?=none)
  (hE: ∀h' e,Heap.ExtBut it s.heap h'->(∃o,h'.get? e=some o/\o.cls= .type "StopIteration")->E (.ref e) {s with heap:=h'}):wpAny (model prog w) A (Builtin.SmallTypes.nextOf (.ref it)) Q E s:=by
 obtain⟨o,ho,hc,hd⟩:=id hit;obtain⟨ol,eK,_,nl,aV⟩:=hl;unfold Builtin.SmallTypes.nextOf;refine fU (pv (name:=Str.ofString "__next__") hit.typeIs uk (nX uk hit.typeIs BE ?_ (BD _)));refine fU (m:=field (.ref it) 0) (js ho hd (x:= .ref l) rfl ?_);show wpAny _ _ (if(Value.ref l==Value.none)=true then _ else _) _ _ s;rw[gk (by show ¬(Value.ref l==Value.none)=true;exact jb)];refine fU (m:=field (.ref it) 1) (js ho hd (x:= .int i 0) rfl ?_);refine fU (m:=seqItems? (.ref l)) (pk eK aV ?_);simp only[Int.toNat_natCast,hx];refine fU (pD (fU (wpAny_setField ho hd (by simp) ?_)));refine fU (m:=newExc (.type "StopIteration") []) ?_;simp only[newExc,newTuple];refine fU (ny (fU (m:=firstArgMember _ _) (xS (a:=Value.none) (by first|rfl|(simp only[firstArgMember];rfl)) ?_)) (by size_fits));refine ny ?_ (by size_fits);simp only[raiseNew];refine fU (wpAny_handled ?_)
 first|rw[show A.in1.handled=none from hh]|rw[hh]
 exact fU (gv (wpAny_throw (hE _ _ (((BC ..).extBut.push _).push _) ⟨_,iY _ rfl,rfl⟩)))
theorem Src.item{x:fW}{Q:gw}(st:Src s.heap it l i xs)(hx:xs[i]?=some x)(hQ: ∀h',Src h' it l (i+1) xs->Heap.SameBut it s.heap h'->Q x {s with heap:=h'}):
  wpAny (model prog w) A (Builtin.SmallTypes.nextOf (.ref it)) Q E s:=by
 have ne:=st.ne;rcases st with⟨a,b⟩|⟨a,b⟩
 ·exact wpAny_nextOf_list_item a b hx fun h' a' sb=>hQ h' (.inl ⟨a',b.extBut sb.extBut ne⟩) sb
 ·exact qQ a b hx fun h' a' sb=>hQ h' (.inr ⟨a',b.extBut sb.extBut ne⟩) sb
theorem Src.stop{Q:gw}(hh:A.handled=none)(st:Src s.heap it l i xs)(hx:xs[i]?=none)
  (hE: ∀h' e,Heap.ExtBut it s.heap h'->(∃o,h'.get? e=some o/\o.cls= .type "StopIteration")->E (.ref e) {s with heap:=h'}):wpAny (model prog w) A (Builtin.SmallTypes.nextOf (.ref it)) Q E s:=by
 rcases st with⟨a,b⟩|⟨a,b⟩
 ·exact wpAny_nextOf_list_end hh a b hx hE
 ·exact rW hh a b hx hE
theorem Src.new(hl:s.heap.IsList l xs\/s.heap.IsTuple l xs)(hQ: ∀h',Src h' s.heap.objs.size l 0 xs->h'.objs.size=s.heap.objs.size+1->(∀b o,s.heap.get? b=some o->h'.get? b=some o)->Q (.ref s.heap.objs.size) {s with heap:=h'}):
  wpAny (model prog w) A (pyIter (.ref l)) Q E s:=by
 rcases hl with hl|hl
 ·exact yk hl (hQ _ (.inl ⟨⟨_,iY _ rfl,rfl,rfl⟩,hl.push _⟩) (nV ..) fun b o e=>hW _ e)
 ·exact wpAny_pyIter_tuple hl (hQ _ (.inr ⟨⟨_,iY _ rfl,rfl,rfl⟩,hl.push _⟩) (nV ..) fun b o e=>hW _ e)
end
section
variable {prog:gi}{w:gd}{A:gc}{E:gw}{s:fQ}{e it l:fM}{i:Nat}{c:Int}{xs:jR}
theorem Bg{x old:fW}{Q:gw}(he:IsEnum s.heap e it c old)(st:Src s.heap it l i xs)(hx:xs[i]?=some x)(ai:e≠it)(dk:e≠l)
  (hQ: ∀h',IsEnumOut h' e it (c+1) x s.heap.objs.size->Src h' it l (i+1) xs->h'.get? s.heap.objs.size=some {cls:= .type "tuple",data:= .seq #[.int c s.toks,x]}->h'.objs.size=s.heap.objs.size+1->
   (∀b o,b≠e->b≠it->s.heap.get? b=some o->h'.get? b=some o)->Q (.ref s.heap.objs.size) {s with heap:=h',toks:=s.toks+1}):
  wpAny (model prog w) A (Builtin.«enumerate.__next__» ⟨[.ref e],[]⟩) (fun fin s'=> ∃v,fin= .done (.ret v)/\Q v s') E s:=by
 obtain⟨hp,g,d,tk,os⟩:=s;refine fU (m:=field (.ref e) 2) (js he rfl (x:= .ref it) rfl (fU (st.item hx fun h₁ st₁ t4=>?_)));replace t4:Heap.SameBut it hp h₁:=t4;have eZ:IsEnum h₁ e it c old:=(t4.2 e ai).trans he;refine fU (m:=field (.ref e) 3) (js (s:=⟨h₁,g,d,tk,os⟩) eZ rfl (x:=rawInt c) rfl ?_);refine fU (m:=field (.ref e) 4) (js (s:=⟨h₁,g,d,tk,os⟩) eZ rfl (x:= .none) rfl ?_);refine fU (m:=mkInt c) (wpAny_mkInt (s:=⟨h₁,g,d,tk,os⟩) ?_);refine fU (m:=setField (.ref e) 3 (rawInt (c+1))) (mh (s:=⟨h₁,g,d,tk+1,os⟩) eZ (by simp) fun h₂ eY r9=>?_);replace r9:Heap.SameBut e h₁ h₂:=r9;replace eY:IsEnum h₂ e it (c+1) old:=eY;refine fU (m:=setField (.ref e) 4 .none) (mh (s:=⟨h₂,g,d,tk+1,os⟩) eY (by simp) fun h₃ eX r8=>?_);replace r8:Heap.SameBut e h₂ h₃:=r8;replace eX:IsEnum h₃ e it (c+1) old:=eX;refine fU (m:=newTuple [.int c tk,x]) (xP (s:=⟨h₃,g,d,tk+1,os⟩) ?_);have aD:h₃.objs.size=hp.objs.size:=by rw[r8.1,r9.1,t4.1]
 have dR:IsEnum (h₃.push {cls:= .type "tuple",data:= .seq #[.int c tk,x]}) e it (c+1) old:=hW _ eX;have hel:e<hp.objs.size:=gZ he;have ht₄:(h₃.push {cls:= .type "tuple",data:= .seq #[.int c tk,x]}).get? hp.objs.size=some {cls:= .type "tuple",data:= .seq #[.int c tk,x]}:=by rw[<-aD];exact iY _ rfl
 have up: ∀b o,b≠e->b≠it->hp.get? b=some o->(h₃.push {cls:= .type "tuple",data:= .seq #[.int c tk,x]}).get? b=some o:=fun b o b1 b2 q=>hW _ (r8.extBut b o b1 (r9.extBut b o b1 (t4.extBut b o b2 q)));have st₄:Src (h₃.push {cls:= .type "tuple",data:= .seq #[.int c tk,x]}) it l (i+1) xs:=st₁.keep (fun o q=>hW _ (r8.extBut _ o ai.symm (r9.extBut _ o ai.symm q))) (fun o q=>hW _ (r8.extBut _ o dk.symm (r9.extBut _ o dk.symm q)));have df:(h₃.push {cls:= .type "tuple",data:= .seq #[.int c tk,x]}).objs.size=hp.objs.size+1:=by rw[nV,aD]
 rw[aD];generalize (h₃.push {cls:= .type "tuple",data:= .seq #[.int c tk,x]})=h₄ at dR ht₄ up st₄ df;refine fU (m:=Builtin.SmallTypes.ownedTupleIsFree (.ref e)) ?_;unfold Builtin.SmallTypes.ownedTupleIsFree;refine fU (js (s:=⟨h₄,g,d,tk+1,os⟩) dR rfl (x:= .none) rfl (gv ?_));simp only[gQ];refine fU (pD (fU (js (s:=⟨h₄,g,d,tk+1,os⟩) dR rfl (x:=old) rfl (fU (mh (s:=⟨h₄,g,d,tk+1,os⟩) dR (by simp) fun h₅ eW ae=>?_)))));replace ae:Heap.SameBut e h₄ h₅:=ae;replace eW:IsEnum h₅ e it (c+1) x:=eW;refine fU (m:=Builtin.SmallTypes.ownedTupleHandOut (.ref e) (.ref hp.objs.size)) ?_;unfold Builtin.SmallTypes.ownedTupleHandOut;refine fU (mh (s:=⟨h₅,g,d,tk+1,os⟩) eW (by simp) fun h₆ eV dB=>?_);replace dB:Heap.SameBut e h₅ h₆:=dB;replace eV:IsEnumOut h₆ e it (c+1) x hp.objs.size:=eV;refine mh (s:=⟨h₆,g,d,tk+1,os⟩) eV (by simp) fun h₇ eU bZ=>?_;replace bZ:Heap.SameBut e h₆ h₇:=bZ;replace eU:IsEnumOut h₇ e it (c+1) x hp.objs.size:=eU;have all: ∀b o,b≠e->h₄.get? b=some o->h₇.get? b=some o:=fun b o b1 q=>bZ.extBut b o b1 (dB.extBut b o b1 (ae.extBut b o b1 q));refine fU (uj (gv ⟨_,rfl,hQ h₇ eU (st₄.keep (fun o q=>all _ o ai.symm q) fun o q=>all _ o dk.symm q) (all _ _ (kx hel) ht₄) ?_ fun b o b1 b2 q=>all b o b1 (up b o b1 b2 q)⟩));rw[bZ.1,dB.1,ae.1,df]
theorem oS{x old:fW}{Q:zq}(he:IsEnum s.heap e it c old)(st:Src s.heap it l i xs)(hx:xs[i]?=some x)(ai:e≠it)(dk:e≠l)
  (hQ: ∀h',IsEnumOut h' e it (c+1) x s.heap.objs.size->Src h' it l (i+1) xs->h'.get? s.heap.objs.size=some {cls:= .type "tuple",data:= .seq #[.int c s.toks,x]}->h'.objs.size=s.heap.objs.size+1->
   (∀b o,b≠e->b≠it->s.heap.get? b=some o->h'.get? b=some o)->Q (some (.ref s.heap.objs.size)) {s with heap:=h',toks:=s.toks+1}):
  wpAny (model prog w) A (pyNext (.ref e)) Q E s:=by
 have hT:s.TypeIs (.ref e) "enumerate":=⟨_,he,rfl⟩
 unfold pyNext
 exact fU (qi (pv (name:=Str.ofString "__next__") hT ui (nX ui hT Bz
  (Bg he st hx ai dk fun h' a b c d k=>gv (hQ h' a b c d k)) (By _))))
theorem pU{old:fW}{Q:zq}(hh:A.handled=none)(he:IsEnum s.heap e it c old)(st:Src s.heap it l i xs)(hx:xs[i]?=none)
  (hQ: ∀h',Heap.ExtBut it s.heap h'->Q none {s with heap:=h'}):wpAny (model prog w) A (pyNext (.ref e)) Q E s:=by
 have hT:s.TypeIs (.ref e) "enumerate":=⟨_,he,rfl⟩
 unfold pyNext;refine fU (qi (pv (name:=Str.ofString "__next__") hT ui (nX ui hT Bz ?_ (By _))));refine fU (m:=field (.ref e) 2) (js he rfl (x:= .ref it) rfl (fU (st.stop hh hx fun h' x dS ⟨o,ho,hc⟩=>?_)));exact fU (wpAny_isInstance (T:="StopIteration") (b:=true) ⟨o,ho,hc⟩ isSubtype_stop (gv (hQ _ dS)))
end
section
variable {X:Cx}{pins:gq}{σ:L2.St}{H:Hp}{s:fQ}{h':fZ}
theorem sO{t':Nat}{ch:ic}{a:fM}{o:HO}(I:Inv X pins σ H s)(hf: ∀b∈ch,mK X pins H b)(k: ∀b u,b∉ch->s.heap.get? b=some u->h'.get? b=some u)(ha:s.heap.objs.size<=a)(new:ObjOk X.prog X.w (upd H a o) h' a o):
  Inv X pins σ (upd H a o) {s with heap:=h',toks:=t'}:=by
 have hn:=I.hok.fresh ha;have aP: ∀b u,H b=some u->b∉ch:=fun b u e z=>by have:=(hf b z).1;rw[this] at e;cases e
 have up: ∀b u,H b=some u->upd H a o b=some u:=fun b u e=>by rw[gu (iC e hn)];exact e
 have fr: ∀b u,s.heap.get? b=some u->H b=none->upd H a o b=none:=fun b u e n=>by
  rw[gu (fun z=>by subst z;exact absurd (gZ e) (FP.mpr ha))];exact n
 refine I.step (g':=s.gens) (d':=s.drawn) (ch:=ch) (fun b hb=>?_) (fun b u _ _ hc e _=>k b u hc e) (fun b u _ _ hc e _=>⟨u.slots,k b u hc e⟩) (fun b u _ e n=>fr b u e n)
  (fun b u hc e=>⟨u,k b u hc e⟩) (fun b xs e=>up b _ e) (fun b _ _ e=>up b _ e) (fun b ps e=>⟨#[],by rw[up b _ e];simp⟩) (fun m hm=>?_) (fun b u e=>?_) I.bare
 ·obtain⟨_,f1,f2,f3,f4,f5⟩:=hf b hb;exact⟨f3,f1,f4,f5⟩
 ·obtain⟨u,es,ep,ho,r⟩:=hm;exact⟨u,es,ep,k _ u (fun z=>(hf _ z).2.1 rfl) ho,r⟩
 ·by_cases hb:b=a
  ·subst hb;rw[gA] at e;cases e;exact new
  ·rw[gu hb] at e;refine(I.hok b u e).stay (fun c v hc q=>k c v ?_ q) (fun c q=>up c _ q) (fun c xs q=>up c _ q) fun c _ _ q=>up c _ q;rcases hc with z|z
   ·rw[z];exact aP b u e
   ·exact aP c _ z
theorem sQ{t':Nat}{ch:ic}(I:Inv X pins σ H s)(hf: ∀b∈ch,mK X pins H b)(k: ∀b u,b∉ch->s.heap.get? b=some u->h'.get? b=some u):Inv X pins σ H {s with heap:=h',toks:=t'}:=by
 have aP: ∀b u,H b=some u->b∉ch:=fun b u e z=>by have:=(hf b z).1;rw[this] at e;cases e
 refine I.step (g':=s.gens) (d':=s.drawn) (ch:=ch) (fun b hb=>?_) (fun b u _ _ hc e _=>k b u hc e) (fun b u _ _ hc e _=>⟨u.slots,k b u hc e⟩) (fun b u _ e n=>n)
  (fun b u hc e=>⟨u,k b u hc e⟩) (fun b xs e=>e) (fun b _ _ e=>e) (fun b ps e=>⟨#[],by rw[e];simp⟩) (fun m hm=>?_) (fun b u e=>?_) I.bare
 ·obtain⟨_,f1,f2,f3,f4,f5⟩:=hf b hb;exact⟨f3,f1,f4,f5⟩
 ·obtain⟨u,es,ep,ho,r⟩:=hm;exact⟨u,es,ep,k _ u (fun z=>(hf _ z).2.1 rfl) ho,r⟩
 ·refine(I.hok b u e).stay (fun c v hc q=>k c v ?_ q) (fun c q=>q) fun c xs q=>q;rcases hc with z|z
  ·rw[z];exact aP b u e
  ·exact aP c _ z
end
def SqX(b:Bool)(K:fX)(H:Hp)(l:fM)(xs:List V):Prop:=if b=true then SqL K H l xs else SqT K H l xs
def ItX(b:Bool)(h:fZ)(it l:fM)(i:Nat):Prop:=if b=true then h.IsListIter it l i else h.IsTupleIter it l i
theorem ItX.keep(x:ItX b h it l i)(k: ∀o,h.get? it=some o->h'.get? it=some o):ItX b h' it l i:=by
 cases b
 ·exact PySem.Heap.IsTupleIter.at (show h.IsTupleIter it l i from x) k
 ·exact PySem.Heap.IsListIter.at (show h.IsListIter it l i from x) k
theorem ItX.obj(x:ItX b h it l i): ∃o,h.get? it=some o/\ ∀v,o.data≠ .cell v:=by
 cases b<;>(obtain⟨o,e,c,d⟩:=x;exact⟨o,e,fun v z=>by rw[d] at z;cases z⟩)
section
variable {X:Cx}{pins:gq}{σ:L2.St}{H:Hp}{s:fQ}
theorem mR(I:Inv X pins σ H s)(q:SqX b X.K H l xs)(t:ItX b s.heap it l i): ∃b6,Vals xs b6/\Src s.heap it l i b6.toArray:=by
 cases b with
 |true=>obtain⟨b6,v,p,_⟩:=I.list q;exact⟨b6,v,.inl ⟨t,p.isList⟩⟩
 |false=>obtain⟨b6,v,p,_⟩:=I.tuple q;exact⟨b6,v,.inr ⟨t,p⟩⟩
theorem uF(I:Inv X pins σ H s)(q:SqX b X.K H l xs)(q':SqX b X.K H l ys):xs=ys:=by
 cases b with
 |true=>exact I.list_inj q q'
 |false=>exact I.tuple_inj q q'
theorem yV(t:ItX b h it l i)(hs:Src h it l i xs)(cO:Src h' it l i' xs)(kl: ∀o,h.get? l=some o->h'.get? l=some o):ItX b h' it l i':=by
 cases b with
 |true=>
  rcases cO with⟨a,_⟩|⟨a,c⟩
  ·exact a
  ·rcases hs with⟨_,o,h1,h2,_⟩|⟨⟨o,h1,h2,_⟩,_⟩
   ·obtain⟨o',g1,g2,_⟩:=c;rw[kl _ h1] at g1;cases g1;rw[h2] at g2;injection g2 with g2;exact absurd g2 (by decide)
   ·obtain⟨o',g1,g2,_⟩:=t;rw[h1] at g1;cases g1;rw[h2] at g2;injection g2 with g2;exact absurd g2 (by decide)
 |false=>
  rcases cO with⟨a,c⟩|⟨a,_⟩
  ·rcases hs with⟨⟨o,h1,h2,_⟩,_⟩|⟨_,o,h1,h2,_⟩
   ·obtain⟨o',g1,g2,_⟩:=t;rw[h1] at g1;cases g1;rw[h2] at g2;injection g2 with g2;exact absurd g2 (by decide)
   ·obtain⟨o',g1,g2,_⟩:=c;rw[kl _ h1] at g1;cases g1;rw[h2] at g2;injection g2 with g2;exact absurd g2 (by decide)
  ·exact a
end
noncomputable def ItE(b:Bool)(K:fX)(l:fM)(c:Int):It:=⟨fun i H=> ∃xs x,SqX b K H l xs/\xs[i]?=some x,
 fun i H x H'=> ∃(T:fM) (y:V),x= .ref T/\H T=none/\H'=upd H T (.tup [.int (c+i),y])/\ ∀xs,SqX b K H l xs->xs[i]?=some y,fun i H=> ∃xs,SqX b K H l xs/\xs.length<=i⟩
theorem AJ{P:gi}{w:gd}{K:fX}{elts:gX}{k1}{pos:Pos}(b:Bool)(e it l:fM)(c:Int)(ai:e≠it):
  Turn P w K (.Tuple elts k1 pos) (ItE b K l c) [e,it] e (fun i h=>(∃old,IsEnum h e it (c+i) old)/\ItX b h it l i) where
 mem:=by simp
 obj:=fun i h st a ha=>by
  obtain⟨⟨old,he⟩,st⟩:=st;have s9:a=e\/a=it:=by simpa using ha
  rcases s9 with rfl|rfl
  ·exact⟨_,he,fun v z=>by
    have z':Data.fields _=Data.cell v:=z;cases z'⟩
  ·exact st.obj
 keep:=fun i h h' st k=>by
  obtain⟨⟨old,he⟩,st⟩:=st;exact⟨⟨old,k e (by simp) _ he⟩,st.keep fun o q=>k it (by simp) o q⟩
 item:=by
  intro X hP hw hK hc i pins s σ H E I hf st hg;subst hP hw hK;obtain⟨⟨old,he⟩,st⟩:=st;obtain⟨xs,x,hq,hx⟩:=hg;obtain⟨b6,rv,src⟩:=mR I hq st;obtain⟨u,hu,ru⟩:=rv.get hx
  have eD:e≠l:=fun z=>by
   subst z;have n0:=(hf e (by simp)).1;rcases src with⟨_,o,h1,h2,_⟩|⟨_,o,h1,h2,_⟩<;>(have dS:s.heap.get? e=_:=he;rw[h1] at dS;cases dS;injection h2 with h2;exact absurd h2 (by decide))
  refine oS he src (x:=u) (by simpa using hu) ai eD fun h' ho src' hT aD kp=>⟨.ref s.heap.objs.size,rfl,?_⟩
  refine wpAny_letOwnedTupleGo_enum ho fun ay he'' sb=>?_;have het:e<s.heap.objs.size:=gZ he
  have bz: ∀a o,a∉[e,it]->s.heap.get? a=some o->ay.get? a=some o:=fun a o na q=>by
   have n1:a≠e:=fun z=>na (by simp[z]);have n2:a≠it:=fun z=>na (by simp[z]);exact sb.extBut a o n1 (kp a o n1 n2 q)
  have cI:ay.get? s.heap.objs.size=some {cls:= .type "tuple",data:= .seq #[.int (c+i) s.toks,u]}:=sb.extBut _ _ (kx het) hT
  have I1:Inv X pins σ (upd H s.heap.objs.size (.tup [.int (c+i),x])) {s with heap:=ay,toks:=s.toks+1}:=
   sO I hf bz (gO _) (show ObjOk X.prog X.w _ _ _ (.tup [.int (c+i),x]) from⟨by show 2<=sizeLine;decide,[.int (c+i) s.toks,u],.cons ⟨_,rfl⟩ (.cons ru .nil),_,cI,rfl,0,rfl⟩)
  have st'':ItX b ay it l (i+1):=by
   refine yV st src (src'.keep (fun o q=>sb.extBut _ o ai.symm q) fun o q=>sb.extBut _ o eD.symm q) fun o q=>bz l o ?_ q;have:=src.ne;simp only[jC,jF,lR,not_or];exact⟨eD.symm,this⟩
  refine⟨.ref s.heap.objs.size,_,I1,rfl,⟨_,x,rfl,I.fresh,rfl,fun ys hy=>by rw[uF I hy hq];exact hx⟩,⟨⟨u,?_⟩,st''⟩,fun a ha=>?_⟩
  ·have e1:c+((i+1:Nat):Int)=c+i+1:=by omega
   show IsEnum ay e it (c+((i+1:Nat):Int)) u;rw[e1];exact he''
  ·have n0:=(hf a ha).1;rw[gu]
   ·exact n0
   ·intro z;have l9:a=e\/a=it:=by simpa using ha
    rcases l9 with rfl|rfl
    ·exact absurd z (ig het)
    ·exact absurd z (ig src.lt.1)
 done:=by
  intro X hP hw hK hc i pins s σ H E I hf st hg;subst hP hw hK;obtain⟨⟨old,he⟩,st⟩:=st;obtain⟨xs,hq,hx⟩:=hg;obtain⟨b6,rv,src⟩:=mR I hq st;have hl:=rv.length;exact pU (I.ok.hd hc) he src (by simp;omega) fun h' eb=>⟨rfl,sQ (t':=s.toks) I hf fun a o na q=>eb a o (fun z=>na (by simp[z])) q⟩
 self:=fun _ _ _ _ _ st h=>by
  obtain⟨⟨old,he⟩,_⟩:=st;exact wpAny_pyIter_enum he h
theorem qR{K H}(q:SqA b K H P a xs):SqX b K H a xs:=by
 cases b with
 |true=>exact q.l
 |false=>exact q.t
theorem Ba{K:fX}{P O:AP'}{H1:Hp}{a:fM}{xs:List V}{ds:List D}{b:Bool}{c:Int}(q:SqA b K H1 P a xs)(r:RepL K H1 O ds xs)(hP: ∀a,P a->O a):
  ItOk K (ItE b K a c) (ds.zipIdx.map fun p=> .tup [.int (c+p.2),p.1]) P O H1:=by
 have sq: ∀Hi,(∀a o,H1 a=some o-> ¬P a->Hi a=some o)->SqX b K Hi a xs:=fun Hi hp=>qR (q.mono hp fun _ z=>z);refine⟨fun i d Hi hd hp=>?_,fun i Hi hi hp=>⟨xs,sq Hi hp,by rw[r.length];simpa using hi⟩⟩;rw[iN] at hd;obtain⟨⟨d0,j⟩,h1,h2⟩:=gD hd;rw[xR] at h1;obtain⟨d1,h3,h4⟩:=gD h1;obtain⟨rfl,rfl⟩:=nU h4;obtain⟨x,hx,rx⟩:=r.get h3;refine⟨⟨xs,x,sq Hi hp,hx⟩,fun y H' hy=>?_⟩;obtain⟨T,z,rfl,hT,rfl,hz⟩:=hy;have hz:=hz xs (sq Hi hp);rw[hx] at hz;cases hz;have ext:=jw (o:= .tup [.int (c+i),x]) hT;refine⟨ext,fun O' h1 cJ=>?_⟩;subst h2;refine Rep.mkTup ⟨gA,cJ T hT⟩ (RepL.cons ?_ (RepL.cons (Rep.mono (fun b o e n=>ext b o (hp b o e fun z=>n (hP b z))) (fun b hb z=>h1 b hb z) rx) RepL.nil));simp only[Nat.zero_add];exact Rep.mkInt
open AutoSeq1 (wpAny_loadPart')
section
variable {prog:gi}{w:gd}{A:gc}{E:gw}{s:fQ}
noncomputable def ng(it:fM)(c:Int):Obj:={cls:= .type "enumerate",data:= .fields #[.none,.bool false,.ref it,rawInt c,.none,.none]}
theorem Bf(l:fM)(xs:jR):Meets (Builtin.«enumerate.__new__» ⟨[.type "enumerate",.ref l],[]⟩) (fun _ R s=>(s.heap.IsList l xs\/s.heap.IsTuple l xs)/\
  ∀h',Src h' s.heap.objs.size l 0 xs->h'.objs.size=s.heap.objs.size+1->(∀b o,s.heap.get? b=some o->h'.get? b=some o)->R (.ok (.ret (.ref h'.objs.size))) {s with heap:=h'.push (ng s.heap.objs.size 0)}):=
 .of_wp fun prog w A R s h=>by
  obtain⟨hp,g,d,tk,os⟩:=s;obtain⟨hl,h⟩:=h;have hsub:=sub_enumerate
  wp_walk
  refine wpAny_stack_any fun st=>gv ?_;split
  ·rename_i c _ _ _ _ _;cases(c==Value.type "enumerate")<;>(wp_walk using Src.new hl;intro h' a b c;wp_walk;exact⟨_,rfl,h h' a b c⟩)
  ·wp_walk using Src.new hl
   intro h' a b c
   wp_walk
   exact⟨_,rfl,h h' a b c⟩
theorem zk(hl:s.heap.IsList l xs\/s.heap.IsTuple l xs)
  (h: ∀h',Src h' s.heap.objs.size l 0 xs->h'.objs.size=s.heap.objs.size+1->(∀b o,s.heap.get? b=some o->h'.get? b=some o)->Q (.ref h'.objs.size) {s with heap:=h'.push (ng s.heap.objs.size 0)}):
  wpAny (model prog w) A (call (.type "enumerate") [.ref l]) Q E s:=
 callType_new F.called_enumerate (by decide) (F.typeCall_enumerate_1 _) (F.newCall_enumerate_1 _) (fun obj=>BF obj _) F.entry_enumerate_new (Bf l xs) ⟨hl,fun h' a b c=>⟨⟨_,iY _ rfl,rfl⟩,h h' a b c⟩⟩
end
section
variable {X:Cx}{pins:gq}{σ:L2.St}{H:Hp}{s:fQ}{elts:gX}{k1:Nat}{o6:Pos}
theorem FA{R:It->Hp->Prop}{E:gw}{b:Bool}{l:fM}{xs:List V}{b6:gJ}{h':fZ}{c:Int}(I:Inv X pins σ H s)(hq:SqX b X.K H l xs)(src:Src h' s.heap.objs.size l 0 b6.toArray)(hz:h'.objs.size=s.heap.objs.size+1)
  (kp: ∀b o,s.heap.get? b=some o->h'.get? b=some o)(r:R (ItE b X.K l c) H):wpAny (model X.prog X.w) X.A (pyIter (.ref h'.objs.size)) (PIE X pins σ (.Tuple elts k1 o6) R) E {s with heap:=h'.push (ng s.heap.objs.size c)}:=by
 have he:IsEnum (h'.push (ng s.heap.objs.size c)) h'.objs.size s.heap.objs.size c .none:=iY _ rfl;refine wpAny_pyIter_enum he ?_;have I1:Inv X pins σ H {s with heap:=h'.push (ng s.heap.objs.size c)}:=I.kept (t':=s.toks) fun b o e=>hW _ (kp b o e);have ai:h'.objs.size≠s.heap.objs.size:=by rw[hz];exact Nat.succ_ne_self _
 refine⟨h'.objs.size,[h'.objs.size,s.heap.objs.size],_,_,H,rfl,I1,AJ b h'.objs.size s.heap.objs.size l c ai,⟨⟨.none,by simpa using he⟩,?_⟩,fun a ha=>?_,r⟩
 ·have w5:=src.keep (h':=h'.push (ng s.heap.objs.size c)) (fun o e=>hW _ e) (fun o e=>hW _ e)
  cases b with
  |true=>
   rcases w5 with⟨a,_⟩|⟨_,o,h1,h2,_⟩
   ·exact a
   ·obtain⟨_,_,p,_⟩:=I1.list hq;obtain⟨o',g1,g2,_⟩:=p.isList;rw[h1] at g1;cases g1;rw[h2] at g2;injection g2 with g2;exact absurd g2 (by decide)
  |false=>
   rcases w5 with⟨_,o,h1,h2,_⟩|⟨a,_⟩
   ·obtain⟨_,_,p,_⟩:=I1.tuple hq;obtain⟨o',g1,g2,_⟩:=p;rw[h1] at g1;cases g1;rw[h2] at g2;injection g2 with g2;exact absurd g2 (by decide)
   ·exact a
 ·have l9:a=h'.objs.size\/a=s.heap.objs.size:=by simpa using ha
  rcases l9 with rfl|rfl
  ·exact I.fpOk (by rw[hz];exact qx _) (I.hok.fresh (by rw[hz];exact qx _))
  ·exact I.fpOk (gO _) (I.hok.fresh (gO _))
def Gb(K:fX)(c:Int)(ta:TA):TI:=fun σ H R=>ta σ H fun vs H1=> ∃b l xs,vs=[.ref l]/\SqX b K H1 l xs/\R (ItE b K l c) H1
theorem yw(I:Inv X pins σ H s)(q:SqX b X.K H l xs): ∃b6,Vals xs b6/\(s.heap.IsList l b6.toArray\/s.heap.IsTuple l b6.toArray):=by
 cases b with
 |true=>obtain⟨b6,v,p,_⟩:=I.list q;exact⟨b6,v,.inl p.isList⟩
 |false=>obtain⟨b6,v,p,_⟩:=I.tuple q;exact⟨b6,v,.inr p⟩
theorem FF:bootBuiltins "enumerate"=some (.type "enumerate"):=by decide+kernel
theorem C5{a:fV}{ta:TA}{p pos:Pos}(hg:Gl X "enumerate")(hm:X.mg "enumerate"=none)(ha:PA X [a] ta)(hs:starEach [a] X.env=[(false,eval a X.env)]):PI X (.Tuple elts k1 o6) (.Call (.Name "enumerate" p) [a] [] pos) (Gb X.K 0 ta):=by
 intro pins s σ H R I h;refine Call_ (nK I hg hm FF (qE (thn (ha pos pins s σ H _ I h) fun us s1 ⟨vs,H1,I1,r1,b,l,xs,hv,hq,q⟩=>?_) hs rfl));subst hv;obtain⟨u,rfl,ru⟩:=pG r1;cases ru;obtain⟨b6,_,hl⟩:=yw I1 hq;exact zk hl fun h' src hz kp=>FA I1 hq src hz kp q
noncomputable def vb(c:Int)(f:F):FIt:=fun δ=>(f δ).bind fun p=>match p.1.1 with
 | .tup l=>some (l.zipIdx.map fun q=> .tup [.int (c+q.2),q.1],p.2)
 | .lst l=>some (l.zipIdx.map fun q=> .tup [.int (c+q.2),q.1],p.2)
 |_=>none
theorem E7{K:fX}{T:AP'}{σ:L2.St}{δ δ1:Dn}{H:Hp}{r:D×Bool}{f:F}{Q:List V->Hp->Prop}(E:ER K H T σ δ)(h:f δ=some (r,δ1))(k: ∀v H',Keep σ δ H δ1 H'->ER K H' T σ δ1->Rep K H' (fun a=>OwnA σ δ1 a\/T a) r.1 v->Q [v] H'):tA K [fS f] σ H Q:=by
 refine⟨δ,T,[.val r],δ1,E,?_,fun vs H1 T1 B=>?_⟩
 ·show((fS f δ).bind fun p=>(gY [] p.2).bind fun q=>some (p.1::q.1,q.2))=_;simp only[fS,h,Option.bind,gY]
 ·have hl:=B.len
  match vs,hl with
  |[v],_=>exact k v H1 B.keep (B.er.mono (fun _ _ e _=>e) (fun b _ z=>B.tt b z) (fun a z=>B.er.dom a (B.tt a z))) (B.rep E (j:=0) rfl rfl)
theorem DP{K:fX}{B:SB}{c:Int}{f:F}{σ:L2.St}{H:Hp}{R:It->Hp->Prop}(hw:tI K B (vb c f) σ H R):Gb K c (tA K [fS f]) σ H R:=by
 obtain⟨δ,T,ds,δ',E,e,k⟩:=hw;obtain⟨⟨⟨d,o⟩,δ1⟩,h1,e⟩:=fL e;refine E7 E h1 fun v H1 K1 E1 rv=>?_
 have key: ∀{l},qT d=some l->some (l.zipIdx.map fun q=>D.tup [.int (c+q.2),q.1],δ1)=some (ds,δ')-> ∃b a xs,[v]=[V.ref a]/\SqX b K H1 a xs/\R (ItE b K a c) H1:=fun hs e=>by
  obtain⟨rfl,rfl⟩:=fY e;obtain⟨a,xs,rfl,q,rr⟩:=sW hs rv;have q:=q.mono (fun _ _ e _=>e) (P':=OwB B T σ δ1) fun a z=>z.own;exact⟨_,a,xs,rfl,qR q,k _ H1 K1 E1 (Ba q rr fun a z=>z.own)⟩
 cases d with
 |tup l=>exact key rfl e
 |lst l=>exact key rfl e
 |_=>cases e
theorem AZ{B:SB}{a:fV}{f:F}{p pos:Pos}(hg:Gl X "enumerate")(hm:X.mg "enumerate"=none)(ha:PX X a f)(hs:starEach [a] X.env=[(false,eval a X.env)])(s0:starEach [a] X.env=(false,eval a X.env)::starEach [] X.env):
  PIX X B (.Tuple elts k1 o6) (.Call (.Name "enumerate" p) [a] [] pos) (vb 0 f):=PI.imp' (C5 hg hm (mB (PX.po ha) qd s0) hs) fun σ H R hw=>DP hw
end
section
variable {prog:gi}{w:gd}{A:gc}{E:gw}{s:fQ}{z TI TO i1 i2 l1 l2:fM}{k:Nat}{xs ys:jR}{x y a b:fW}
theorem B8{Q:gw}(D:ZipApart z TI TO i1 i2 l1 l2)(hz:IsZip s.heap z TI TO .none)(t9:IsPair s.heap TI (.ref i1) (.ref i2))(v9:IsPair s.heap TO a b)(h1:Src s.heap i1 l1 k xs)(h2:Src s.heap i2 l2 k ys)(hx:xs[k]?=some x)(hy:ys[k]?=some y)
  (hQ: ∀h',IsZip h' z TI TO (rawInt s.heap.objs.size)->IsPair h' TO x y->Src h' i1 l1 (k+1) xs->Src h' i2 l2 (k+1) ys->IsPair h' s.heap.objs.size x y->(∀c o,c≠z->c≠TO->c≠i1->c≠i2->s.heap.get? c=some o->h'.get? c=some o)->Q (.ref s.heap.objs.size) {s with heap:=h'}):
  wpAny (model prog w) A (Builtin.«zip.__next__» ⟨[.ref z],[]⟩) (fun fin s'=> ∃v,fin= .done (.ret v)/\Q v s') E s:=by
 refine fU (m:=field (.ref z) 2) (js hz rfl (x:= .bool false) rfl (fU (m:=field (.ref z) 3) (js hz rfl (x:= .ref TI) rfl (fU (pk t9 rfl (fU (m:=Builtin.SmallTypes.ownedTupleIsFree (.ref z)) ?_))))));unfold Builtin.SmallTypes.ownedTupleIsFree;refine fU (js hz rfl (x:= .none) rfl (gv ?_));simp only[gQ];refine fU (pD (fU (js hz rfl (x:= .ref TO) rfl (fU (mh hz (by simp) fun h₁ bR t4=>?_)))));replace bR:IsZip h₁ z TI TO .ellipsis:=bR;refine fU ?_;simp only[List.zipIdx_cons,List.zipIdx_nil,qC,List.forIn_nil];have c1:Src h₁ i1 l1 k xs:=h1.keep (fun o e=>t4.extBut _ o D.i1z e) (fun o e=>t4.extBut _ o D.l1z e);refine fU (fU (sD (fU (m:=Builtin.SmallTypes.nextOf (.ref i1)) (c1.item (s:={s with heap:=h₁}) hx fun h₂ c1₂ r9=>gv ?_))));have aX:IsPair h₂ TO a b:=r9.extBut _ _ D.TOi1 (t4.extBut _ _ D.TOz v9);refine fU (pk (s:={s with heap:=h₂}) aX rfl (fU (xN (s:={s with heap:=h₂}) aX fun h₃ bN r8=>fU (uj (gv ?_)))));replace bN:IsPair h₃ TO x b:=bN;have c2:Src h₃ i2 l2 k ys:=h2.keep (fun o e=>r8.extBut _ o D.TOi2.symm (r9.extBut _ o D.i12.symm (t4.extBut _ o D.i2z e))) (fun o e=>r8.extBut _ o D.l2TO (r9.extBut _ o D.l2i1 (t4.extBut _ o D.l2z e)));refine fU (fU (sD (fU (m:=Builtin.SmallTypes.nextOf (.ref i2)) (c2.item (s:={s with heap:=h₃}) hy fun h₄ c2₄ bu=>gv ?_))));have hTO₄:IsPair h₄ TO x b:=bu.extBut _ _ D.TOi2 bN;refine fU (pk (s:={s with heap:=h₄}) hTO₄ rfl (fU (xN (s:={s with heap:=h₄}) hTO₄ fun h₅ bM ae=>fU (uj (gv (gv ?_))))));replace bM:IsPair h₅ TO x y:=bM;refine fU (pk (s:={s with heap:=h₅}) bM rfl (fU (xP (s:={s with heap:=h₅}) ?_)));have aD:h₅.objs.size=s.heap.objs.size:=by rw[ae.1,bu.1,r8.1,r9.1,t4.1]
 have hz₅:IsZip h₅ z TI TO .ellipsis:=ae.extBut _ _ D.TOz.symm (bu.extBut _ _ D.i2z.symm (r8.extBut _ _ D.TOz.symm (r9.extBut _ _ D.i1z.symm bR)));have hk₅: ∀c o,c≠z->c≠TO->c≠i1->c≠i2->s.heap.get? c=some o->h₅.get? c=some o:=fun c o d1 d2 d3 d4 e=>ae.extBut _ _ d2 (bu.extBut _ _ d4 (r8.extBut _ _ d2 (r9.extBut _ _ d3 (t4.extBut _ _ d1 e))));have c1₅:Src h₅ i1 l1 (k+1) xs:=c1₂.keep (fun o e=>ae.extBut _ o D.TOi1.symm (bu.extBut _ o D.i12 (r8.extBut _ o D.TOi1.symm e))) (fun o e=>ae.extBut _ o D.l1TO (bu.extBut _ o D.l1i2 (r8.extBut _ o D.l1TO e)));have c2₅:Src h₅ i2 l2 (k+1) ys:=c2₄.keep (fun o e=>ae.extBut _ o D.TOi2.symm e) (fun o e=>ae.extBut _ o D.l2TO e);have hzlt:z<h₅.objs.size:=gZ hz₅;refine fU (m:=Builtin.SmallTypes.ownedTupleHandOut (.ref z) (.ref h₅.objs.size)) ?_;unfold Builtin.SmallTypes.ownedTupleHandOut;have hz₆:IsZip (h₅.push {cls:= .type "tuple",data:= .seq #[x,y]}) z TI TO .ellipsis:=hW _ hz₅;refine fU (mh (s:={s with heap:=h₅.push {cls:= .type "tuple",data:= .seq #[x,y]}}) hz₆ (by simp) fun h₇ eE bZ=>?_);replace eE:IsZip h₇ z TI TO (rawInt h₅.objs.size):=eE;refine mh (s:={s with heap:=h₇}) eE (by simp) fun h₈ dH sb₈=>?_;replace dH:IsZip h₈ z TI TO (rawInt h₅.objs.size):=dH;have up: ∀c o,c≠z->h₅.get? c=some o->h₈.get? c=some o:=fun c o d1 e=>sb₈.extBut _ _ d1 (bZ.extBut _ _ d1 (hW _ e));have hT₈:IsPair h₈ h₅.objs.size x y:=sb₈.extBut _ _ (kx hzlt) (bZ.extBut _ _ (kx hzlt) (iY _ rfl));rw[aD] at dH hT₈;refine gv ⟨_,rfl,?_⟩;show Q (.ref h₅.objs.size) _;rw[aD];exact hQ h₈ dH (up _ _ D.TOz bM) (c1₅.keep (fun o e=>up _ o D.i1z e) fun o e=>up _ o D.l1z e) (c2₅.keep (fun o e=>up _ o D.i2z e) fun o e=>up _ o D.l2z e) hT₈ fun c o d1 d2 d3 d4 e=>up c o d1 (hk₅ c o d1 d2 d3 d4 e)
theorem B7{Q:Fin->Shared->Prop}(hh:A.handled=none)(D:ZipApart z TI TO i1 i2 l1 l2)(hz:IsZip s.heap z TI TO .none)(t9:IsPair s.heap TI (.ref i1) (.ref i2))(v9:IsPair s.heap TO a b)(h1:Src s.heap i1 l1 k xs)(h2:Src s.heap i2 l2 k ys)(t7:xs[k]?=none\/ys[k]?=none)
  (hE: ∀h' e,(∀c o,c≠z->c≠TO->c≠i1->c≠i2->s.heap.get? c=some o->h'.get? c=some o)->(∃o,h'.get? e=some o/\o.cls= .type "StopIteration")->E (.ref e) {s with heap:=h'}):wpAny (model prog w) A (Builtin.«zip.__next__» ⟨[.ref z],[]⟩) Q E s:=by
 have notzip: ∀{h:fZ} {e:fM} {oe:Obj} {f0:fW},IsZip h z TI TO f0->h.get? e=some oe->oe.cls= .type "StopIteration"->e≠z:=fun hzz cx bJ q=>by
  subst q;have hzz':_=_:=hzz;rw[cx] at hzz';cases hzz';injection bJ with bJ;exact absurd bJ (by decide)
 refine fU (m:=field (.ref z) 2) (js hz rfl (x:= .bool false) rfl (fU (m:=field (.ref z) 3) (js hz rfl (x:= .ref TI) rfl (fU (pk t9 rfl (fU (m:=Builtin.SmallTypes.ownedTupleIsFree (.ref z)) ?_))))));unfold Builtin.SmallTypes.ownedTupleIsFree;refine fU (js hz rfl (x:= .none) rfl (gv ?_));simp only[gQ];refine fU (pD (fU (js hz rfl (x:= .ref TO) rfl (fU (mh hz (by simp) fun h₁ bR t4=>?_)))));replace bR:IsZip h₁ z TI TO .ellipsis:=bR;refine fU ?_;simp only[List.zipIdx_cons,List.zipIdx_nil,qC,List.forIn_nil];have c1:Src h₁ i1 l1 k xs:=h1.keep (fun o e=>t4.extBut _ o D.i1z e) (fun o e=>t4.extBut _ o D.l1z e)
 cases hx:xs[k]? with
 |none=>
  refine fU (fU (sD (fU (m:=Builtin.SmallTypes.nextOf (.ref i1)) (c1.stop (s:={s with heap:=h₁}) hh hx fun h₂ e r9 ⟨oe,cx,bJ⟩=>?_))));have hz₂:IsZip h₂ z TI TO .ellipsis:=r9 _ _ D.i1z.symm bR;exact mh (s:={s with heap:=h₂}) hz₂ (by simp) fun h₃ _ r8=>hE h₃ e (fun c o d1 _ d3 _ q=>r8.extBut _ _ d1 (r9 _ _ d3 (t4.extBut _ _ d1 q))) ⟨oe,r8.extBut _ _ (notzip hz₂ cx bJ) cx,bJ⟩
 |some x=>
  have hy:ys[k]?=none:=by rcases t7 with h|h;rw[hx] at h;cases h;exact h
  refine fU (fU (sD (fU (m:=Builtin.SmallTypes.nextOf (.ref i1)) (c1.item (s:={s with heap:=h₁}) hx fun h₂ c1₂ r9=>gv ?_))));have aX:IsPair h₂ TO a b:=r9.extBut _ _ D.TOi1 (t4.extBut _ _ D.TOz v9);refine fU (pk (s:={s with heap:=h₂}) aX rfl (fU (xN (s:={s with heap:=h₂}) aX fun h₃ bN r8=>fU (uj (gv ?_)))));have c2:Src h₃ i2 l2 k ys:=h2.keep (fun o e=>r8.extBut _ o D.TOi2.symm (r9.extBut _ o D.i12.symm (t4.extBut _ o D.i2z e))) (fun o e=>r8.extBut _ o D.l2TO (r9.extBut _ o D.l2i1 (t4.extBut _ o D.l2z e)));refine fU (fU (sD (fU (m:=Builtin.SmallTypes.nextOf (.ref i2)) (c2.stop (s:={s with heap:=h₃}) hh hy fun h₄ e bu ⟨oe,cx,bJ⟩=>?_))));have df:IsZip h₄ z TI TO .ellipsis:=bu _ _ D.i2z.symm (r8.extBut _ _ D.TOz.symm (r9.extBut _ _ D.i1z.symm bR));exact mh (s:={s with heap:=h₄}) df (by simp) fun h₅ _ ae=>hE h₅ e (fun c o d1 d2 d3 d4 q=>ae.extBut _ _ d1 (bu _ _ d4 (r8.extBut _ _ d2 (r9.extBut _ _ d3 (t4.extBut _ _ d1 q))))) ⟨oe,ae.extBut _ _ (notzip df cx bJ) cx,bJ⟩
theorem yE{Q:zq}(D:ZipApart z TI TO i1 i2 l1 l2)(hz:IsZip s.heap z TI TO .none)(t9:IsPair s.heap TI (.ref i1) (.ref i2))(v9:IsPair s.heap TO a b)(h1:Src s.heap i1 l1 k xs)(h2:Src s.heap i2 l2 k ys)(hx:xs[k]?=some x)(hy:ys[k]?=some y)
  (hQ: ∀h',IsZip h' z TI TO (rawInt s.heap.objs.size)->IsPair h' TO x y->Src h' i1 l1 (k+1) xs->Src h' i2 l2 (k+1) ys->IsPair h' s.heap.objs.size x y->(∀c o,c≠z->c≠TO->c≠i1->c≠i2->s.heap.get? c=some o->h'.get? c=some o)->Q (some (.ref s.heap.objs.size)) {s with heap:=h'}):
  wpAny (model prog w) A (pyNext (.ref z)) Q E s:=by
 have hT:s.TypeIs (.ref z) "zip":=⟨_,hz,rfl⟩
 unfold pyNext
 exact fU (qi (pv (name:=Str.ofString "__next__") hT uh (nX uh hT F.entry_zip_next
  (B8 D hz t9 v9 h1 h2 hx hy fun h' a1 a2 a3 a4 a5 a6=>gv (hQ h' a1 a2 a3 a4 a5 a6)) (F.args_zip_next_1 _))))
theorem qY{Q:zq}(hh:A.handled=none)(D:ZipApart z TI TO i1 i2 l1 l2)(hz:IsZip s.heap z TI TO .none)(t9:IsPair s.heap TI (.ref i1) (.ref i2))(v9:IsPair s.heap TO a b)(h1:Src s.heap i1 l1 k xs)(h2:Src s.heap i2 l2 k ys)(t7:xs[k]?=none\/ys[k]?=none)
  (hQ: ∀h',(∀c o,c≠z->c≠TO->c≠i1->c≠i2->s.heap.get? c=some o->h'.get? c=some o)->Q none {s with heap:=h'}):wpAny (model prog w) A (pyNext (.ref z)) Q E s:=by
 have hT:s.TypeIs (.ref z) "zip":=⟨_,hz,rfl⟩
 unfold pyNext
 exact fU (qi (pv (name:=Str.ofString "__next__") hT uh (nX uh hT F.entry_zip_next
  (B7 hh D hz t9 v9 h1 h2 t7 fun h' e hk ⟨o,ho,hc⟩=>fU (wpAny_isInstance (T:="StopIteration") (b:=true) ⟨o,ho,hc⟩ isSubtype_stop (gv (hQ _ hk)))) (F.args_zip_next_1 _))))
end
theorem D7(l1 l2:fM)(xs ys:jR):Meets (Builtin.«zip.__new__» ⟨[.type "zip",.ref l1,.ref l2],[]⟩) (fun _ R s=>(s.heap.IsList l1 xs\/s.heap.IsTuple l1 xs)/\(s.heap.IsList l2 ys\/s.heap.IsTuple l2 ys)/\
  ∀h1 h2,Src h1 s.heap.objs.size l1 0 xs->h1.objs.size=s.heap.objs.size+1->(∀b o,s.heap.get? b=some o->h1.get? b=some o)->Src h2 h1.objs.size l2 0 ys->h2.objs.size=h1.objs.size+1->(∀b o,h1.get? b=some o->h2.get? b=some o)->
   R (.ok (.ret (.ref ((h2.push {cls:= .type "tuple",data:= .seq #[.ref s.heap.objs.size,.ref h1.objs.size]}).push {cls:= .type "tuple",data:= .seq #[.none,.none]}).objs.size)))
    {s with heap:=((h2.push {cls:= .type "tuple",data:= .seq #[.ref s.heap.objs.size,.ref h1.objs.size]}).push {cls:= .type "tuple",data:= .seq #[.none,.none]}).push {cls:= .type "zip",data:= .fields #[.none,.bool false,.bool false,.ref h2.objs.size,.ref (h2.push {cls:= .type "tuple",data:= .seq #[.ref s.heap.objs.size,.ref h1.objs.size]}).objs.size]}}):=
 .of_wp fun prog w A R s h=>by
  obtain⟨hp,g,d,tk,os⟩:=s;obtain⟨bS,aE,h⟩:=h;have hsub:=sub_zip
  wp_walk using Src.new bS
  intro h1 a1 a2 a3
  have hl2':h1.IsList l2 ys\/h1.IsTuple l2 ys:=by
   rcases aE with⟨o,e,r⟩|⟨o,e,r⟩
   ·exact .inl ⟨o,a3 _ _ e,r⟩
   ·exact .inr ⟨o,a3 _ _ e,r⟩
  wp_walk using Src.new (s:=⟨h1,g,d,tk,os⟩) hl2'
  intro h2 b1 b2 b3
  wp_walk
  exact⟨_,rfl,h h1 h2 a1 a2 a3 b1 b2 b3⟩
noncomputable def ItZ(b1 b2:Bool)(K:fX)(l1 l2:fM):It:=⟨fun i H=> ∃xs ys x y,SqX b1 K H l1 xs/\SqX b2 K H l2 ys/\xs[i]?=some x/\ys[i]?=some y,
 fun i H x H'=> ∃(T:fM) (u v:V),x= .ref T/\H T=none/\H'=upd H T (.tup [u,v])/\ ∀xs ys,SqX b1 K H l1 xs->SqX b2 K H l2 ys->xs[i]?=some u/\ys[i]?=some v,
 fun i H=> ∃xs ys,SqX b1 K H l1 xs/\SqX b2 K H l2 ys/\(xs.length<=i\/ys.length<=i)⟩
structure ZA(z TI TO i1 i2:fM):Prop where
 a1:TI≠z
 a2:TO≠z
 a3:i1≠z
 a4:i2≠z
 a5:TI≠TO
 a6:TI≠i1
 a7:TI≠i2
 a8:TO≠i1
 a9:TO≠i2
 a10:i1≠i2
theorem oi{b:Bool}{K:fX}{H:Hp}{l:fM}{xs:List V}{X:Cx}{pins:gq}{σ:L2.St}{s:fQ}(I:Inv X pins σ H s)(hK:X.K=K)(q:SqX b K H l xs){fp:ic}(hf: ∀a∈fp,mK X pins H a):l∉fp:=by
 subst hK;intro hm;have hn:=(hf l hm).1
 have base: ∀o,X.K.lookup l=some o->False:=fun o e=>by
  have e1:=I.mod.kin l o e;rcases(hf l hm).2.2.2.1 with z|z
  ·exact I.ok.noex l o e1 z
  ·have:=(I.ok.bs l o e1).1;exact absurd (gZ this) (FP.mpr z)
 cases b with
 |true=>
  rcases q with(q|⟨o,q⟩)|⟨o,b6,n,e,_⟩
  ·rw[hn] at q;cases q
  ·rw[hn] at q;cases q
  ·exact base o e
 |false=>
  rcases q with(q|⟨o,q⟩)|⟨o,b6,n,e,_⟩
  ·rw[hn] at q;cases q
  ·rw[hn] at q;cases q
  ·exact base o e
theorem Ck{P:gi}{w:gd}{K:fX}{elts:gX}{k1}{pos:Pos}(b1 b2:Bool)(z TI TO i1 i2 l1 l2:fM)(D:ZA z TI TO i1 i2):
  Turn P w K (.Tuple elts k1 pos) (ItZ b1 b2 K l1 l2) [z,TI,TO,i1,i2] z (fun i h=>IsZip h z TI TO .none/\IsPair h TI (.ref i1) (.ref i2)/\(∃a b,IsPair h TO a b)/\ItX b1 h i1 l1 i/\ItX b2 h i2 l2 i) where
 mem:=by simp
 obj:=fun i h st a ha=>by
  obtain⟨hz,t9,⟨u,v,v9⟩,s1,s2⟩:=st;simp only[jC,jF,lR] at ha;rcases ha with rfl|rfl|rfl|rfl|rfl
  ·exact⟨_,hz,fun v e=>by have e':Data.fields _=Data.cell v:=e;cases e'⟩
  ·exact⟨_,t9,fun v e=>by have e':Data.seq _ _=Data.cell v:=e;cases e'⟩
  ·exact⟨_,v9,fun v e=>by have e':Data.seq _ _=Data.cell v:=e;cases e'⟩
  ·exact s1.obj
  ·exact s2.obj
 keep:=fun i h h' st k=>by
  obtain⟨hz,t9,⟨u,v,v9⟩,s1,s2⟩:=st;exact⟨k z (by simp) _ hz,k TI (by simp) _ t9,⟨u,v,k TO (by simp) _ v9⟩,s1.keep fun o q=>k i1 (by simp) o q,s2.keep fun o q=>k i2 (by simp) o q⟩
 item:=by
  intro X hP hw hK hc i pins s σ H E I hf st hg;obtain⟨hz,t9,⟨a0,b0,v9⟩,s1,s2⟩:=st;obtain⟨xs,ys,x,y,bD,bC,hx,hy⟩:=hg;have n1:=oi I hK bD hf;have n2:=oi I hK bC hf;simp only[jC,jF,lR,not_or] at n1 n2;subst hP hw hK;obtain⟨cf,ez,w5⟩:=mR I bD s1;obtain⟨e7,eu,aH⟩:=mR I bC s2;obtain⟨u,hu,ru⟩:=ez.get hx;obtain⟨v,hv,rv⟩:=eu.get hy;have AP:ZipApart z TI TO i1 i2 l1 l2:=⟨D.a1,D.a2,D.a3,D.a4,D.a5,D.a6,D.a7,D.a8,D.a9,D.a10,n1.1,n1.2.2.1,n1.2.2.2.1,n1.2.2.2.2,n2.1,n2.2.2.1,n2.2.2.2.1,n2.2.2.2.2⟩
  refine yE AP hz t9 v9 w5 aH (x:=u) (y:=v) (by simpa using hu) (by simpa using hv) fun h' z' t1 c1 c2 hT kp=>⟨.ref s.heap.objs.size,rfl,?_⟩
  refine wpAny_letOwnedTupleGo_zip (s:={s with heap:=h'}) z' fun ay z'' sb=>?_;replace sb:Heap.SameBut z h' ay:=sb
  have bz: ∀a o,a∉[z,TI,TO,i1,i2]->s.heap.get? a=some o->ay.get? a=some o:=fun a o na q=>by
   simp only[jC,jF,lR,not_or] at na;exact sb.extBut a o na.1 (kp a o na.1 na.2.2.1 na.2.2.2.1 na.2.2.2.2 q)
  have lt: ∀{c o},s.heap.get? c=some o->s.heap.objs.size≠c:=fun e=>kx (gZ e);have cI:IsPair ay s.heap.objs.size u v:=sb.extBut _ _ (lt hz) hT
  have I1:Inv X pins σ (upd H s.heap.objs.size (.tup [x,y])) {s with heap:=ay}:=
   sO (t':=s.toks) I hf bz (gO _) (show ObjOk X.prog X.w _ _ _ (.tup [x,y]) from⟨by show 2<=sizeLine;decide,[u,v],.cons ru (.cons rv .nil),_,cI,rfl,0,rfl⟩)
  have t1'':ItX b1 ay i1 l1 (i+1):=yV s1 w5 (c1.keep (fun o q=>sb.extBut _ o D.a3 q) fun o q=>sb.extBut _ o n1.1 q) fun o q=>bz l1 o (by simp only[jC,jF,lR,not_or];exact n1) q;have t2'':ItX b2 ay i2 l2 (i+1):=yV s2 aH (c2.keep (fun o q=>sb.extBut _ o D.a4 q) fun o q=>sb.extBut _ o n2.1 q) fun o q=>bz l2 o (by simp only[jC,jF,lR,not_or];exact n2) q;refine⟨.ref s.heap.objs.size,_,I1,rfl,⟨_,x,y,rfl,I.fresh,rfl,fun bO ys' q1 q2=>by rw[uF I q1 bD,uF I q2 bC];exact⟨hx,hy⟩⟩,⟨z'',sb.extBut _ _ D.a1 (kp _ _ D.a1 D.a5 D.a6 D.a7 t9),⟨u,v,sb.extBut _ _ D.a2 t1⟩,t1'',t2''⟩,fun a ha=>?_⟩;have n0:=(hf a ha).1;rw[gu]
  ·exact n0
  ·intro e;simp only[jC,jF,lR] at ha;rcases ha with rfl|rfl|rfl|rfl|rfl
   ·exact lt hz e.symm
   ·exact lt t9 e.symm
   ·exact lt v9 e.symm
   ·exact absurd e (ig w5.lt.1)
   ·exact absurd e (ig aH.lt.1)
 done:=by
  intro X hP hw hK hc i pins s σ H E I hf st hg;obtain⟨hz,t9,⟨a0,b0,v9⟩,s1,s2⟩:=st;obtain⟨xs,ys,bD,bC,t7⟩:=hg;have n1:=oi I hK bD hf;have n2:=oi I hK bC hf;simp only[jC,jF,lR,not_or] at n1 n2;subst hP hw hK;obtain⟨cf,ez,w5⟩:=mR I bD s1;obtain⟨e7,eu,aH⟩:=mR I bC s2;have e1:=ez.length;have e2:=eu.length;have AP:ZipApart z TI TO i1 i2 l1 l2:=⟨D.a1,D.a2,D.a3,D.a4,D.a5,D.a6,D.a7,D.a8,D.a9,D.a10,n1.1,n1.2.2.1,n1.2.2.2.1,n1.2.2.2.2,n2.1,n2.2.2.1,n2.2.2.2.1,n2.2.2.2.2⟩
  refine qY (I.ok.hd hc) AP hz t9 v9 w5 aH (t7.imp (fun h=>by simp;omega) fun h=>by simp;omega) fun h' kp=>⟨rfl,sQ (t':=s.toks) I hf fun a o na q=>?_⟩
  simp only[jC,jF,lR,not_or] at na;exact kp a o na.1 na.2.2.1 na.2.2.2.1 na.2.2.2.2 q
 self:=fun _ _ _ _ _ st h=>wpAny_pyIter_zip st.1 h
theorem Dx{K:fX}{P O:AP'}{H1:Hp}{a1 a2:fM}{xs ys:List V}{ds es:List D}{b1 b2:Bool}(q1:SqA b1 K H1 P a1 xs)(r1:RepL K H1 O ds xs)(q2:SqA b2 K H1 P a2 ys)(r2:RepL K H1 O es ys)(hP: ∀a,P a->O a):
  ItOk K (ItZ b1 b2 K a1 a2) ((ds.zip es).map fun p=> .tup [p.1,p.2]) P O H1:=by
 have sq: ∀{b:Bool} {a:fM} {xs:List V},SqA b K H1 P a xs-> ∀Hi,(∀a o,H1 a=some o-> ¬P a->Hi a=some o)->SqX b K Hi a xs:=fun q Hi hp=>qR (q.mono hp fun _ z=>z);refine⟨fun i d Hi hd hp=>?_,fun i Hi hi hp=>⟨xs,ys,sq q1 Hi hp,sq q2 Hi hp,by rw[r1.length,r2.length];simp at hi;omega⟩⟩;rw[iN] at hd;obtain⟨⟨d1,d2⟩,h1,h2⟩:=gD hd;obtain⟨h3,h4⟩:=FR.mp h1;obtain⟨x,hx,rx⟩:=r1.get h3;obtain⟨y,hy,ry⟩:=r2.get h4;refine⟨⟨xs,ys,x,y,sq q1 Hi hp,sq q2 Hi hp,hx,hy⟩,fun v H' hy'=>?_⟩;obtain⟨T,u,w,rfl,hT,rfl,hz⟩:=hy';obtain⟨g1,g2⟩:=hz xs ys (sq q1 Hi hp) (sq q2 Hi hp);rw[hx] at g1;cases g1;rw[hy] at g2;cases g2;have ext:=jw (o:= .tup [x,y]) hT;refine⟨ext,fun O' h1 cJ=>?_⟩;subst h2;exact Rep.mkTup ⟨gA,cJ T hT⟩ (RepL.cons (Rep.mono (fun b o e n=>ext b o (hp b o e fun z=>n (hP b z))) (fun b hb z=>h1 b hb z) rx) (RepL.cons (Rep.mono (fun b o e n=>ext b o (hp b o e fun z=>n (hP b z))) (fun b hb z=>h1 b hb z) ry) RepL.nil))
section
variable {X:Cx}{elts:gX}{k1:Nat}{o6:Pos}
theorem HU:bootBuiltins "zip"=some (.type "zip"):=by decide+kernel
def KS(K:fX)(ta:TA):TI:=fun σ H R=>ta σ H fun vs H1=> ∃b1 b2 l1 l2 xs ys,vs=[.ref l1,.ref l2]/\SqX b1 K H1 l1 xs/\SqX b2 K H1 l2 ys/\R (ItZ b1 b2 K l1 l2) H1
theorem Al(I:Inv X pins σ H s)(hq:SqX b X.K H l xs)(src:Src s.heap it l i b6):ItX b s.heap it l i:=by
 cases b with
 |true=>
  rcases src with⟨a,_⟩|⟨_,o,h1,h2,_⟩
  ·exact a
  ·obtain⟨_,_,p,_⟩:=I.list hq;obtain⟨o',g1,g2,_⟩:=p.isList;rw[h1] at g1;cases g1;rw[h2] at g2;injection g2 with g2;exact absurd g2 (by decide)
 |false=>
  rcases src with⟨_,o,h1,h2,_⟩|⟨a,_⟩
  ·obtain⟨_,_,p,_⟩:=I.tuple hq;obtain⟨o',g1,g2,_⟩:=p;rw[h1] at g1;cases g1;rw[h2] at g2;injection g2 with g2;exact absurd g2 (by decide)
  ·exact a
theorem Ha{a b:fV}{ta:TA}{p pos:Pos}(hg:Gl X "zip")(hm:X.mg "zip"=none)(ha:PA X [a,b] ta)(hs:starEach [a,b] X.env=(false,eval a X.env)::starEach [b] X.env)(i3:(backTo pos (starEach [b] X.env)).any (·.1)=false):
  PI X (.Tuple elts k1 o6) (.Call (.Name "zip" p) [a,b] [] pos) (KS X.K ta):=by
 intro pins s0 σ H0 R I0 h;refine qr (nK I0 hg hm HU (qE (thn (ha pos pins s0 σ H0 _ I0 h) fun us s ⟨vs,H,I,r1,b1,b2,l1,l2,xs,ys,hv,bD,bC,q⟩=>?_) hs i3));subst hv;obtain⟨u,v,rfl,ru,rv⟩:=pF r1;cases ru;cases rv;obtain⟨cf,_,bS⟩:=yw I bD;obtain⟨e7,_,aE⟩:=yw I bC;refine callType_new F.called_zip (by decide) (F.typeCall_zip_2 _ _) (F.newCall_zip_2 _ _) (fun obj=>F.args_object_init_3 obj _ _) F.entry_zip_new (D7 l1 l2 cf.toArray e7.toArray) ⟨bS,aE,fun h1 h2 c1 z1 k1 c2 z2 k2=>?_⟩;generalize ho3:({cls:= .type "tuple",data:= .seq #[.ref s.heap.objs.size,.ref h1.objs.size]}:Obj)=o3;generalize ho4:({cls:= .type "tuple",data:= .seq #[.none,.none]}:Obj)=o4;have z3:(h2.push o3).objs.size=h2.objs.size+1:=nV ..;have z4:((h2.push o3).push o4).objs.size=h2.objs.size+2:=by rw[nV,z3]
 generalize ho5:({cls:= .type "zip",data:= .fields #[.none,.bool false,.bool false,.ref h2.objs.size,.ref (h2.push o3).objs.size]}:Obj)=o5;have g5:(((h2.push o3).push o4).push o5).get? ((h2.push o3).push o4).objs.size=some o5:=iY _ (by rw[<-ho5];rfl);have g4:(((h2.push o3).push o4).push o5).get? (h2.push o3).objs.size=some o4:=hW _ (iY _ (by rw[<-ho4];rfl));have g3:(((h2.push o3).push o4).push o5).get? h2.objs.size=some o3:=hW _ (hW _ (iY _ (by rw[<-ho3];rfl)));have kp: ∀c o,h2.get? c=some o->(((h2.push o3).push o4).push o5).get? c=some o:=fun c o e=>hW _ (hW _ (hW _ e));have cg:IsZip (((h2.push o3).push o4).push o5) ((h2.push o3).push o4).objs.size h2.objs.size (h2.push o3).objs.size .none:=by show _=_;rw[g5,<-ho5]
 have t9:IsPair (((h2.push o3).push o4).push o5) h2.objs.size (.ref s.heap.objs.size) (.ref h1.objs.size):=by show _=_;rw[g3,<-ho3]
 have v9:IsPair (((h2.push o3).push o4).push o5) (h2.push o3).objs.size .none .none:=by show _=_;rw[g4,<-ho4]
 have I1:Inv X pins σ H {s with heap:=((h2.push o3).push o4).push o5}:=I.kept (t':=s.toks) fun c o e=>kp c o (k2 c o (k1 c o e));have d1:=c1.keep (h':=((h2.push o3).push o4).push o5) (fun o e=>kp _ o (k2 _ o e)) (fun o e=>kp _ o (k2 _ o e));have d2:=c2.keep (h':=((h2.push o3).push o4).push o5) (fun o e=>kp _ o e) (fun o e=>kp _ o e);refine⟨⟨_,cg,rfl⟩,wpAny_pyIter_zip (s:={s with heap:=((h2.push o3).push o4).push o5}) cg ?_⟩;refine⟨((h2.push o3).push o4).objs.size,[((h2.push o3).push o4).objs.size,h2.objs.size,(h2.push o3).objs.size,s.heap.objs.size,h1.objs.size],_,_,H,rfl,I1,Ck b1 b2 _ _ _ _ _ l1 l2 ⟨?_,?_,?_,?_,?_,?_,?_,?_,?_,?_⟩,⟨cg,t9,⟨_,_,v9⟩,Al I1 bD d1,Al I1 bC d2⟩,fun a ha=>?_,q⟩
 ·rw[z4];exact ig (Nat.lt_add_of_pos_right (by decide))
 ·rw[z4,z3];exact ig (ug _)
 ·rw[z4,z2,z1];exact ig (by
   have:s.heap.objs.size<s.heap.objs.size+1+1+2:=by omega
   exact this)
 ·rw[z4,z2];exact ig (by
   have:h1.objs.size<h1.objs.size+1+2:=by omega
   exact this)
 ·rw[z3];exact ig (ug _)
 ·rw[z2,z1];exact kx (by
   have:s.heap.objs.size<s.heap.objs.size+1+1:=by omega
   exact this)
 ·rw[z2];exact kx (ug _)
 ·rw[z3,z2,z1];exact kx (by
   have:s.heap.objs.size<s.heap.objs.size+1+1+1:=by omega
   exact this)
 ·rw[z3,z2];exact kx (by
   have:h1.objs.size<h1.objs.size+1+1:=by omega
   exact this)
 ·rw[z1];exact ig (ug _)
 ·have le:s.heap.objs.size<=a:=by
   simp only[jC,jF,lR] at ha;rcases ha with rfl|rfl|rfl|rfl|rfl
   ·rw[z4,z2,z1];have:s.heap.objs.size<=s.heap.objs.size+1+1+2:=by omega
    exact this
   ·rw[z2,z1];have:s.heap.objs.size<=s.heap.objs.size+1+1:=by omega
    exact this
   ·rw[z3,z2,z1];have:s.heap.objs.size<=s.heap.objs.size+1+1+1:=by omega
    exact this
   ·exact gO _
   ·rw[z1];exact qx _
  exact I.fpOk le (I.hok.fresh le)
noncomputable def yW(f g:FO):FIt:=fun δ=>(f δ).bind fun p=>(g p.2).bind fun q=>(res q.2 p.1).bind fun x=>(res q.2 q.1).bind fun y=>(qT x).bind fun l=>(qT y).bind fun m=>some ((l.zip m).map fun p=> .tup [p.1,p.2],q.2)
theorem CY{B:SB}{a b:fV}{f g:FO}{p pos:Pos}(hg:Gl X "zip")(hm:X.mg "zip"=none)(ha:PO X a f)(hb:PO X b g)(B1:SlB B f)(B2:SlB B g)(hs:starEach [a,b] X.env=(false,eval a X.env)::starEach [b] X.env)(n9:starEach [b] X.env=(false,eval b X.env)::starEach [] X.env)(i3:(backTo pos (starEach [b] X.env)).any (·.1)=false):
  PIX X B (.Tuple elts k1 o6) (.Call (.Name "zip" p) [a,b] [] pos) (yW f g):=PI.imp' (Ha hg hm (mB ha (mB hb qd n9) hs) hs i3) fun σ H R hw=>by
 obtain⟨δ,T,ds,δ',E,e,k⟩:=hw;obtain⟨⟨o1,δ1⟩,h1,e⟩:=fL e;obtain⟨⟨o2,δ2⟩,h2,e⟩:=fL e;obtain⟨x,h3,e⟩:=fL e;obtain⟨y,h4,e⟩:=fL e;obtain⟨l,h5,e⟩:=fL e;obtain⟨m,h6,e⟩:=fL e;obtain⟨rfl,rfl⟩:=fY e;dsimp only at h2;refine⟨δ,T,[o1,o2],δ2,E,?_,fun vs H1 T1 W=>?_⟩
 ·simp only[gY,h1,h2,Option.bind]
 ·have hl:=W.len
  match vs,hl with
  |[v,u],_=>
   obtain⟨a1,xs,rfl,q1,rr1⟩:=W.seq E (j:=0) rfl rfl h3 h5 fun i hi=>B1 _ _ _ (hi▸h1);obtain⟨a2,ys,rfl,q2,rr2⟩:=W.seq E (j:=1) rfl rfl h4 h6 fun i hi=>B2 _ _ _ (hi▸h2);exact⟨_,_,a1,a2,xs,ys,rfl,qR q1,qR q2,k _ H1 W.keep (W.er.mono (fun _ _ e _=>e) (fun b _ z=>W.tt b z) (fun a z=>W.er.dom a (W.tt a z))) (Dx q1 rr1 q2 rr2 fun a z=>z.own)⟩
end
end PX
namespace TS
open PySem PyProof.Rows
section
variable(M:Model)(A:gc)(E:gw)(G:Shared->Prop){σ:Type}
def wpI{α:Type}(m:StateT σ Sem α)(Q:α->σ->Prop)(st:σ):Prop:= ∀s,G s->wpAny M A (m.run st) (fun r s'=>G s'/\Q r.1 r.2) E s
variable {M A E G}
theorem fO{α:Type}{a:α}{Q:α->σ->Prop}{st:σ}(h:Q a st):wpI M A E G (pure a:StateT σ Sem α) Q st:=fun s g=>by rw[StateT.run_pure];exact gv ⟨g,h⟩
theorem fN{α β:Type}{m:StateT σ Sem α}{f:α->StateT σ Sem β}{Q:β->σ->Prop}{st:σ}(h:wpI M A E G m (fun a b7=>wpI M A E G (f a) Q b7) st):wpI M A E G (m>>=f) Q st:=fun s g=>by
 rw[StateT.run_bind];exact fU (ky (h s g) (fun r s' h'=>h'.2 s' h'.1) fun _ _ e=>e)
theorem gC{α:Type}{c:Prop}[Decidable c]{t e:StateT σ Sem α}{Q:α->σ->Prop}{st:σ}(h1:c->wpI M A E G t Q st)(h2: ¬c->wpI M A E G e Q st):wpI M A E G (if c then t else e) Q st:=by split<;>simp_all
theorem gH{α:Type}{m:StateT σ Sem α}{Q Q':α->σ->Prop}{st:σ}(h:wpI M A E G m Q st)(hq: ∀a b7,Q a b7->Q' a b7):wpI M A E G m Q' st:=fun s g=>ky (h s g) (fun r _ h'=>⟨h'.1,hq _ _ h'.2⟩) fun _ _ e=>e
theorem jv{Q:σ->σ->Prop}{st:σ}(h:Q st st):wpI M A E G (get:StateT σ Sem σ) Q st:=fun s g=>by rw[StateT.run_get];exact gv ⟨g,h⟩
theorem Ea{Q:PUnit->σ->Prop}{st b7:σ}(h:Q ⟨⟩ b7):wpI M A E G (set b7:StateT σ Sem PUnit) Q st:=fun s g=>by rw[StateT.run_set];exact gv ⟨g,h⟩
theorem iB{f:σ->σ}{Q:PUnit->σ->Prop}{st:σ}(h:Q ⟨⟩ (f st)):wpI M A E G (modify f:StateT σ Sem PUnit) Q st:=fun s g=>by rw[StateT.run_modify];exact gv ⟨g,h⟩
theorem vM{α:Type}{m:Sem α}{Q:α->σ->Prop}{st:σ}(h: ∀s,G s->wpAny M A m (fun a s'=>G s'/\Q a st) E s):wpI M A E G (liftM m:StateT σ Sem α) Q st:=fun s g=>by
 show wpAny M A ((StateT.lift m:StateT σ Sem α).run st) _ E s;rw[StateT.run_lift];exact fU (ky (h s g) (fun a s' h'=>gv h') fun _ _ e=>e)
theorem lp{x:String}{Q:Unit->σ->Prop}{st:σ}(h:Q () st):wpI M A E G (liftM (rule x):StateT σ Sem Unit) Q st:=vM fun s g=>pD ⟨g,h⟩
theorem vL{β:Type}(f:Nat->β->StateT σ Sem (ForInStep β))(I:List Nat->β->σ->Prop)(Q:β->σ->Prop)
  (ao: ∀x gE b st,I (x::gE) b st->wpI M A E G (f x b) (fun r b7=>match r with| .done b'=>Q b' b7| .yield b'=>I gE b' b7) st)(t7: ∀b st,I [] b st->Q b st):
  ∀(l:gx) (b:β) (st:σ),I l b st->wpI M A E G (forIn l b f) Q st
 |[],b,st,h=>by rw[List.forIn_nil];exact fO (t7 _ _ h)
 |x::gE,b,st,h=>by
  rw[qC];refine fN (gH (ao x gE b st h) fun r b7 h'=>?_)
  cases r with
  |done b'=>exact fO h'
  |yield b'=>exact vL f I Q ao t7 gE b' b7 h'
theorem gL{β:Type}{a b:Nat}{f:Nat->β->StateT σ Sem (ForInStep β)}(I:Nat->β->σ->Prop){Q:β->σ->Prop}
  (ao: ∀i c st,a<=i->i<b->I i c st->wpI M A E G (f i c) (fun r b7=>match r with| .done c'=>Q c' b7| .yield c'=>I (i+1) c' b7) st)
  (t7: ∀c st,I (max a b) c st->Q c st){c:β}{st:σ}(h:I a c st):wpI M A E G (forIn [a:b] c f) Q st:=by
 rw[Std.Legacy.Range.forIn_eq_forIn_range'];have aD:([a:b]:Std.Legacy.Range).size=b-a:=by simp[Std.Legacy.Range.size]
 show wpI M A E G (forIn (List.range' a ([a:b]:Std.Legacy.Range).size 1) c f) Q st;rw[aD];refine vL f (fun l c st=> ∃i,a<=i/\i<=max a b/\l=List.range' i (max a b-i) 1/\I i c st) Q ?_ ?_ _ c st ⟨a,gO _,by omega,by congr 1;omega,h⟩
 ·rintro x gE c st ⟨i,hai,hib,hl,hI⟩
  cases hn:max a b-i with
  |zero=>rw[hn] at hl;simp at hl
  |succ n=>
   rw[hn,List.range'_succ] at hl;obtain⟨rfl,rfl⟩:=List.cons.inj hl;refine gH (ao x c st hai (by omega) hI) fun r b7 h'=>?_
   cases r with
   |done c'=>exact h'
   |yield c'=>exact⟨x+1,by omega,by omega,by congr 1;omega,h'⟩
 ·rintro c st ⟨i,hai,hib,hl,hI⟩
  have:max a b-i=0:=by
   cases hn:max a b-i with
   |zero=>rfl
   |succ n=>rw[hn,List.range'_succ] at hl;cases hl
  have:i=max a b:=by omega
  subst this;exact t7 _ _ hI
end
structure Wk(lt:jD):Prop where
 irr: ∀i,lt i i=false
 tr: ∀i j k,lt i j=true->lt j k=true->lt i k=true
 nt: ∀i j k,lt i k=true->lt i j=true\/lt j k=true
def SL(lt:jD)(i j:Nat):Prop:=lt i j=true\/(lt j i=false/\i<j)
section
variable {lt:jD}(W:Wk lt)
include W
theorem Wk.asym(h:lt i j=true):lt j i=false:=by
 cases h2:lt j i with
 |false=>rfl
 |true=>have:=W.tr _ _ _ h h2;rw[W.irr] at this;cases this
theorem Wk.le_tr(h1:lt j i=false)(h2:lt k j=false):lt k i=false:=by
 cases h:lt k i with
 |false=>rfl
 |true=>
   rcases W.nt _ j _ h with q|q
   ·rw[h2] at q;cases q
   ·rw[h1] at q;cases q
theorem Wk.lt_le(h1:lt i j=true)(h2:lt k j=false):lt i k=true:=by
 rcases W.nt _ k _ h1 with q|q
 ·exact q
 ·rw[h2] at q;cases q
theorem Wk.le_lt(h1:lt j i=false)(h2:lt j k=true):lt i k=true:=by
 rcases W.nt _ i _ h2 with q|q
 ·rw[h1] at q;cases q
 ·exact q
theorem SL.trans(h1:SL lt i j)(h2:SL lt j k):SL lt i k:=by
 rcases h1 with h1|⟨h1,e1⟩<;>rcases h2 with h2|⟨h2,e2⟩
 ·exact .inl (W.tr _ _ _ h1 h2)
 ·exact .inl (W.lt_le h1 h2)
 ·exact .inl (W.le_lt h1 h2)
 ·exact .inr ⟨W.le_tr h1 h2,by omega⟩
theorem SL.le(h:SL lt i j):lt j i=false:=h.elim W.asym fun h=>h.1
theorem SL.asym(h1:SL lt i j)(h2:SL lt j i):False:=by
 have a:=SL.le W h1;have b:=SL.le W h2;rcases h1 with h1|⟨_,e1⟩
 ·rw[b] at h1;cases h1
 ·rcases h2 with h2|⟨_,e2⟩
  ·rw[a] at h2;cases h2
  ·omega
end
noncomputable def P(p:iQ)(k:Nat):Nat:=p.getD k 0
theorem D1{p q:iQ}{i j:Nat}(h:p[i]?=q[j]?):P p i=P q j:=by
 simp only[P,Array.getD_eq_getD_getElem?,h]
theorem pQ{p:iQ}{i:Nat}(h:i<p.size):p[i]?=some (P p i):=by simp[P,h]
def Up(lt:jD)(p:iQ)(a b:Nat):Prop:= ∀i j,a<=i->i<j->j<b->SL lt (P p i) (P p j)
def Dn(lt:jD)(p:iQ)(a b:Nat):Prop:= ∀i j,a<=i->i<j->j<b->SL lt (P p j) (P p i)
def Reg(p:iQ)(a b:Nat):Prop:= ∀k,a<=k->k<b->a<=P p k/\P p k<b
section
variable {prog:gi}{w:gd}{A:gc}{E:gw}{G:Shared->Prop}{it:kr}{lt:jD}{κ:SortKind}{N:Nat}
structure Rp(it:kr)(κ:SortKind)(N:Nat)(st:gK)(p:iQ):Prop where
 arr:arrOf st=p.map it
 kind:kindOf st=κ
 ok:failedOf st=none
 size:p.size=N
 perm:p.Perm (Array.range N)
def Ask(prog:gi)(w:gd)(A:gc)(E:gw)(G:Shared->Prop)(it:kr)(κ:SortKind)(N:Nat)(lt:jD):Prop:=
 ∀i j,i<N->j<N-> ∀s,G s-> ∀E',wpAny (model prog w) A (keyLt' κ (it i).1 (it j).1) (fun b s'=>G s'/\b=lt i j) E' s
theorem Rp.bound{st:gK}{p:iQ}(R:Rp it κ N st p){i:Nat}(h:i<N):P p i<N:=by
 have hm:P p i∈p.toList:=by
  have:=pQ (p:=p) (i:=i) (by rw[R.size];exact h);exact Array.mem_toList_iff.mpr (Array.mem_of_getElem? this)
 have:=(FW.mp R.perm).mem_iff.mp hm;simpa using this
theorem qK(H:Ask prog w A E G it κ N lt){st:gK}(hk:kindOf st=κ){i j:Nat}(hi:i<N)(hj:j<N){Q:Option Bool->SortSt->Prop}(h:Q (some (lt i j)) st):wpI (model prog w) A E G (lt' (it i) (it j)) Q st:=by
 rw[lt'_eq];refine fN (jv ?_);rw[hk];refine fN (vM fun s g=>qi (ky (H i j hi hj s g fun _ _=>False) (fun b s' hb=>?_) fun e s' he=>he.elim));obtain⟨g',rfl⟩:=hb;exact⟨g',fO h⟩
theorem qL{xs:ku}{q:iQ}(hx:xs=q.map it){i:Nat}(hi:i<q.size){st:gK}{Q:Keyed->SortSt->Prop}(h:Q (it (P q i)) st):wpI (model prog w) A E G (elem' xs i) Q st:=by
 rw[elem'_eq,hx];have:(q.map it)[i]?=some (it (P q i)):=by rw[Array.getElem?_map,pQ hi];rfl
 rw[this];exact fO h
theorem mv(H:Ask prog w A E G it κ N lt){st:gK}{p:iQ}(R:Rp it κ N st p){i j:Nat}(hi:i<N)(hj:j<N){Q:Option Bool->SortSt->Prop}(h:Q (some (lt (P p i) (P p j))) st):wpI (model prog w) A E G (ltAt' i j) Q st:=by
 rw[ltAt'_eq];refine fN (jv ?_);refine fN (qL R.arr (by rw[R.size];exact hi) (fN (qL R.arr (by rw[R.size];exact hj) ?_)));exact qK H R.kind (R.bound hi) (R.bound hj) h
theorem yO(p:iQ)(i j d:Nat):mirror (p.map it) i j d=(mirror p i j d).map it:=Bx it _ _ _ _
theorem zl(p:iQ)(i d:Nat):bubble (p.map it) i d=(bubble p i d).map it:=Bx it _ _ _ _
theorem Rp.mirror{st:gK}{p:iQ}(R:Rp it κ N st p)(i j d:Nat):Rp it κ N (setArr st (PyProof.Rows.mirror (arrOf st) i j d)) (PyProof.Rows.mirror p i j d):=
 ⟨by show PyProof.Rows.mirror (arrOf st) i j d=_;rw[R.arr,yO],R.kind,R.ok,by rw[mirror_size,R.size],(mirror_perm _ _ _ _).trans R.perm⟩
theorem Rp.bubble{st:gK}{p:iQ}(R:Rp it κ N st p)(i d:Nat):Rp it κ N (setArr st (PyProof.Rows.bubble (arrOf st) i d)) (PyProof.Rows.bubble p i d):=
 ⟨by show PyProof.Rows.bubble (arrOf st) i d=_;rw[R.arr,zl],R.kind,R.ok,by rw[bubble_size,R.size],(bubble_perm _ _ _).trans R.perm⟩
theorem pZ{st:gK}{i j:Nat}{Q:Unit->SortSt->Prop}(h:Q () (setArr st (mirror (arrOf st) i j ((j-i) / 2)))):wpI (model prog w) A E G (reverseSlice' i j) Q st:=by
 rw[reverseSlice'_eq];exact iB h
theorem Cf{st:gK}{i j:Nat}{Q:Unit->SortSt->Prop}(h:Q () (setArr st (bubble (arrOf st) i (i-j)))):wpI (model prog w) A E G (moveDown' i j) Q st:=by
 rw[moveDown'_eq];exact iB h
theorem ip(hj:j<=p.size)(k:Nat):P (mirror p i j ((j-i) / 2)) k=if i<=k/\k<j then P p (i+j-1-k) else P p k:=by
 have e:=getElem?_mirror_all (i:=i) hj k;split at e
 ·rename_i h;rw[gh h];exact D1 e
 ·rename_i h;rw[gk h];exact D1 e
theorem D2(hs:src<p.size)(hd:d<=src)(k:Nat):P (bubble p src d) k=if k=src-d then P p src else if src-d<k/\k<=src then P p (k-1) else P p k:=by
 have e:=getElem?_bubble hs d hd k;split at e
 ·rename_i h;rw[gh h];exact D1 e
 ·rename_i h;rw[gk h];split at e
  ·rename_i h2;rw[gh h2];exact D1 e
  ·rename_i h2;rw[gk h2];exact D1 e
theorem Up.mirror(h:Up lt p a b)(hb:b<=p.size):Dn lt (PyProof.Rows.mirror p a b ((b-a) / 2)) a b:=fun i j h1 h2 h3=>by
 rw[ip hb,ip hb,gh ⟨by lia,h3⟩,gh ⟨h1,by lia⟩];exact h _ _ (by lia) (by lia) (by lia)
theorem Dn.mirror(h:Dn lt p a b)(hb:b<=p.size):Up lt (PyProof.Rows.mirror p a b ((b-a) / 2)) a b:=fun i j h1 h2 h3=>by
 rw[ip hb,ip hb,gh ⟨h1,by lia⟩,gh ⟨by lia,h3⟩];exact h _ _ (by lia) (by lia) (by lia)
theorem Reg.mirror(h:Reg p a b)(hj:j<=p.size)(h1:a<=i)(h2:j<=b):Reg (PyProof.Rows.mirror p i j ((j-i) / 2)) a b:=fun k h3 h4=>by
 rw[ip hj];split
 ·exact h _ (by lia) (by lia)
 ·exact h _ h3 h4
theorem zw(W:Wk lt)(H:Ask prog w A E G it κ N lt){lo e8 a:Nat}(hN:lo+e8=N)(h1:1<=a)(ha:a<=e8){st:gK}{p:iQ}(R:Rp it κ N st p)(rg:Reg p lo (lo+a))(fx: ∀k,lo+a<=k->k<N->P p k=k)(up:Up lt p lo (lo+a)){Q:Option (Option Nat)×Nat->SortSt->Prop}
  (h: ∀m,a<=m->m<=e8->Reg p lo (lo+m)->Up lt p lo (lo+m)->(m=e8\/lt (P p (lo+m)) (P p (lo+m-1))=true)->Q (none,m) st):
  wpI (model prog w) A E G (forIn [a:e8] ((none,a):Option (Option Nat)×Nat) fun _ r=>do
   let x <-ltAt' (lo+r.2) (lo+r.2-1)
   match x with
   |some j7=>if j7=true then pure (ForInStep.done (none,r.2)) else pure (ForInStep.yield (none,r.2+1))
   |_=>pure (ForInStep.done (some none,r.2))) Q st:=by
 refine gL (I:=fun x c b7=>b7=st/\c=(none,x)/\Reg p lo (lo+x)/\Up lt p lo (lo+x)) ?step ?fin ⟨rfl,rfl,rg,up⟩
 case fin=>
  rintro c b7 ⟨rfl,rfl,r1,u1⟩;rw[show max a e8=e8 by lia] at r1 u1 ⊢;exact h e8 ha (gO _) r1 u1 (.inl rfl)
 case step=>
  rintro x c b7 fq hxn ⟨rfl,rfl,r1,u1⟩;refine fN (mv H R (by lia) (by lia) ?_);dsimp only
  cases hl:lt (P p (lo+x)) (P p (lo+x-1)) with
  |true=>simp only[gQ];exact fO (h x fq (by lia) r1 u1 (.inr hl))
  |false=>
   simp only[hG,iL];have hx:P p (lo+x)=lo+x:=fx _ (by lia) (by lia);have y7:=r1 (lo+x-1) (by lia) (by lia);have sl:SL lt (P p (lo+x-1)) (P p (lo+x)):= .inr ⟨hl,by lia⟩;refine fO ⟨rfl,rfl,fun k k1 k2=>?_,fun i j i1 ij j2=>?_⟩
   ·rcases uf k (lo+x) with q|q
    ·have:=r1 k k1 q;lia
    ·have:k=lo+x:=by lia
     subst this;lia
   ·rcases uf j (lo+x) with q|q
    ·exact u1 i j i1 ij q
    ·have:j=lo+x:=by lia
     subst this;rcases uf i (lo+x-1) with q2|q2
     ·exact SL.trans W (u1 i _ i1 q2 (by lia)) sl
     ·have:i=lo+x-1:=by lia
      subst this;exact sl
structure Fall(lt:jD)(p:iQ)(lo x q N:Nat):Prop where
 le:q+1<=x
 fx: ∀k,lo+x<=k->k<N->P p k=k
 rg:Reg p lo (lo+x)
 dn:Dn lt p lo (lo+x-(q+1))
 st: ∀i j,lo<=i->i<lo+x-(q+1)->lo+x-(q+1)<=j->j<lo+x->lt (P p j) (P p i)=true
 eq: ∀i j,lo+x-(q+1)<=i->i<j->j<lo+x->lt (P p i) (P p j)=false/\lt (P p j) (P p i)=false/\P p i<P p j
theorem Fall.turn{p:iQ}{lo x q:Nat}(F:Fall lt p lo x q N)(hz:lo+x<=p.size):Dn lt (PyProof.Rows.mirror p (lo+x-(q+1)) (lo+x) ((lo+x-(lo+x-(q+1))) / 2)) lo (lo+x):=fun i j i1 ij j2=>by
 have hle:=F.le;rw[ip hz,ip hz];by_cases hj:lo+x-(q+1)<=j
 ·rw[gh ⟨hj,j2⟩];by_cases hi:lo+x-(q+1)<=i
  ·rw[gh ⟨hi,by lia⟩];obtain⟨e1,e2,e3⟩:=F.eq (lo+x-(q+1)+(lo+x)-1-j) (lo+x-(q+1)+(lo+x)-1-i) (by lia) (by lia) (by lia);exact .inr ⟨e2,e3⟩
  ·rw[gk (fun z=>hi z.1)];exact .inl (F.st _ _ i1 (by lia) (by lia) (by lia))
 ·rw[gk (fun z=>hj z.1),gk (fun z=>by lia)];exact F.dn i j i1 ij (by lia)
theorem Fall.flat{p:iQ}{lo x:Nat}(F:Fall lt p lo x 0 N):Dn lt p lo (lo+x):=fun i j i1 ij j2=>by
 have hle:=F.le;by_cases hj:lo+x-1<=j
 ·exact .inl (F.st i j i1 (by lia) (by lia) (by lia))
 ·exact F.dn i j i1 ij (by lia)
def Ran(it:kr)(lt:jD)(κ:SortKind)(N lo e8:Nat)(p0:iQ)(bf:gK)(Q:sh):Prop:=
 ∀n st p,Rp it κ N st p->pendingOf st=pendingOf bf->1<=n->n<=e8->(∀k,k<lo->P p k=P p0 k)->(∀k,lo+n<=k->k<N->P p k=k)->Reg p lo (lo+n)->Up lt p lo (lo+n)->Q (some n) st
theorem Ci(W:Wk lt)(H:Ask prog w A E G it κ N lt){lo e8 n:Nat}(hN:lo+e8=N)(hn:n<=e8){st:gK}{p:iQ}(R:Rp it κ N st p)(F:Fall lt p lo n 0 N){Q:Option (Option Nat)×Nat×Nat->SortSt->Prop}
  (h: ∀x q b7 p',Rp it κ N b7 p'->pendingOf b7=pendingOf st->n<=x->x<=e8->(∀k,k<lo->P p' k=P p k)->Fall lt p' lo x q N->Q (none,x,q) b7):
  wpI (model prog w) A E G (forIn [n:e8] ((none,n,0):Option (Option Nat)×Nat×Nat) fun _ r=>do
   let x <-ltAt' (lo+r.2.1) (lo+r.2.1-1)
   match x with
   |some j7=>
    if j7=true then
     if r.2.2>0 then do
      reverseSlice' (lo+r.2.1-(r.2.2+1)) (lo+r.2.1)
      pure (ForInStep.yield (none,r.2.1+1,0))
     else pure (ForInStep.yield (none,r.2.1+1,0))
    else do
     let x <-ltAt' (lo+r.2.1-1) (lo+r.2.1)
     match x with
     |some ag=>if ag=true then pure (ForInStep.done (none,r.2.1,r.2.2)) else pure (ForInStep.yield (none,r.2.1+1,r.2.2+1))
     |_=>pure (ForInStep.done (some none,r.2.1,r.2.2))
   |_=>pure (ForInStep.done (some none,r.2.1,r.2.2))) Q st:=by
 refine gL (I:=fun x c b7=> ∃q p',c=(none,x,q)/\Rp it κ N b7 p'/\pendingOf b7=pendingOf st/\(∀k,k<lo->P p' k=P p k)/\Fall lt p' lo x q N) ?step ?fin ⟨0,p,rfl,R,rfl,fun _ _=>rfl,F⟩
 case fin=>
  rintro c b7 ⟨q,p',rfl,R',e',f',F'⟩;rw[show max n e8=e8 by lia] at F' ⊢;exact h e8 q b7 p' R' e' hn (gO _) f' F'
 case step=>
  rintro x c b7 fq hxn ⟨q,p',rfl,R',e',f',F'⟩;have hle:=F'.le;have hx:P p' (lo+x)=lo+x:=F'.fx _ (by lia) (by lia);dsimp only;refine fN (mv H R' (by lia) (by lia) ?_);dsimp only
  have next:lt (P p' (lo+x)) (P p' (lo+x-1))=true-> ∀i,lo<=i->i<lo+x->lt (P p' (lo+x)) (P p' i)=true:=fun hl i i1 i2=>by
   by_cases hi:lo+x-(q+1)<=i
   ·by_cases bH:i=lo+x-1
    ·subst bH;exact hl
    ·exact W.lt_le hl (F'.eq i (lo+x-1) hi (by lia) (by lia)).1
   ·exact W.tr _ _ _ hl (F'.st i (lo+x-1) i1 (by lia) (by lia) (by lia))
  have grow: ∀p2:Array Nat,(∀k,¬(lo<=k/\k<lo+x)->P p2 k=P p' k)->(∀i,lo<=i->i<lo+x-> ∃j,lo<=j/\j<lo+x/\P p2 i=P p' j)->Dn lt p2 lo (lo+x)->lt (P p' (lo+x)) (P p' (lo+x-1))=true->Fall lt p2 lo (x+1) 0 N:=fun p2 h1 h2 h3 hl=>by
   refine⟨by lia,fun k k1 k2=>by rw[h1 k (by lia)];exact F'.fx k (by lia) k2,fun k k1 k2=>?_,?_,fun i j i1 i2 j1 j2=>?_,fun i j i1 i2 j2=>by lia⟩
   ·by_cases hk:k<lo+x
    ·obtain⟨j,j1,j2,e⟩:=h2 k k1 hk;have:=F'.rg j j1 j2
     lia
    ·have:k=lo+x:=by lia
     subst this;rw[h1 _ (by lia),hx];lia
   ·rw[show lo+(x+1)-(0+1)=lo+x by lia];exact h3
   ·have:j=lo+x:=by lia
    subst this;rw[h1 (lo+x) (by lia)];obtain⟨j,j1,j2,e⟩:=h2 i i1 (by lia);rw[e];exact next hl j j1 j2
  cases hl:lt (P p' (lo+x)) (P p' (lo+x-1)) with
  |true=>
   simp only[gQ];have hz:lo+x<=p'.size:=by rw[R'.size];lia
   by_cases hq:q>0
   ·rw[gh hq];refine fN (pZ (fO ⟨0,_,rfl,R'.mirror _ _ _,e',fun k hk=>?_,grow _ (fun k hk=>?_) (fun i i1 i2=>?_) (F'.turn hz) hl⟩))
    ·rw[ip hz,gk (by lia)];exact f' k hk
    ·rw[ip hz,gk (by lia)]
    ·rw[ip hz];split
     ·exact⟨_,by lia,by lia,rfl⟩
     ·exact⟨i,i1,i2,rfl⟩
   ·rw[gk hq];have:q=0:=by lia
    subst this;exact fO ⟨0,p',rfl,R',e',f',grow p' (fun _ _=>rfl) (fun i i1 i2=>⟨i,i1,i2,rfl⟩) F'.flat hl⟩
  |false=>
   simp only[hG,iL];refine fN (mv H R' (by lia) (by lia) ?_);dsimp only
   cases aE:lt (P p' (lo+x-1)) (P p' (lo+x)) with
   |true=>simp only[gQ];exact fO (h x q b7 p' R' e' fq (by lia) f' F')
   |false=>
    simp only[hG,iL];have y7:=F'.rg (lo+x-1) (by lia) (by lia)
    have same: ∀i,lo+x-(q+1)<=i->i<lo+x->lt (P p' i) (P p' (lo+x))=false/\lt (P p' (lo+x)) (P p' i)=false:=fun i i1 i2=>by
     by_cases hi:i=lo+x-1
     ·subst hi;exact⟨aE,hl⟩
     ·obtain⟨e1,e2,_⟩:=F'.eq i (lo+x-1) i1 (by lia) (by lia);exact⟨W.le_tr aE e1,W.le_tr e2 hl⟩
    refine fO ⟨q+1,p',rfl,R',e',f',by lia,fun k k1 k2=>F'.fx k (by lia) k2,fun k k1 k2=>?_,?_,fun i j i1 i2 j1 j2=>?_,fun i j i1 ij j2=>?_⟩
    ·by_cases hk:k<lo+x
     ·have:=F'.rg k k1 hk;lia
     ·have:k=lo+x:=by lia
      subst this;lia
    ·rw[show lo+(x+1)-(q+1+1)=lo+x-(q+1) by lia];exact F'.dn
    ·by_cases hj:j<lo+x
     ·exact F'.st i j i1 (by lia) (by lia) hj
     ·have:j=lo+x:=by lia
      subst this;have:=F'.st i (lo+x-1) i1 (by lia) (by lia) (by lia);exact W.le_lt aE this
    ·by_cases hj:j<lo+x
     ·exact F'.eq i j (by lia) ij hj
     ·have:j=lo+x:=by lia
      subst this;obtain⟨e1,e2⟩:=same i (by lia) (by lia);have:=F'.rg i (by lia) (by lia);exact⟨e1,e2,by lia⟩
noncomputable def zo(lo a e8:Nat):StateT SortSt Sem (Option (Option Nat)×Nat):=forIn [a:e8] ((none,a):Option (Option Nat)×Nat) fun _ r=>do
   let x <-ltAt' (lo+r.2) (lo+r.2-1)
   match x with
   |some j7=>if j7=true then pure (ForInStep.done (none,r.2)) else pure (ForInStep.yield (none,r.2+1))
   |_=>pure (ForInStep.done (some none,r.2))
noncomputable def DQ(lo n e8:Nat):StateT SortSt Sem (Option (Option Nat)×Nat×Nat):=forIn [n:e8] ((none,n,0):Option (Option Nat)×Nat×Nat) fun _ r=>do
   let x <-ltAt' (lo+r.2.1) (lo+r.2.1-1)
   match x with
   |some j7=>
    if j7=true then
     if r.2.2>0 then do
      reverseSlice' (lo+r.2.1-(r.2.2+1)) (lo+r.2.1)
      pure (ForInStep.yield (none,r.2.1+1,0))
     else pure (ForInStep.yield (none,r.2.1+1,0))
    else do
     let x <-ltAt' (lo+r.2.1-1) (lo+r.2.1)
     match x with
     |some ag=>if ag=true then pure (ForInStep.done (none,r.2.1,r.2.2)) else pure (ForInStep.yield (none,r.2.1+1,r.2.2+1))
     |_=>pure (ForInStep.done (some none,r.2.1,r.2.2))
   |_=>pure (ForInStep.done (some none,r.2.1,r.2.2))
noncomputable def wY(lo n e8:Nat):StateT SortSt Sem (Option Nat):=do
 reverseSlice' lo (lo+n)
 let r <-zo lo n e8
 match r.1 with
 |some r=>pure r
 |none=>pure (some r.2)
noncomputable def tx(lo n e8:Nat):StateT SortSt Sem (Option Nat):=do
 liftM (rule "list.sort.descending-run")
 let r <-DQ lo (n+1) e8
 match r.1 with
 |some r=>pure r
 |none=>
  if r.2.2>0 then do
   reverseSlice' (lo+r.2.1-(r.2.2+1)) (lo+r.2.1)
   wY lo r.2.1 e8
  else wY lo r.2.1 e8
theorem xb(lo e8:Nat):countRun' lo e8=(do
  let r <-zo lo 1 e8
  match r.1 with
  |some r=>pure r
  |none=>
   if(r.2==e8)=true then pure (some r.2)
   else if r.2>1 then do
    let x <-ltAt' lo (lo+r.2-1)
    match x with
    |some cb=>if cb=true then pure (some r.2) else do
      reverseSlice' lo (lo+r.2)
      tx lo r.2 e8
    |_=>pure none
   else tx lo r.2 e8):=by
 rw[countRun'_eq];dsimp only;unfold zo
 congr 1
 funext r;obtain⟨r,n⟩:=r
 cases r with
 |some r=>rfl
 |none=>
  dsimp only;by_cases h1:(n==e8)=true
  ·rw[gh h1,gh h1]
  ·rw[gk h1,gk h1];by_cases h2:n>1
   ·rw[gh h2,gh h2]
    congr 1
    funext x
    cases x with
    |none=>rfl
    |some cb=>
     dsimp only
     cases cb with
     |true=>rfl
     |false=>
      simp only[hG,iL]
      congr 1
      funext _;unfold tx DQ
      congr 1
      funext _
      congr 1
      funext r2;obtain⟨r2,n2,q2⟩:=r2
      cases r2 with
      |some r=>rfl
      |none=>
       dsimp only;by_cases h3:q2>0
       ·rw[gh h3,gh h3]
        congr 1
        funext _;unfold wY zo
        congr 1
        funext _
        congr 1
        funext r3;obtain⟨r3,n3⟩:=r3;cases r3<;>rfl
       ·rw[gk h3,gk h3];unfold wY zo
        congr 1
        funext _
        congr 1
        funext r3;obtain⟨r3,n3⟩:=r3;cases r3<;>rfl
   ·rw[gk h2,gk h2];unfold tx DQ
    congr 1
    funext _
    congr 1
    funext r2;obtain⟨r2,n2,q2⟩:=r2
    cases r2 with
    |some r=>rfl
    |none=>
     dsimp only;by_cases h3:q2>0
     ·rw[gh h3,gh h3]
      congr 1
      funext _;unfold wY zo
      congr 1
      funext _
      congr 1
      funext r3;obtain⟨r3,n3⟩:=r3;cases r3<;>rfl
     ·rw[gk h3,gk h3];unfold wY zo
      congr 1
      funext _
      congr 1
      funext r3;obtain⟨r3,n3⟩:=r3;cases r3<;>rfl
theorem zv(W:Wk lt)(H:Ask prog w A E G it κ N lt){lo e8 n:Nat}(hN:lo+e8=N)(h1:1<=n)(hn:n<=e8){st bf:gK}{p p0:iQ}(R:Rp it κ N st p)(e0:pendingOf st=pendingOf bf)(f0: ∀k,k<lo->P p k=P p0 k)(fx: ∀k,lo+n<=k->k<N->P p k=k)(rg:Reg p lo (lo+n))(dn:Dn lt p lo (lo+n))
  {Q:sh}(h:Ran it lt κ N lo e8 p0 bf Q):wpI (model prog w) A E G (wY lo n e8) Q st:=by
 unfold wY;have hz:lo+n<=p.size:=by rw[R.size];lia
 have out: ∀k,¬(lo<=k/\k<lo+n)->P (PyProof.Rows.mirror p lo (lo+n) ((lo+n-lo) / 2)) k=P p k:=fun k hk=>by rw[ip hz,gk hk]
 refine fN (pZ ?_);have R1:=R.mirror lo (lo+n) ((lo+n-lo) / 2);refine fN (zw W H hN h1 hn R1 (rg.mirror hz (gO _) (gO _)) (fun k k1 k2=>by rw[out k (by lia)];exact fx k k1 k2) (dn.mirror hz) fun m m1 m2 cZ bY _=>?_);exact fO (h m _ _ R1 e0 (by lia) m2 (fun k hk=>by rw[out k (by lia)];exact f0 k hk) (fun k k1 k2=>by rw[out k (by lia)];exact fx k (by lia) k2) cZ bY)
theorem vO(W:Wk lt)(H:Ask prog w A E G it κ N lt){lo e8 n:Nat}(hN:lo+e8=N)(hn:n+1<=e8){st bf:gK}{p p0:iQ}(R:Rp it κ N st p)(e0:pendingOf st=pendingOf bf)(f0: ∀k,k<lo->P p k=P p0 k)(F:Fall lt p lo (n+1) 0 N)
  {Q:sh}(h:Ran it lt κ N lo e8 p0 bf Q):wpI (model prog w) A E G (tx lo n e8) Q st:=by
 unfold tx;refine fN (lp (fN (Ci W H hN hn R F fun x q b7 p' R' e' x1 x2 f' F'=>?_)));dsimp only;have hle:=F'.le;have hz:lo+x<=p'.size:=by rw[R'.size];lia
 by_cases hq:q>0
 ·rw[gh hq];refine fN (pZ (zv W H hN (by lia) x2 (R'.mirror _ _ _) (e'.trans e0) (fun k hk=>?_) (fun k k1 k2=>?_) (F'.rg.mirror hz (by lia) (gO _)) (F'.turn hz) h))
  ·rw[ip hz,gk (by lia)];exact(f' k hk).trans (f0 k hk)
  ·rw[ip hz,gk (by lia)];exact F'.fx k k1 k2
 ·rw[gk hq];have:q=0:=by lia
  subst this;exact zv W H hN (by lia) x2 R' (e'.trans e0) (fun k hk=>(f' k hk).trans (f0 k hk)) F'.fx F'.rg F'.flat h
theorem AG(W:Wk lt)(H:Ask prog w A E G it κ N lt){lo e8:Nat}(hN:lo+e8=N)(h1:1<=e8){st:gK}{p:iQ}(R:Rp it κ N st p)(fx: ∀k,lo<=k->k<N->P p k=k){Q:sh}(h:Ran it lt κ N lo e8 p st Q):
  wpI (model prog w) A E G (countRun' lo e8) Q st:=by
 rw[xb];refine fN (zw W H hN (gO _) h1 R (fun k k1 k2=>by rw[fx k k1 (by lia)];lia) (fun k k1 k2=>fx k (by lia) k2) (fun i j i1 ij j2=>by lia) fun n n1 n2 rg up hl=>?_);dsimp only;by_cases he:(n==e8)=true
 ·rw[gh he];exact fO (h n st p R rfl n1 n2 (fun _ _=>rfl) (fun k k1 k2=>fx k (by lia) k2) rg up)
 ·rw[gk he];have ai:n≠e8:=fun z=>he (by simp[z]);have hl:lt (P p (lo+n)) (P p (lo+n-1))=true:=hl.resolve_left ai;have hx:P p (lo+n)=lo+n:=fx _ (by lia) (by lia);by_cases hg:n>1
  ·rw[gh hg];refine fN (mv H R (by lia) (by lia) ?_);dsimp only
   cases hr:lt (P p lo) (P p (lo+n-1)) with
   |true=>simp only[gQ];exact fO (h n st p R rfl n1 n2 (fun _ _=>rfl) (fun k k1 k2=>fx k (by lia) k2) rg up)
   |false=>
    simp only[hG,iL];have hz:lo+n<=p.size:=by rw[R.size];lia
    have out: ∀k,¬(lo<=k/\k<lo+n)->P (PyProof.Rows.mirror p lo (lo+n) ((lo+n-lo) / 2)) k=P p k:=fun k hk=>by rw[ip hz,gk hk]
    have small: ∀i,lo<=i->i<lo+n->lt (P p (lo+n)) (P p i)=true:=fun i i1 i2=>by
     have hi:lt (P p i) (P p (lo+n-1))=false:=by
      by_cases hi:i=lo
      ·subst hi;exact hr
      ·exact W.le_tr hr (SL.le W (up lo i (gO _) (by lia) i2)) |> fun z=>by
        cases hc:lt (P p i) (P p (lo+n-1)) with
        |false=>rfl
        |true=>
         have:=W.le_lt (SL.le W (up lo i (gO _) (by lia) i2)) hc;rw[hr] at this;cases this
     exact W.lt_le hl hi
    refine fN (pZ (vO W H hN (by lia) (R.mirror _ _ _) rfl (fun k hk=>out k (by lia)) ⟨by lia,fun k k1 k2=>by rw[out k (by lia)];exact fx k (by lia) k2,fun k k1 k2=>?_,?_,fun i j i1 i2 j1 j2=>?_,fun i j i1 ij j2=>by lia⟩ h))
    ·by_cases hk:k<lo+n
     ·have:=rg.mirror (i:=lo) (j:=lo+n) hz (gO _) (gO _) k k1 hk;lia
     ·have:k=lo+n:=by lia
      subst this;rw[out _ (by lia),hx];lia
    ·rw[show lo+(n+1)-(0+1)=lo+n by lia];exact up.mirror hz
    ·have:j=lo+n:=by lia
     subst this;rw[out (lo+n) (by lia),ip hz,gh ⟨i1,by lia⟩];exact small _ (by lia) (by lia)
  ·rw[gk hg];have:n=1:=by lia
   subst this;refine vO W H hN (by lia) R rfl (fun _ _=>rfl) ⟨by lia,fun k k1 k2=>fx k (by lia) k2,fun k k1 k2=>by rw[fx k k1 (by lia)];lia,fun i j i1 ij j2=>by lia,fun i j i1 i2 j1 j2=>?_,fun i j i1 ij j2=>by lia⟩ h;have e1:j=lo+1:=by lia
   have e2:i=lo:=by lia
   subst e1;subst e2;exact hl
theorem Eb(W:Wk lt)(H:Ask prog w A E G it κ N lt){lo n ok:Nat}(h1:1<=ok)(hok:ok<=n)(hn:lo+n<=N){st:gK}{p:iQ}(R:Rp it κ N st p)(fx: ∀k,lo+ok<=k->k<N->P p k=k)(rg:Reg p lo (lo+ok))(up:Up lt p lo (lo+ok)){Q:Bool->SortSt->Prop}
  (h: ∀b7 p',Rp it κ N b7 p'->pendingOf b7=pendingOf st->(∀k,k<lo->P p' k=P p k)->(∀k,lo+n<=k->k<N->P p' k=k)->Reg p' lo (lo+n)->Up lt p' lo (lo+n)->Q true b7):wpI (model prog w) A E G (binarySort' lo n ok) Q st:=by
 rw[binarySort'_eq];dsimp only;rw[show max ok 1=ok by lia]
 refine fN (gH (gL (I:=fun k c b7=>c=(none,())/\ ∃p',Rp it κ N b7 p'/\pendingOf b7=pendingOf st/\(∀i,i<lo->P p' i=P p i)/\(∀i,lo+k<=i->i<N->P p' i=i)/\Reg p' lo (lo+k)/\Up lt p' lo (lo+k))
  (Q:=fun c b7=>c=(none,())/\ ∃p',Rp it κ N b7 p'/\pendingOf b7=pendingOf st/\(∀i,i<lo->P p' i=P p i)/\(∀i,lo+n<=i->i<N->P p' i=i)/\Reg p' lo (lo+n)/\Up lt p' lo (lo+n)) ?step ?fin ⟨rfl,p,R,rfl,fun _ _=>rfl,fx,rg,up⟩) ?post)
 case post=>
  rintro c b7 ⟨rfl,p',a1,a2,a3,a4,a5,a6⟩;exact fO (h b7 p' a1 a2 a3 a4 a5 a6)
 case fin=>
  rintro c b7 hc;rw[show max ok n=n by lia] at hc;exact hc
 case step=>
  rintro k c b7 cC dO ⟨rfl,p',R',e',f',fx',cZ,bY⟩;have hkey:P p' (lo+k)=lo+k:=fx' _ (by lia) (by lia)
  refine fN (gH (gL (I:=fun i c h9=>h9=b7/\ ∃l r,c=(none,l,r)/\l<=r/\r<=k/\r-l<=k-i/\(∀i,i<l->lt (P p' (lo+k)) (P p' (lo+i))=false)/\(∀i,r<=i->i<k->lt (P p' (lo+k)) (P p' (lo+i))=true))
   (Q:=fun c h9=>h9=b7/\ ∃l r,c=(none,l,r)/\l<=k/\(∀i,i<l->lt (P p' (lo+k)) (P p' (lo+i))=false)/\(∀i,l<=i->i<k->lt (P p' (lo+k)) (P p' (lo+i))=true)) ?s2 ?f2 ⟨rfl,0,k,rfl,by lia,by lia,by lia,fun i hi=>by lia,fun i i1 i2=>by lia⟩) ?p2)
  case f2=>
   rintro c h9 ⟨rfl,l,r,rfl,a1,a2,a3,a4,a5⟩;have:l=r:=by lia
   subst this;exact⟨rfl,l,l,rfl,a2,a4,a5⟩
  case s2=>
   rintro i c h9 _ hi ⟨rfl,l,r,rfl,a1,a2,a3,a4,a5⟩;dsimp only;by_cases hlr:l>=r
   ·rw[gh hlr];have:l=r:=by lia
    subst this;exact fO ⟨rfl,l,l,rfl,a2,a4,a5⟩
   ·rw[gk hlr];refine fN (mv H R' (by lia) (by lia) ?_);dsimp only
    cases hl:lt (P p' (lo+k)) (P p' (lo+(l+r) / 2)) with
    |true=>
     simp only[gQ];refine fO ⟨rfl,l,(l+r) / 2,rfl,by lia,by lia,by lia,a4,fun i i1 i2=>?_⟩;by_cases hi:i=(l+r) / 2
     ·subst hi;exact hl
     ·exact W.lt_le hl (SL.le W (bY (lo+(l+r) / 2) (lo+i) (by lia) (by lia) (by lia)))
    |false=>
     simp only[hG,iL];refine fO ⟨rfl,(l+r) / 2+1,r,rfl,by lia,a2,by lia,fun i i1=>?_,a5⟩;by_cases hi:i=(l+r) / 2
     ·subst hi;exact hl
     ·exact W.le_tr (SL.le W (bY (lo+i) (lo+(l+r) / 2) (by lia) (by lia) (by lia))) hl
  case p2=>
   rintro c h9 ⟨rfl,l,r,rfl,hl,a4,a5⟩;dsimp only;have hz:lo+k<p'.size:=by rw[R'.size];lia
   have hd:lo+k-(lo+l)<=lo+k:=by lia
   have ib: ∀i,P (PyProof.Rows.bubble p' (lo+k) (lo+k-(lo+l))) i=if i=lo+l then P p' (lo+k) else if lo+l<i/\i<=lo+k then P p' (i-1) else P p' i:=fun i=>by
    rw[D2 hz hd,show lo+k-(lo+k-(lo+l))=lo+l by lia]
   refine fN (Cf (fO ⟨rfl,_,R'.bubble _ _,e',fun i hi=>?_,fun i i1 i2=>?_,fun i i1 i2=>?_,fun i j i1 ij j2=>?_⟩))
   ·rw[ib,gk (by lia),gk (by lia)];exact f' i hi
   ·rw[ib,gk (by lia),gk (by lia)];exact fx' i (by lia) i2
   ·rw[ib];split
    ·rw[hkey];lia
    ·split
     ·have:=cZ (i-1) (by lia) (by lia);lia
     ·have:=cZ i i1 (by lia);lia
   ·
    have above: ∀m,l<=m->m<k->SL lt (P p' (lo+k)) (P p' (lo+m)):=fun m m1 m2=> .inl (a5 m m1 m2);have below: ∀m,m<l->SL lt (P p' (lo+m)) (P p' (lo+k)):=fun m m1=> .inr ⟨a4 m m1,by have:=cZ (lo+m) (by lia) (by lia);lia⟩;rw[ib,ib];by_cases hi:i=lo+l
    ·subst hi;rw[gh rfl,gk (by lia),gh (by lia)];have:=above (j-1-lo) (by lia) (by lia)
     rwa [show lo+(j-1-lo)=j-1 by lia] at this
    ·rw[gk hi];by_cases hj:j=lo+l
     ·subst hj;rw[gh rfl,gk (by lia)];have:=below (i-lo) (by lia)
      rwa [show lo+(i-lo)=i by lia] at this
     ·rw[gk hj];by_cases ci:lo+l<i/\i<=lo+k
      ·rw[gh ci,gh (by lia)];exact bY _ _ (by lia) (by lia) (by lia)
      ·rw[gk ci];by_cases cj:lo+l<j/\j<=lo+k
       ·rw[gh cj];exact bY _ _ i1 (by lia) (by lia)
       ·rw[gk cj];exact bY _ _ i1 ij (by lia)
end
noncomputable def jk:Bool->Keyed->Array Keyed->Nat->Nat->Nat->StateT SortSt Sem (Option Nat):=sortPriv%PySem.Builtin.gallop
noncomputable def rq:Array Keyed->Array Keyed->StateT SortSt Sem (Array Keyed):=sortPriv%PySem.Builtin.mergeLo
noncomputable def rA:Array Keyed->Array Keyed->StateT SortSt Sem (Array Keyed):=sortPriv%PySem.Builtin.mergeHi
noncomputable def oj:Nat->StateT SortSt Sem Unit:=sortPriv%PySem.Builtin.setMinGallop
noncomputable def bey(left:Bool)(key:Keyed)(arr:ku)(base i:Nat):StateT SortSt Sem (Option Bool):=do
 let y <-elem' arr (base+i)
 if left=true then lt' y key else do
  let r <-lt' key y
  pure (Option.map (fun x=>!x) r)
theorem Be(left:Bool)(key:Keyed)(arr:ku)(base n hint:Nat):jk left key arr base n hint=(do
 let mut lastofs:=0
 let mut ofs:=1
 let mut lo:=0
 let mut hi:=0
 let some right <-bey left key arr base hint|return none
 if right then
  let o7:=n-hint
  for _ in [0:n] do
   if ofs>=o7 then break
   let some more <-bey left key arr base (hint+ofs)|return none
   if !more then break
   lastofs:=ofs
   ofs:=2*ofs+1
  lo:=hint+lastofs+1
  hi:=hint+min ofs o7
 else
  let o7:=hint+1
  for _ in [0:n] do
   if ofs>=o7 then break
   let some found <-bey left key arr base (hint-ofs)|return none
   if found then break
   lastofs:=ofs
   ofs:=2*ofs+1
  lo:=hint+1-min ofs o7
  hi:=hint-lastofs
 for _ in [0:n] do
  if lo>=hi then break
  let m:=lo+(hi-lo) / 2
  let some more <-bey left key arr base m|return none
  if more then lo:=m+1 else hi:=m
 return some hi):=rfl
section
variable {prog:gi}{w:gd}{A:gc}{E:gw}{G:Shared->Prop}{it:kr}{lt:jD}{κ:SortKind}{N:Nat}
noncomputable def Bq(lt:jD)(left:Bool)(x:Nat)(q:iQ)(base i:Nat):Bool:=if left=true then lt (P q (base+i)) x else !lt x (P q (base+i))
theorem qa(H:Ask prog w A E G it κ N lt){left:Bool}{x:Nat}{q:iQ}{base i:Nat}(hx:x<N)(hq: ∀k,k<q.size->P q k<N)(hi:base+i<q.size){st:gK}(hk:kindOf st=κ){Q:Option Bool->SortSt->Prop}(h:Q (some (Bq lt left x q base i)) st):
  wpI (model prog w) A E G (bey left (it x) (q.map it) base i) Q st:=by
 unfold bey;refine fN (qL rfl hi ?_);unfold Bq at h
 cases left with
 |true=>simp only[gQ] at h ⊢;exact qK H hk (hq _ hi) hx h
 |false=>simp only[hG,iL] at h ⊢;exact fN (qK H hk hx (hq _ hi) (fO h))
theorem vN(H:Ask prog w A E G it κ N lt){left:Bool}{x:Nat}{q:iQ}{base n:Nat}(hx:x<N)(hq: ∀k,k<q.size->P q k<N)(hn:base+n<=q.size){st:gK}(hk:kindOf st=κ)(mono: ∀i j,i<=j->j<n->Bq lt left x q base j=true->Bq lt left x q base i=true)
  {lo hi:Nat}(h1:lo<=hi)(h2:hi<=n)(h3: ∀i,i<lo->Bq lt left x q base i=true)(h4: ∀i,hi<=i->i<n->Bq lt left x q base i=false){Q:Option (Option Nat)×Nat×Nat->SortSt->Prop}
  (h: ∀r,r<=n->(∀i,i<r->Bq lt left x q base i=true)->(∀i,r<=i->i<n->Bq lt left x q base i=false)->Q (none,r,r) st):
  wpI (model prog w) A E G (forIn [:n] ((none,lo,hi):Option (Option Nat)×Nat×Nat) fun _ r=>
    if r.2.1>=r.2.2 then pure (ForInStep.done (none,r.2.1,r.2.2))
    else do
     let y <-bey left (it x) (q.map it) base (r.2.1+(r.2.2-r.2.1) / 2)
     match y with
     |some more=>if more=true then pure (ForInStep.yield (none,r.2.1+(r.2.2-r.2.1) / 2+1,r.2.2)) else pure (ForInStep.yield (none,r.2.1,r.2.1+(r.2.2-r.2.1) / 2))
     |_=>pure (ForInStep.done (some none,r.2.1,r.2.2))) Q st:=by
 refine(gH (gL (I:=fun i c h9=>h9=st/\ ∃lo hi,c=(none,lo,hi)/\lo<=hi/\hi<=n/\hi-lo<=n-i/\(∀i,i<lo->Bq lt left x q base i=true)/\(∀i,hi<=i->i<n->Bq lt left x q base i=false))
  (Q:=fun c h9=>h9=st/\ ∃r,c=(none,r,r)/\r<=n/\(∀i,i<r->Bq lt left x q base i=true)/\(∀i,r<=i->i<n->Bq lt left x q base i=false)) ?step ?fin ⟨rfl,lo,hi,rfl,h1,h2,by omega,h3,h4⟩) ?post)
 case post=>
  rintro c h9 ⟨rfl,r,rfl,a1,a2,a3⟩;exact h r a1 a2 a3
 case fin=>
  rintro c h9 ⟨rfl,lo,hi,rfl,a1,a2,a3,a4,a5⟩;have:lo=hi:=by omega
  subst this;exact⟨rfl,lo,rfl,a2,a4,a5⟩
 case step=>
  rintro i c h9 _ hi' ⟨rfl,lo,hi,rfl,a1,a2,a3,a4,a5⟩;dsimp only;by_cases hlh:lo>=hi
  ·rw[gh hlh];have:lo=hi:=by omega
   subst this;exact fO ⟨rfl,lo,rfl,a2,a4,a5⟩
  ·rw[gk hlh];refine fN (qa (i:=lo+(hi-lo) / 2) H hx hq (by omega) hk ?_);dsimp only
   cases hb:Bq lt left x q base (lo+(hi-lo) / 2) with
   |true=>
    simp only[gQ];exact fO ⟨rfl,_,hi,rfl,by omega,a2,by omega,fun i bH=>mono i (lo+(hi-lo) / 2) (by omega) (by omega) hb,a5⟩
   |false=>
    simp only[hG,iL];refine fO ⟨rfl,lo,_,rfl,by omega,by omega,by omega,a4,fun i i1 i2=>?_⟩
    cases hc:Bq lt left x q base i with
    |false=>rfl
    |true=>have:=mono _ _ i1 i2 hc;rw[hb] at this;cases this
theorem yo(H:Ask prog w A E G it κ N lt){left:Bool}{x:Nat}{q:iQ}{base n hint:Nat}(hx:x<N)(hq: ∀k,k<q.size->P q k<N)(hn:base+n<=q.size)(hh:hint<n){st:gK}(hk:kindOf st=κ)(mono: ∀i j,i<=j->j<n->Bq lt left x q base j=true->Bq lt left x q base i=true)
  {Q:sh}(h: ∀r,r<=n->(∀i,i<r->Bq lt left x q base i=true)->(∀i,r<=i->i<n->Bq lt left x q base i=false)->Q (some r) st):
  wpI (model prog w) A E G (jk left (it x) (q.map it) base n hint) Q st:=by
 have anti: ∀i j,i<=j->j<n->Bq lt left x q base i=false->Bq lt left x q base j=false:=fun i j ij jn hi=>by
  cases hc:Bq lt left x q base j with
  |false=>rfl
  |true=>have:=mono _ _ ij jn hc;rw[hi] at this;cases this
 rw[Be];dsimp only;refine fN (qa (i:=hint) H hx hq (by omega) hk ?_);dsimp only
 cases hb:Bq lt left x q base hint with
 |true=>
  simp only[gQ]
  refine fN (gH (gL (I:=fun i c h9=>h9=st/\ ∃last ofs,c=(none,last,ofs)/\last<ofs/\i+1<=ofs/\hint+last<n/\Bq lt left x q base (hint+last)=true)
   (Q:=fun c h9=>h9=st/\ ∃last ofs,c=(none,last,ofs)/\last<ofs/\hint+last<n/\Bq lt left x q base (hint+last)=true/\(ofs>=n-hint\/Bq lt left x q base (hint+ofs)=false)) ?step ?fin ⟨rfl,0,1,rfl,by omega,by omega,by omega,hb⟩) ?post)
  case post=>
   rintro c h9 ⟨rfl,last,ofs,rfl,a1,a2,a3,a4⟩;dsimp only;refine fN (vN H hx hq hn hk mono (lo:=hint+last+1) (hi:=hint+min ofs (n-hint)) (by omega) (by omega) (fun i hi=>mono i _ (by omega) a2 a3) (fun i i1 i2=>?_) fun r b1 b2 b3=>fO (h r b1 b2 b3));rcases a4 with a4|a4
   ·omega
   ·exact anti (hint+ofs) i (by omega) i2 a4
  case fin=>
   rintro c h9 ⟨rfl,last,ofs,rfl,a1,a2,a3,a4⟩;exact⟨rfl,last,ofs,rfl,a1,a3,a4,.inl (by omega)⟩
  case step=>
   rintro i c h9 _ hi ⟨rfl,last,ofs,rfl,a1,a2,a3,a4⟩;dsimp only;by_cases ho:ofs>=n-hint
   ·rw[gh ho];exact fO ⟨rfl,last,ofs,rfl,a1,a3,a4,.inl ho⟩
   ·rw[gk ho];refine fN (qa (i:=hint+ofs) H hx hq (by omega) hk ?_);dsimp only
    cases hc:Bq lt left x q base (hint+ofs) with
    |false=>simp only[Bool.not_false,gQ];exact fO ⟨rfl,last,ofs,rfl,a1,a3,a4,.inr hc⟩
    |true=>simp only[sA,hG,iL];exact fO ⟨rfl,ofs,2*ofs+1,rfl,by omega,by omega,by omega,hc⟩
 |false=>
  simp only[hG,iL]
  refine fN (gH (gL (I:=fun i c h9=>h9=st/\ ∃last ofs,c=(none,last,ofs)/\last<ofs/\i+1<=ofs/\last<=hint/\Bq lt left x q base (hint-last)=false)
   (Q:=fun c h9=>h9=st/\ ∃last ofs,c=(none,last,ofs)/\last<ofs/\last<=hint/\Bq lt left x q base (hint-last)=false/\(ofs>=hint+1\/Bq lt left x q base (hint-ofs)=true)) ?step ?fin ⟨rfl,0,1,rfl,by omega,by omega,by omega,hb⟩) ?post)
  case post=>
   rintro c h9 ⟨rfl,last,ofs,rfl,a1,a2,a3,a4⟩;dsimp only;refine fN (vN H hx hq hn hk mono (lo:=hint+1-min ofs (hint+1)) (hi:=hint-last) (by omega) (by omega) (fun i hi=>?_) (fun i i1 i2=>anti _ i i1 i2 a3) fun r b1 b2 b3=>fO (h r b1 b2 b3));rcases a4 with a4|a4
   ·omega
   ·by_cases ho:ofs>=hint+1
    ·omega
    ·exact mono i _ (by omega) (by omega) a4
  case fin=>
   rintro c h9 ⟨rfl,last,ofs,rfl,a1,a2,a3,a4⟩;exact⟨rfl,last,ofs,rfl,a1,a3,a4,.inl (by omega)⟩
  case step=>
   rintro i c h9 _ hi ⟨rfl,last,ofs,rfl,a1,a2,a3,a4⟩;dsimp only;by_cases ho:ofs>=hint+1
   ·rw[gh ho];exact fO ⟨rfl,last,ofs,rfl,a1,a3,a4,.inl ho⟩
   ·rw[gk ho];refine fN (qa (i:=hint-ofs) H hx hq (by omega) hk ?_);dsimp only
    cases hc:Bq lt left x q base (hint-ofs) with
    |true=>simp only[gQ];exact fO ⟨rfl,last,ofs,rfl,a1,a3,a4,.inr hc⟩
    |false=>simp only[hG,iL];exact fO ⟨rfl,ofs,2*ofs+1,rfl,by omega,by omega,by omega,hc⟩
end
theorem yP(a b:ku):rq a b=(do
 rule "list.sort.merge-lo"
 let total:=a.size+b.size
 let done (out:ku) (ia ib:Nat):=out++a.extract ia a.size++b.extract ib b.size
 let n8 (out:ku) (ia ib:Nat):=out++b.extract ib b.size++a.extract ia a.size
 let mut out:Array Keyed:= #[<-elem' b 0]
 let mut ia:=0
 let mut ib:=1
 if ib==b.size then return done out ia ib
 if ia+1==a.size then return n8 out ia ib
 let mut minGallop:=gallopOf (<-get)
 for _ in [0:total] do
  let mut acount:=0
  let mut bcount:=0
  for _ in [0:total] do
   let some bWins <-lt' (<-elem' b ib) (<-elem' a ia)|return done out ia ib
   if bWins then
    out:=out.push (<-elem' b ib);ib:=ib+1;bcount:=bcount+1;acount:=0
    if ib==b.size then return done out ia ib
    if bcount>=minGallop then break
   else
    out:=out.push (<-elem' a ia);ia:=ia+1;acount:=acount+1;bcount:=0
    if ia+1==a.size then return n8 out ia ib
    if acount>=minGallop then break
  rule "list.sort.gallop"
  minGallop:=minGallop+1
  for _ in [0:total] do
   if minGallop>1 then minGallop:=minGallop-1
   oj minGallop
   let some k <-jk false (<-elem' b ib) a ia (a.size-ia) 0|return done out ia ib
   acount:=k
   if k>0 then
    out:=out++a.extract ia (ia+k);ia:=ia+k
    if ia+1==a.size then return n8 out ia ib
    if ia==a.size then return done out ia ib
   out:=out.push (<-elem' b ib);ib:=ib+1
   if ib==b.size then return done out ia ib
   let some k <-jk true (<-elem' a ia) b ib (b.size-ib) 0|return done out ia ib
   bcount:=k
   if k>0 then
    out:=out++b.extract ib (ib+k);ib:=ib+k
    if ib==b.size then return done out ia ib
   out:=out.push (<-elem' a ia);ia:=ia+1
   if ia+1==a.size then return n8 out ia ib
   if acount<7&&bcount<7 then break
  minGallop:=minGallop+1
  oj minGallop
 unsupported "internal:list.sort.merge-bound"):=rfl
section
variable {prog:gi}{w:gd}{A:gc}{E:gw}{G:Shared->Prop}{it:kr}{lt:jD}{κ:SortKind}{N:Nat}
structure Pre(lt:jD)(N:Nat)(q r:gx):Prop where
 sq:q.Pairwise (SL lt)
 sr:r.Pairwise (SL lt)
 ix: ∀x∈q,∀y∈r,x<y
 nq: ∀x∈q,x<N
 nr: ∀x∈r,x<N
structure MG(lt:jD)(q r o:gx)(ia ib:Nat):Prop where
 srt:o.Pairwise (SL lt)
 low: ∀x∈o,∀y,(y∈q.drop ia\/y∈r.drop ib)->SL lt x y
 pm:(o++(q.drop ia++r.drop ib)).Perm (q++r)
def Res(lt:jD)(it:kr)(q r:gx)(out:ku):Prop:= ∃o:List Nat,out=(o.map it).toArray/\o.Pairwise (SL lt)/\o.Perm (q++r)
theorem iK{l:gx}{i:Nat}(h:i<l.length):l.drop i=l[i]::l.drop (i+1):=qj h
theorem kP{l:gx}{i j:Nat}{x:Nat}(h:x∈l.drop j)(l8:i<=j):x∈l.drop i:=by
 rw[show j=i+(j-i) by omega,<-kZ] at h;exact jI h
section
variable {q r o:gx}{ia ib:Nat}(W:Wk lt)(B:Pre lt N q r)
include W B
theorem yX(h:ia<q.length): ∀y∈q.drop (ia+1),SL lt q[ia] y:=fun y hy=>by
 have:=B.sq.sublist (lQ ia q);rw[iK h,pY] at this;exact this.1 y hy
theorem vd(h:ib<r.length): ∀y∈r.drop (ib+1),SL lt r[ib] y:=fun y hy=>by
 have:=B.sr.sublist (lQ ib r);rw[iK h,pY] at this;exact this.1 y hy
theorem MG.putB(m:MG lt q r o ia ib)(hb:ib<r.length)(h: ∀y∈q.drop ia,SL lt r[ib] y):MG lt q r (o++[r[ib]]) ia (ib+1):=by
 have hm:r[ib]∈r.drop ib:=by rw[iK hb];exact jm
 refine⟨kW.mpr ⟨m.srt,xM _ _,fun x hx y hy=>?_⟩,fun x hx y hy=>?_,?_⟩
 ·rw[ma] at hy;subst hy;exact m.low x hx _ (.inr hm)
 ·rcases pS.mp hx with hx|hx
  ·exact m.low x hx y (hy.imp id fun z=>kP z (qx _))
  ·rw[ma] at hx;subst hx;exact hy.elim (h y) (vd W B hb y)
 ·refine List.Perm.trans ?_ m.pm;rw[iK hb,ja];refine pj o ?_;exact(List.perm_middle (l₁:=q.drop ia) (l₂:=r.drop (ib+1)) (a:=r[ib])).symm
theorem MG.putA(m:MG lt q r o ia ib)(ha:ia<q.length)(h: ∀y∈r.drop ib,SL lt q[ia] y):MG lt q r (o++[q[ia]]) (ia+1) ib:=by
 have hm:q[ia]∈q.drop ia:=by rw[iK ha];exact jm
 refine⟨kW.mpr ⟨m.srt,xM _ _,fun x hx y hy=>?_⟩,fun x hx y hy=>?_,?_⟩
 ·rw[ma] at hy;subst hy;exact m.low x hx _ (.inl hm)
 ·rcases pS.mp hx with hx|hx
  ·exact m.low x hx y (hy.imp (fun z=>kP z (qx _)) id)
  ·rw[ma] at hx;subst hx;exact hy.elim (yX W B ha y) (h y)
 ·refine List.Perm.trans ?_ m.pm;rw[iK ha,ja];exact qw _
theorem MG.putBs(m:MG lt q r o ia ib)(h: ∀x∈(r.drop ib).take k,∀y∈q.drop ia,SL lt x y):MG lt q r (o++(r.drop ib).take k) ia (ib+k):=by
 have hs:=B.sr.sublist (lQ ib r);rw[<-kf k (r.drop ib),kW] at hs;obtain⟨s1,s2,s3⟩:=hs;have e:r.drop (ib+k)=(r.drop ib).drop k:=by rw[kZ]
 refine⟨kW.mpr ⟨m.srt,s1,fun x hx y hy=>m.low x hx y (.inr (kH hy))⟩,fun x hx y hy=>?_,?_⟩
 ·rcases pS.mp hx with hx|hx
  ·exact m.low x hx y (hy.imp id fun z=>kP z (Nat.le_add_right _ _))
  ·exact hy.elim (h x hx y) fun z=>s3 x hx y (by rw[<-e];exact z)
 ·refine List.Perm.trans ?_ m.pm;rw[e,ja];refine pj o ?_
  have:(List.take k (r.drop ib)++(q.drop ia++List.drop k (r.drop ib))).Perm (q.drop ia++(List.take k (r.drop ib)++List.drop k (r.drop ib))):=by
   rw[<-ja,<-ja];exact sy _ ue
  rw[kf] at this;exact this
theorem MG.putAs(m:MG lt q r o ia ib)(h: ∀x∈(q.drop ia).take k,∀y∈r.drop ib,SL lt x y):MG lt q r (o++(q.drop ia).take k) (ia+k) ib:=by
 have hs:=B.sq.sublist (lQ ia q);rw[<-kf k (q.drop ia),kW] at hs;obtain⟨s1,s2,s3⟩:=hs;have e:q.drop (ia+k)=(q.drop ia).drop k:=by rw[kZ]
 refine⟨kW.mpr ⟨m.srt,s1,fun x hx y hy=>m.low x hx y (.inl (kH hy))⟩,fun x hx y hy=>?_,?_⟩
 ·rcases pS.mp hx with hx|hx
  ·exact m.low x hx y (hy.imp (fun z=>kP z (Nat.le_add_right _ _)) id)
  ·exact hy.elim (fun z=>s3 x hx y (by rw[<-e];exact z)) (h x hx y)
 ·refine List.Perm.trans ?_ m.pm;rw[e,ja];refine pj o ?_;rw[<-ja,kf]
theorem MG.endA(m:MG lt q r o ia ib)(h:r.drop ib=[]):(o++q.drop ia).Pairwise (SL lt)/\(o++q.drop ia).Perm (q++r):=by
 have pm:=m.pm;rw[h,pB] at pm;exact⟨kW.mpr ⟨m.srt,B.sq.sublist (lQ ia q),fun x hx y hy=>m.low x hx y (.inl hy)⟩,pm⟩
theorem MG.endB(m:MG lt q r o ia ib)(h:q.drop ia=[]):(o++r.drop ib).Pairwise (SL lt)/\(o++r.drop ib).Perm (q++r):=by
 have pm:=m.pm;rw[h,List.nil_append] at pm;exact⟨kW.mpr ⟨m.srt,B.sr.sublist (lQ ib r),fun x hx y hy=>m.low x hx y (.inr hy)⟩,pm⟩
theorem MG.endL(m:MG lt q r o ia ib)(h: ∀x∈r.drop ib,∀y∈q.drop ia,SL lt x y):(o++(r.drop ib++q.drop ia)).Pairwise (SL lt)/\(o++(r.drop ib++q.drop ia)).Perm (q++r):=by
 refine⟨kW.mpr ⟨m.srt,kW.mpr ⟨B.sr.sublist (lQ ib r),B.sq.sublist (lQ ia q),h⟩,fun x hx y hy=>m.low x hx y ((pS.mp hy).symm)⟩,?_⟩;exact List.Perm.trans (pj o ue) m.pm
end
theorem iJ{q:gx}{i:Nat}(hi:i<q.length){st:gK}{Q:Keyed->SortSt->Prop}(h:Q (it q[i]) st):wpI (model prog w) A E G (elem' (q.map it).toArray i) Q st:=by
 rw[elem'_eq];have:(q.map it).toArray[i]?=some (it q[i]):=by simp[hi]
 rw[this];exact fO h
theorem DZ{q:gx}{i:Nat}(hi:i<q.length):P q.toArray i=q[i]:=by simp[P,hi]
theorem mM(W:Wk lt)(H:Ask prog w A E G it κ N lt){left:Bool}{x:Nat}{q:gx}{base n hint:Nat}(hx:x<N)(hq: ∀y∈q,y<N)(hn:base+n<=q.length)(hh:hint<n){st:gK}(hk:kindOf st=κ)(srt:((q.drop base).take n).Pairwise (SL lt)){Q:sh}
  (h: ∀r,r<=n->(∀y∈((q.drop base).take n).take r,(if left=true then lt y x else !lt x y)=true)->(∀y∈((q.drop base).take n).drop r,(if left=true then lt y x else !lt x y)=false)->Q (some r) st):
  wpI (model prog w) A E G (jk left (it x) (q.map it).toArray base n hint) Q st:=by
 have ea:(q.map it).toArray=q.toArray.map it:=by simp
 rw[ea];have hl:((q.drop base).take n).length=n:=by simp;lia
 have get: ∀i (hi:i<n),P q.toArray (base+i)=((q.drop base).take n)[i]:=fun i hi=>by
  rw[DZ (by lia)];simp
 have bq: ∀i (hi:i<n),Bq lt left x q.toArray base i=(if left=true then lt (((q.drop base).take n)[i]) x else !lt x (((q.drop base).take n)[i])):=fun i hi=>by unfold Bq;rw[get i hi]
 refine yo H hx (fun k hk=>?_) (by simpa using hn) hh hk (fun i j ij jn hb=>?_) fun r r1 r2 r3=>h r r1 (fun y hy=>?_) (fun y hy=>?_)
 ·have cQ:k<q.length:=by simpa using hk
  rw[DZ cQ];exact hq _ (jr cQ)
 ·rcases uf i j with y6|eP
  ·rw[bq j jn] at hb;rw[bq i (by lia)];have sl:=AE.mp srt i j (by lia) (by lia) y6
   cases left with
   |true=>
    simp only[gQ] at hb ⊢;exact W.le_lt (SL.le W sl) hb
   |false=>
    simp only[hG,iL,sx] at hb ⊢;exact W.le_tr (SL.le W sl) hb
  ·have:i=j:=by lia
   subst this;exact hb
 ·obtain⟨i,hi,e⟩:=qv hy;have bH:i<r:=by simp at hi;lia
  have:=r2 i bH;rw[bq i (by lia)] at this;rw[<-e,List.getElem_take];exact this
 ·obtain⟨i,hi,e⟩:=qv hy;have bH:r+i<n:=by simp at hi;lia
  have:=r3 (r+i) (by lia) bH;rw[bq (r+i) bH] at this;rw[<-e,List.getElem_drop];exact this
theorem oN{o:gx}{x:Nat}:((o.map it).toArray.push (it x))=((o++[x]).map it).toArray:=by simp
theorem AB{o q r:gx}{i j:Nat}:((o.map it).toArray++(q.map it).toArray.extract i (q.map it).toArray.size++(r.map it).toArray.extract j (r.map it).toArray.size)=((o++(q.drop i++r.drop j)).map it).toArray:=by
 simp[sv,sm];rw[sj (by simp),sj (by simp)]
theorem AA{o q:gx}{i k:Nat}:((o.map it).toArray++(q.map it).toArray.extract i (i+k))=((o++(q.drop i).take k).map it).toArray:=by
 simp[sv,sm]
def Same(st b7:gK):Prop:=kindOf b7=kindOf st/\arrOf b7=arrOf st/\pendingOf b7=pendingOf st/\failedOf b7=failedOf st
theorem Same.refl{st:gK}:Same st st:=⟨rfl,rfl,rfl,rfl⟩
theorem Same.trans{a b c:gK}(x:Same a b)(y:Same b c):Same a c:=⟨y.1.trans x.1,y.2.1.trans x.2.1,y.2.2.1.trans x.2.2.1,y.2.2.2.trans x.2.2.2⟩
theorem mL{n:Nat}{st:gK}{Q:Unit->SortSt->Prop}(h: ∀b7,Same st b7->Q () b7):wpI (model prog w) A E G (oj n) Q st:=
 iB (f:=fun s=>SortSt.mk' (kindOf s) (arrOf s) (pendingOf s) n (failedOf s)) (h _ ⟨rfl,rfl,rfl,rfl⟩)
theorem mz(W:Wk lt){q r o:gx}{ia ib:Nat}(B:Pre lt N q r)(m:MG lt q r o ia ib)(h:q.length<=ia\/r.length<=ib):Res lt it q r ((o.map it).toArray++(q.map it).toArray.extract ia (q.map it).toArray.size++(r.map it).toArray.extract ib (r.map it).toArray.size):=by
 refine⟨_,AB,?_⟩;rcases h with h|h
 ·have e:q.drop ia=[]:=qz h;have:=m.endB W B e;rw[e,List.nil_append];exact this
 ·have e:r.drop ib=[]:=qz h;have:=m.endA W B e;rw[e,pB];exact this
theorem wm(W:Wk lt){q r o:gx}{ia ib:Nat}(B:Pre lt N q r)(m:MG lt q r o ia ib)(h: ∀x∈r.drop ib,∀y∈q.drop ia,SL lt x y):Res lt it q r ((o.map it).toArray++(r.map it).toArray.extract ib (r.map it).toArray.size++(q.map it).toArray.extract ia (q.map it).toArray.size):=
 ⟨_,AB,m.endL W B h⟩
abbrev sz(q:gx)(it:kr):(q.map it).toArray.size=q.length:=by simp
abbrev LoS:=Option (Array Keyed)×Array Keyed×Nat×Nat×Nat×Nat×Nat
noncomputable def zG(a b out:ku)(ia ib mg k k2:Nat):StateT SortSt Sem (ForInStep LoS):=do
 let y <-elem' a ia
 if(ia+1+1==a.size)=true then pure (ForInStep.done (some (out.push y++b.extract ib b.size++a.extract (ia+1) a.size),out.push y,ia+1,ib,mg,k,k2))
 else if(decide (k<7)&&decide (k2<7))=true then pure (ForInStep.done (none,out.push y,ia+1,ib,mg,k,k2)) else pure (ForInStep.yield (none,out.push y,ia+1,ib,mg,k,k2))
noncomputable def Dt(a b out:ku)(ia ib mg k bc:Nat):StateT SortSt Sem (ForInStep LoS):=do
 let y <-elem' b ib
 if(ib+1==b.size)=true then pure (ForInStep.done (some (out.push y++a.extract ia a.size++b.extract (ib+1) b.size),out.push y,ia,ib+1,mg,k,bc))
 else do
  let z <-elem' a ia
  let x <-jk true z b (ib+1) (b.size-(ib+1)) 0
  match x with
  |some k2=>
   if k2>0 then
    if(ib+1+k2==b.size)=true then pure (ForInStep.done (some (out.push y++b.extract (ib+1) (ib+1+k2)++a.extract ia a.size++b.extract (ib+1+k2) b.size),out.push y++b.extract (ib+1) (ib+1+k2),ia,ib+1+k2,mg,k,k2))
    else zG a b (out.push y++b.extract (ib+1) (ib+1+k2)) ia (ib+1+k2) mg k k2
   else zG a b (out.push y) ia (ib+1) mg k k2
  |_=>pure (ForInStep.done (some (out.push y++a.extract ia a.size++b.extract (ib+1) b.size),out.push y,ia,ib+1,mg,k,bc))
def AD(lt:jD)(it:kr)(q r:gx)(c st:Nat)(S:SortSt->Prop)(x:ForInStep LoS)(b7:gK):Prop:=
 match x with
 | .done c'=>S b7/\((∃res x,c'=(some res,x)/\Res lt it q r res)\/ ∃o2 i0 k7 t5 ac bc,c'=(none,(o2.map it).toArray,i0,k7,t5,ac,bc)/\MG lt q r o2 i0 k7/\i0+1<q.length/\k7<r.length/\c<=i0+k7)
 | .yield c'=> ∃o2 i0 k7 t5 ac bc,c'=(none,(o2.map it).toArray,i0,k7,t5,ac,bc)/\MG lt q r o2 i0 k7/\i0+1<q.length/\k7<r.length/\st<=i0+k7/\S b7
section
variable(W:Wk lt)(H:Ask prog w A E G it κ N lt){q r:gx}(B:Pre lt N q r)(top: ∀x∈r,∀y∈q.drop (q.length-1),SL lt x y){S:SortSt->Prop}{o:gx}{ia ib mg k k2 bc c cy:Nat}{st:gK}
include W H B top
theorem sL(m:MG lt q r o ia ib)(ha:ia+1<q.length)(hb:ib<r.length)(fb: ∀y∈r.drop ib,SL lt q[ia] y)(hs:S st)(hc:c<=ia+1+ib)(hy:cy<=ia+1+ib):
  wpI (model prog w) A E G (zG (q.map it).toArray (r.map it).toArray (o.map it).toArray ia ib mg k k2) (AD lt it q r c cy S) st:=by
 unfold zG;refine fN (iJ (i:=ia) (by lia) ?_);have m2:=m.putA W B (by lia) fb;rw[oN];refine gC (fun he=>?_) fun he=>?_
 ·have:ia+1+1=q.length:=by simpa using he
  exact fO ⟨hs,.inl ⟨_,_,rfl,wm W B m2 fun x hx y hy=>top x (jI hx) y (by rw[show q.length-1=ia+1 by lia];exact hy)⟩⟩
 ·have:ia+1+1≠q.length:=by simpa using he
  refine gC (fun h7=>?_) fun h7=>?_
  ·exact fO ⟨hs,.inr ⟨_,_,_,_,_,_,rfl,m2,by lia,hb,hc⟩⟩
  ·exact fO ⟨_,_,_,_,_,_,rfl,m2,by lia,hb,hy,hs⟩
theorem Cg(hk:kindOf st=κ)(m:MG lt q r o ia ib)(ha:ia+1<q.length)(hb:ib<r.length)(fa: ∀y∈q.drop ia,SL lt r[ib] y)(hs:S st)(hc:c<=ia+ib)(hy:cy<=ia+1+ib):
  wpI (model prog w) A E G (Dt (q.map it).toArray (r.map it).toArray (o.map it).toArray ia ib mg k bc) (AD lt it q r c cy S) st:=by
 unfold Dt;refine fN (iJ hb ?_);have m2:=m.putB W B hb fa;rw[oN];refine gC (fun he=>?_) fun he=>?_
 ·have:ib+1=r.length:=by simpa using he
  exact fO ⟨hs,.inl ⟨_,_,rfl,mz W B m2 (.inr (by lia))⟩⟩
 ·have he:ib+1≠r.length:=by simpa using he
  have en:(r.drop (ib+1)).take ((r.map it).toArray.size-(ib+1))=r.drop (ib+1):=sj (by simp);refine fN (iJ (i:=ia) (by lia) (fN (mM W H (B.nq _ (jr _)) B.nr (by rw[sz];lia) (by rw[sz];lia) hk (by rw[en];exact B.sr.sublist (lQ _ _)) fun k' k1 k2 k3=>?_)));rw[en] at k2 k3;rw[sz] at k1;simp only[gQ] at k2 k3
  have m3:=m2.putBs W B (k:=k') fun x hx y hy=>by
   rw[iK (show ia<q.length by lia)] at hy;rcases jC.mp hy with rfl|hy
   ·exact .inl (k2 x hx)
   ·exact SL.trans W (.inl (k2 x hx)) (yX W B (by lia) y hy)
  have fb: ∀y∈r.drop (ib+1+k'),SL lt q[ia] y:=fun y hy=>by
   rw[<-kZ] at hy;exact .inr ⟨k3 y hy,B.ix _ (jr _) _ (jI (jI hy))⟩
  dsimp only;refine gC (fun hp=>?_) fun hp=>?_
  ·rw[AA];refine gC (fun hf=>?_) fun hf=>?_
   ·have:ib+1+k'=r.length:=by simpa using hf
    exact fO ⟨hs,.inl ⟨_,_,rfl,mz W B m3 (.inr (by lia))⟩⟩
   ·have:ib+1+k'≠r.length:=by simpa using hf
    exact sL W H B top m3 ha (by lia) fb hs (by lia) (by lia)
  ·have hz:k'=0:=by lia
   subst hz;exact sL W H B top m2 ha (by lia) fb hs (by lia) (by lia)
end
theorem Gp(W:Wk lt)(H:Ask prog w A E G it κ N lt){q r:gx}(B:Pre lt N q r)(h1:1<=q.length)(h2:1<=r.length)(hd: ∀y∈q,SL lt r[0] y)(top: ∀x∈r,∀y∈q.drop (q.length-1),SL lt x y){st:gK}(hk:kindOf st=κ){Q:Array Keyed->SortSt->Prop}
  (h: ∀out b7,Res lt it q r out->Same st b7->Q out b7):wpI (model prog w) A E G (rq (q.map it).toArray (r.map it).toArray) Q st:=by
 have aQ: ∀{o ia ib},MG lt q r o ia ib->ia+1=q.length->Res lt it q r ((o.map it).toArray++(r.map it).toArray.extract ib (r.map it).toArray.size++(q.map it).toArray.extract ia (q.map it).toArray.size):=fun {o ia ib} m e=>wm W B m fun x hx y hy=>top x (jI hx) y (by rw[show q.length-1=ia by lia];exact hy);rw[yP];dsimp only;refine fN (lp (fN (iJ (by lia) ?_)))
 have m0:MG lt q r [r[0]] 0 1:=by
  have:=MG.putB (o:=[]) (ia:=0) (ib:=0) W B ⟨List.Pairwise.nil,fun x hx=>absurd hx jF,by simp⟩ (by lia) (by simpa using hd);simpa using this
 have e0: #[it r[0]]=(([r[0]]:List Nat).map it).toArray:=rfl;rw[e0];refine gC (fun bL=>?_) fun bL=>?_
 ·have:1=r.length:=by simpa using bL
  exact fO (h _ _ (mz W B m0 (.inr (by lia))) .refl)
 ·have bL:1≠r.length:=by simpa using bL
  refine gC (fun aG=>?_) fun aG=>?_
  ·have:0+1=q.length:=by simpa using aG
   exact fO (h _ _ (aQ m0 this) .refl)
  ·have aG:1≠q.length:=by simpa using aG
   refine fN (jv ?_)
   refine fN (gH (gL (I:=fun i c b7=> ∃o ia ib mg,c=(none,(o.map it).toArray,ia,ib,mg)/\MG lt q r o ia ib/\ia+1<q.length/\ib<r.length/\i+1<=ia+ib/\Same st b7)
    (Q:=fun c b7=> ∃res x,c=(some res,x)/\Res lt it q r res/\Same st b7) ?step ?fin ⟨_,0,1,_,rfl,m0,by lia,by lia,by lia,.refl⟩) ?post)
   case post=>
    rintro c b7 ⟨res,x,rfl,hr,hs⟩;exact fO (h res b7 hr hs)
   case fin=>
    rintro c b7 ⟨o,ia,ib,mg,rfl,m,b1,b2,b3,hs⟩;rw[sz,sz] at b3
    lia
   case step=>
    rintro i c aB _ _ ⟨o,ia,ib,mg,rfl,m,b1,b2,b3,hs⟩;dsimp only
    refine fN (gH (gL (I:=fun j c b7=>b7=aB/\ ∃o' u4 w9 ac bc,c=(none,(o'.map it).toArray,u4,w9,ac,bc)/\MG lt q r o' u4 w9/\u4+1<q.length/\w9<r.length/\ia+ib+j<=u4+w9)
     (Q:=fun c b7=>b7=aB/\((∃res x,c=(some res,x)/\Res lt it q r res)\/ ∃o' u4 w9 ac bc,c=(none,(o'.map it).toArray,u4,w9,ac,bc)/\MG lt q r o' u4 w9/\u4+1<q.length/\w9<r.length/\ia+ib+1<=u4+w9)) ?step1 ?fin1 ⟨rfl,o,ia,ib,0,0,rfl,m,b1,b2,by lia⟩) ?post1)
    case fin1=>
     rintro c b7 ⟨rfl,o',u4,w9,ac,bc,rfl,m',c1,c2,c3⟩;rw[sz,sz] at c3
     lia
    case step1=>
     rintro j c b7 _ _ ⟨rfl,o',u4,w9,ac,bc,rfl,m',c1,c2,c3⟩;dsimp only;refine fN (iJ c2 (fN (iJ (i:=u4) (by lia) (fN (qK H (hs.1.trans hk) (B.nr _ (jr _)) (B.nq _ (jr _)) ?_)))));dsimp only
     cases hl:lt r[w9] q[u4] with
     |true=>
      simp only[gQ];refine fN (iJ c2 ?_)
      have m2:=m'.putB W B c2 fun y hy=>by
       rw[iK (show u4<q.length by lia)] at hy;rcases jC.mp hy with rfl|hy
       ·exact .inl hl
       ·exact SL.trans W (.inl hl) (yX W B (by lia) y hy)
      rw[oN];refine gC (fun he=>?_) fun he=>?_
      ·have:w9+1=r.length:=by simpa using he
       exact fO ⟨rfl,.inl ⟨_,_,rfl,mz W B m2 (.inr (by lia))⟩⟩
      ·have:w9+1≠r.length:=by simpa using he
       refine gC (fun hg=>?_) fun hg=>?_
       ·exact fO ⟨rfl,.inr ⟨_,_,_,_,_,rfl,m2,c1,by lia,by lia⟩⟩
       ·exact fO ⟨rfl,_,_,_,_,_,rfl,m2,c1,by lia,by lia⟩
     |false=>
      simp only[hG,iL];refine fN (iJ (i:=u4) (by lia) ?_)
      have m2:=m'.putA W B (by lia) fun y hy=>by
       rw[iK c2] at hy;have first:SL lt q[u4] r[w9]:= .inr ⟨hl,B.ix _ (jr _) _ (jr _)⟩;rcases jC.mp hy with rfl|hy
       ·exact first
       ·exact SL.trans W first (vd W B c2 y hy)
      rw[oN];refine gC (fun he=>?_) fun he=>?_
      ·have:u4+1+1=q.length:=by simpa using he
       exact fO ⟨rfl,.inl ⟨_,_,rfl,aQ m2 this⟩⟩
      ·have:u4+1+1≠q.length:=by simpa using he
       refine gC (fun hg=>?_) fun hg=>?_
       ·exact fO ⟨rfl,.inr ⟨_,_,_,_,_,rfl,m2,by lia,c2,by lia⟩⟩
       ·exact fO ⟨rfl,_,_,_,_,_,rfl,m2,by lia,c2,by lia⟩
    case post1=>
     rintro c b7 ⟨rfl,⟨res,x,rfl,hr⟩|⟨o',u4,w9,ac,bc,rfl,m',c1,c2,c3⟩⟩
     ·exact fO ⟨res,_,rfl,hr,hs⟩
     ·dsimp only
      refine fN (lp (fN (gH (gL (I:=fun j c b7=> ∃o2 i0 k7 t5 ac bc,c=(none,(o2.map it).toArray,i0,k7,t5,ac,bc)/\MG lt q r o2 i0 k7/\i0+1<q.length/\k7<r.length/\ia+ib+1+j<=i0+k7/\Same st b7)
       (Q:=fun c b7=>Same st b7/\((∃res x,c=(some res,x)/\Res lt it q r res)\/ ∃o2 i0 k7 t5 ac bc,c=(none,(o2.map it).toArray,i0,k7,t5,ac,bc)/\MG lt q r o2 i0 k7/\i0+1<q.length/\k7<r.length/\ia+ib+1<=i0+k7)) ?step2 ?fin2 ⟨o',u4,w9,_,_,_,rfl,m',c1,c2,by lia,hs⟩) ?post2)))
      case fin2=>
       rintro c b7 ⟨o2,i0,k7,t5,ac,bc,rfl,m2,d1,d2,d3,n9⟩;rw[sz,sz] at d3
       lia
      case post2=>
       rintro c b7 ⟨n9,⟨res,x,rfl,hr⟩|⟨o2,i0,k7,t5,ac,bc,rfl,m2,d1,d2,d3⟩⟩
       ·exact fO ⟨res,_,rfl,hr,n9⟩
       ·dsimp only;exact fN (mL fun k9 m9=>fO ⟨o2,i0,k7,_,rfl,m2,d1,d2,by lia,n9.trans m9⟩)
      case step2=>
       rintro j c h9 _ _ ⟨o2,i0,k7,t5,ac,bc,rfl,m2,d1,d2,d3,n9⟩;dsimp only;have en:(q.drop i0).take ((q.map it).toArray.size-i0)=q.drop i0:=sj (by simp)
       have mid: ∀(w6 k:Nat) (k9:gK),Same st k9->k<=(q.map it).toArray.size-i0->(∀y∈(q.drop i0).take k,lt r[k7] y=false)->(∀y∈(q.drop i0).drop k,lt r[k7] y=true)->i0+k+1≠q.length->i0+k≠q.length->
         wpI (model prog w) A E G (Dt (q.map it).toArray (r.map it).toArray ((o2++(q.drop i0).take k).map it).toArray (i0+k) k7 w6 k bc) (AD lt it q r (ia+ib+1) (ia+ib+1+(j+1)) (Same st)) k9:=fun w6 k k9 m9 k1 k2 k3 e1 e2=>by
        rw[sz] at k1;refine Cg W H B top (m9.1.trans hk) (m2.putAs W B fun x hx y hy=>?_) (by lia) d2 (fun y hy=>?_) m9 (by lia) (by lia)
        ·have first:SL lt x r[k7]:= .inr ⟨k2 x hx,B.ix x (jI (kH hx)) _ (jr _)⟩;rw[iK d2] at hy;rcases jC.mp hy with rfl|hy
         ·exact first
         ·exact SL.trans W first (vd W B d2 y hy)
        ·rw[<-kZ] at hy;exact .inl (k3 y hy)
       have body: ∀(w6:Nat) (k9:gK),Same st k9->wpI (model prog w) A E G (do
         let y <-elem' (r.map it).toArray k7
         let x <-jk false y (q.map it).toArray i0 ((q.map it).toArray.size-i0) 0
         match x with
         |some k=>
          if k>0 then
           if(i0+k+1==(q.map it).toArray.size)=true then pure (ForInStep.done (some ((o2.map it).toArray++(q.map it).toArray.extract i0 (i0+k)++(r.map it).toArray.extract k7 (r.map it).toArray.size++(q.map it).toArray.extract (i0+k) (q.map it).toArray.size),(o2.map it).toArray++(q.map it).toArray.extract i0 (i0+k),i0+k,k7,w6,k,bc))
           else if(i0+k==(q.map it).toArray.size)=true then pure (ForInStep.done (some ((o2.map it).toArray++(q.map it).toArray.extract i0 (i0+k)++(q.map it).toArray.extract (i0+k) (q.map it).toArray.size++(r.map it).toArray.extract k7 (r.map it).toArray.size),(o2.map it).toArray++(q.map it).toArray.extract i0 (i0+k),i0+k,k7,w6,k,bc))
           else Dt (q.map it).toArray (r.map it).toArray ((o2.map it).toArray++(q.map it).toArray.extract i0 (i0+k)) (i0+k) k7 w6 k bc
          else Dt (q.map it).toArray (r.map it).toArray (o2.map it).toArray i0 k7 w6 k bc
         |_=>pure (ForInStep.done (some ((o2.map it).toArray++(q.map it).toArray.extract i0 (q.map it).toArray.size++(r.map it).toArray.extract k7 (r.map it).toArray.size),(o2.map it).toArray,i0,k7,w6,ac,bc))) (AD lt it q r (ia+ib+1) (ia+ib+1+(j+1)) (Same st)) k9:=fun w6 k9 m9=>by
        refine fN (iJ d2 (fN (mM W H (B.nr _ (jr _)) B.nq (by rw[sz];lia) (by rw[sz];lia) (m9.1.trans hk) (by rw[en];exact B.sq.sublist (lQ _ _)) fun k k1 k2 k3=>?_)));rw[en] at k2 k3;simp only[hG,iL,sx,Bool.not_eq_false'] at k2 k3;have hkl:=k1;rw[sz] at hkl
        have mA:MG lt q r (o2++(q.drop i0).take k) (i0+k) k7:=m2.putAs W B fun x hx y hy=>by
         have first:SL lt x r[k7]:= .inr ⟨k2 x hx,B.ix x (jI (kH hx)) _ (jr _)⟩;rw[iK d2] at hy;rcases jC.mp hy with rfl|hy
         ·exact first
         ·exact SL.trans W first (vd W B d2 y hy)
        dsimp only;refine gC (fun hp=>?_) fun hp=>?_
        ·rw[AA];refine gC (fun he=>?_) fun he=>?_
         ·exact fO ⟨m9,.inl ⟨_,_,rfl,aQ mA (by simpa using he)⟩⟩
         ·refine gC (fun hf=>?_) fun hf=>?_
          ·have:i0+k=q.length:=by simpa using hf
           exact fO ⟨m9,.inl ⟨_,_,rfl,mz W B mA (.inl (by lia))⟩⟩
          ·exact mid w6 k k9 m9 k1 k2 k3 (by simpa using he) (by simpa using hf)
        ·have hz:k=0:=by lia
         subst hz;have:=mid w6 0 k9 m9 k1 k2 k3 (by lia) (by lia);simpa using this
       refine gC (fun hm=>?_) fun hm=>?_
       ·refine fN (mL fun k9 m9=>?_);exact gH (body _ k9 (n9.trans m9)) fun x b7 hx=>by cases x<;>exact hx
       ·refine fN (mL fun k9 m9=>?_);exact gH (body _ k9 (n9.trans m9)) fun x b7 hx=>by cases x<;>exact hx
end
theorem yQ(a b:ku):rA a b=(do
 rule "list.sort.merge-hi"
 let total:=a.size+b.size
 let done (out:ku) (na nb:Nat):=a.extract 0 na++b.extract 0 nb++out.reverse
 let m7 (out:ku) (na nb:Nat):=b.extract 0 nb++a.extract 0 na++out.reverse
 let mut na:=a.size-1
 let mut nb:=b.size
 let mut out:Array Keyed:= #[<-elem' a na]
 if na==0 then return done out na nb
 if nb==1 then return m7 out na nb
 let mut minGallop:=gallopOf (<-get)
 for _ in [0:total] do
  let mut acount:=0
  let mut bcount:=0
  for _ in [0:total] do
   let some aWins <-lt' (<-elem' b (nb-1)) (<-elem' a (na-1))|return done out na nb
   if aWins then
    na:=na-1;out:=out.push (<-elem' a na);acount:=acount+1;bcount:=0
    if na==0 then return done out na nb
    if acount>=minGallop then break
   else
    nb:=nb-1;out:=out.push (<-elem' b nb);bcount:=bcount+1;acount:=0
    if nb==1 then return m7 out na nb
    if bcount>=minGallop then break
  rule "list.sort.gallop"
  minGallop:=minGallop+1
  for _ in [0:total] do
   if minGallop>1 then minGallop:=minGallop-1
   oj minGallop
   let some at_ <-jk false (<-elem' b (nb-1)) a 0 na (na-1)|return done out na nb
   let k:=na-at_
   acount:=k
   if k>0 then
    out:=out++(a.extract at_ na).reverse;na:=at_
    if na==0 then return done out na nb
   nb:=nb-1;out:=out.push (<-elem' b nb)
   if nb==1 then return m7 out na nb
   let some at_ <-jk true (<-elem' a (na-1)) b 0 nb (nb-1)|return done out na nb
   let k:=nb-at_
   bcount:=k
   if k>0 then
    out:=out++(b.extract at_ nb).reverse;nb:=at_
    if nb==1 then return m7 out na nb
    if nb==0 then return done out na nb
   na:=na-1;out:=out.push (<-elem' a na)
   if na==0 then return done out na nb
   if acount<7&&bcount<7 then break
  minGallop:=minGallop+1
  oj minGallop
 unsupported "internal:list.sort.merge-bound"):=rfl
section
variable {prog:gi}{w:gd}{A:gc}{E:gw}{G:Shared->Prop}{it:kr}{lt:jD}{κ:SortKind}{N:Nat}
structure MH(lt:jD)(q r s:gx)(na nb:Nat):Prop where
 srt:s.Pairwise (SL lt)
 high: ∀y,(y∈q.take na\/y∈r.take nb)-> ∀x∈s,SL lt y x
 pm:(q.take na++r.take nb++s).Perm (q++r)
theorem iW{l:gx}{n:Nat}(h1:0<n)(h:n<=l.length):l.take n=l.take (n-1)++[l[n-1]]:=by
 obtain⟨m,rfl⟩: ∃m,n=m+1:=⟨n-1,by omega⟩
 rw[xK,gW (by omega)];rfl
theorem kO{l:gx}{i j x:Nat}(h:x∈l.take i)(l8:i<=j):x∈l.take j:=by
 have:=List.take_sublist_take_left (l:=l) l8;exact this.subset h
section
variable {q r s:gx}{na nb k:Nat}(W:Wk lt)(B:Pre lt N q r)
include W B
theorem zb(h0:0<na)(h:na<=q.length): ∀y∈q.take (na-1),SL lt y q[na-1]:=fun y hy=>by
 have:=B.sq.sublist (lg na q);rw[iW h0 h,kW] at this;exact this.2.2 y hy _ (ma.mpr rfl)
theorem za(h0:0<nb)(h:nb<=r.length): ∀y∈r.take (nb-1),SL lt y r[nb-1]:=fun y hy=>by
 have:=B.sr.sublist (lg nb r);rw[iW h0 h,kW] at this;exact this.2.2 y hy _ (ma.mpr rfl)
theorem MH.putA(m:MH lt q r s na nb)(h0:0<na)(h1:na<=q.length)(h: ∀y∈r.take nb,SL lt y q[na-1]):MH lt q r (q[na-1]::s) (na-1) nb:=by
 have hm:q[na-1]∈q.take na:=by rw[iW h0 h1];exact lj _ (ma.mpr rfl)
 refine⟨pY.mpr ⟨fun x hx=>m.high _ (.inl hm) x hx,m.srt⟩,fun y hy x hx=>?_,?_⟩
 ·rcases jC.mp hx with rfl|hx
  ·exact hy.elim (zb W B h0 h1 y) (h y)
  ·exact m.high y (hy.imp (fun z=>kO z (Nat.sub_le _ _)) id) x hx
 ·refine List.Perm.trans ?_ m.pm;rw[iW h0 h1]
  have e:(q.take (na-1)++r.take nb++q[na-1]::s).Perm (q.take (na-1)++(q[na-1]::(r.take nb++s))):=by
   rw[ja];exact pj _ List.perm_middle
  refine e.trans (ud ?_);rw[ja,ja,xJ]
theorem MH.putB(m:MH lt q r s na nb)(h0:0<nb)(h1:nb<=r.length)(h: ∀y∈q.take na,SL lt y r[nb-1]):MH lt q r (r[nb-1]::s) na (nb-1):=by
 have hm:r[nb-1]∈r.take nb:=by rw[iW h0 h1];exact lj _ (ma.mpr rfl)
 refine⟨pY.mpr ⟨fun x hx=>m.high _ (.inr hm) x hx,m.srt⟩,fun y hy x hx=>?_,?_⟩
 ·rcases jC.mp hx with rfl|hx
  ·exact hy.elim (h y) (za W B h0 h1 y)
  ·exact m.high y (hy.imp id fun z=>kO z (Nat.sub_le _ _)) x hx
 ·refine List.Perm.trans ?_ m.pm;refine ud ?_;rw[iW h0 h1,ja,ja,ja,xJ]
theorem MH.putAs(m:MH lt q r s na nb)(hk:k<=na)(h: ∀y∈r.take nb,∀x∈(q.take na).drop k,SL lt y x):MH lt q r ((q.take na).drop k++s) k nb:=by
 have e:q.take k=(q.take na).take k:=by rw[qh,ph hk]
 have hs:=B.sq.sublist (lg na q);rw[<-kf k (q.take na),kW] at hs;obtain⟨s1,s2,s3⟩:=hs;refine⟨kW.mpr ⟨s2,m.srt,fun y hy x hx=>m.high y (.inl (jI hy)) x hx⟩,fun y hy x hx=>?_,?_⟩
 ·rcases pS.mp hx with hx|hx
  ·exact hy.elim (fun z=>s3 y (by rw[<-e];exact z) x hx) fun z=>h y z x hx
  ·exact m.high y (hy.imp (fun z=>kO z hk) id) x hx
 ·refine List.Perm.trans ?_ m.pm;rw[<-ja];refine sy s ?_;rw[e]
  have:((q.take na).take k++r.take nb++(q.take na).drop k).Perm ((q.take na).take k++(q.take na).drop k++r.take nb):=by
   rw[ja,ja];exact pj _ ue
  rwa [kf] at this
theorem MH.putBs(m:MH lt q r s na nb)(hk:k<=nb)(h: ∀y∈q.take na,∀x∈(r.take nb).drop k,SL lt y x):MH lt q r ((r.take nb).drop k++s) na k:=by
 have e:r.take k=(r.take nb).take k:=by rw[qh,ph hk]
 have hs:=B.sr.sublist (lg nb r);rw[<-kf k (r.take nb),kW] at hs;obtain⟨s1,s2,s3⟩:=hs;refine⟨kW.mpr ⟨s2,m.srt,fun y hy x hx=>m.high y (.inr (jI hy)) x hx⟩,fun y hy x hx=>?_,?_⟩
 ·rcases pS.mp hx with hx|hx
  ·exact hy.elim (fun z=>h y z x hx) fun z=>s3 y (by rw[<-e];exact z) x hx
  ·exact m.high y (hy.imp id fun z=>kO z hk) x hx
 ·refine List.Perm.trans ?_ m.pm;rw[e,<-ja];refine sy s ?_;rw[ja,kf]
theorem MH.endA(m:MH lt q r s na nb)(h:na=0\/nb=0):(q.take na++r.take nb++s).Pairwise (SL lt):=by
 refine kW.mpr ⟨?_,m.srt,fun y hy x hx=>m.high y (pS.mp hy) x hx⟩;rcases h with rfl|rfl
 ·rw[List.take_zero,List.nil_append];exact B.sr.sublist (lg _ _)
 ·rw[List.take_zero,pB];exact B.sq.sublist (lg _ _)
theorem MH.endL(m:MH lt q r s na nb)(h: ∀x∈r.take nb,∀y∈q.take na,SL lt x y):(r.take nb++q.take na++s).Pairwise (SL lt)/\(r.take nb++q.take na++s).Perm (q++r):=
 ⟨kW.mpr ⟨kW.mpr ⟨B.sr.sublist (lg _ _),B.sq.sublist (lg _ _),h⟩,m.srt,fun y hy x hx=>m.high y ((pS.mp hy).symm) x hx⟩,(sy s ue).trans m.pm⟩
end
theorem nh:((s.reverse.map it).toArray.push (it x))=((x::s).reverse.map it).toArray:=by simp
theorem xw{s q r:gx}{i j:Nat}:((q.map it).toArray.extract 0 i++(r.map it).toArray.extract 0 j++(s.reverse.map it).toArray.reverse)=((q.take i++r.take j++s).map it).toArray:=by
 simp[sv,sm]
theorem xv{s q:gx}{i k:Nat}:((s.reverse.map it).toArray++((q.map it).toArray.extract k i).reverse)=(((q.take i).drop k++s).reverse.map it).toArray:=by
 simp[sv,sm,List.drop_take]
theorem lr(W:Wk lt){q r s:gx}{na nb:Nat}(B:Pre lt N q r)(m:MH lt q r s na nb)(h:na=0\/nb=0):Res lt it q r ((q.map it).toArray.extract 0 na++(r.map it).toArray.extract 0 nb++(s.reverse.map it).toArray.reverse):=⟨_,xw,m.endA W B h,m.pm⟩
theorem yC(W:Wk lt){q r s:gx}{na nb:Nat}(B:Pre lt N q r)(m:MH lt q r s na nb)(h: ∀x∈r.take nb,∀y∈q.take na,SL lt x y):Res lt it q r ((r.map it).toArray.extract 0 nb++(q.map it).toArray.extract 0 na++(s.reverse.map it).toArray.reverse):=⟨_,xw,m.endL W B h⟩
end
abbrev HiS:=Option (Array Keyed)×Nat×Nat×Array Keyed×Nat×Nat×Nat
noncomputable def zH(a b out:ku)(na nb mg k k2:Nat):StateT SortSt Sem (ForInStep HiS):=do
 let y <-elem' a (na-1)
 if(na-1==0)=true then pure (ForInStep.done (some (a.extract 0 (na-1)++b.extract 0 nb++(out.push y).reverse),na-1,nb,out.push y,mg,k,k2))
 else if(decide (k<7)&&decide (k2<7))=true then pure (ForInStep.done (none,na-1,nb,out.push y,mg,k,k2)) else pure (ForInStep.yield (none,na-1,nb,out.push y,mg,k,k2))
noncomputable def Fj(a b out:ku)(na nb mg k bc:Nat):StateT SortSt Sem (ForInStep HiS):=do
 let y <-elem' b (nb-1)
 if(nb-1==1)=true then pure (ForInStep.done (some (b.extract 0 (nb-1)++a.extract 0 na++(out.push y).reverse),na,nb-1,out.push y,mg,k,bc))
 else do
  let z <-elem' a (na-1)
  let x <-jk true z b 0 (nb-1) (nb-1-1)
  match x with
  |some at_=>
   if nb-1-at_>0 then
    if(at_==1)=true then pure (ForInStep.done (some (b.extract 0 at_++a.extract 0 na++(out.push y++(b.extract at_ (nb-1)).reverse).reverse),na,at_,out.push y++(b.extract at_ (nb-1)).reverse,mg,k,nb-1-at_))
    else if(at_==0)=true then pure (ForInStep.done (some (a.extract 0 na++b.extract 0 at_++(out.push y++(b.extract at_ (nb-1)).reverse).reverse),na,at_,out.push y++(b.extract at_ (nb-1)).reverse,mg,k,nb-1-at_))
    else zH a b (out.push y++(b.extract at_ (nb-1)).reverse) na at_ mg k (nb-1-at_)
   else zH a b (out.push y) na (nb-1) mg k (nb-1-at_)
  |_=>pure (ForInStep.done (some (a.extract 0 na++b.extract 0 (nb-1)++(out.push y).reverse),na,nb-1,out.push y,mg,k,bc))
def D3(lt:jD)(it:kr)(q r:gx)(c cy:Nat)(S:SortSt->Prop)(x:ForInStep HiS)(b7:gK):Prop:=
 match x with
 | .done c'=>S b7/\((∃res x,c'=(some res,x)/\Res lt it q r res)\/ ∃s2 i9 j9 t5 ac bc,c'=(none,i9,j9,(s2.reverse.map it).toArray,t5,ac,bc)/\MH lt q r s2 i9 j9/\1<=i9/\i9<=q.length/\2<=j9/\j9<=r.length/\i9+j9+c<=q.length+r.length)
 | .yield c'=> ∃s2 i9 j9 t5 ac bc,c'=(none,i9,j9,(s2.reverse.map it).toArray,t5,ac,bc)/\MH lt q r s2 i9 j9/\1<=i9/\i9<=q.length/\2<=j9/\j9<=r.length/\i9+j9+cy<=q.length+r.length/\S b7
section
variable {prog:gi}{w:gd}{A:gc}{E:gw}{G:Shared->Prop}{it:kr}{lt:jD}{κ:SortKind}{N:Nat}
section
variable(W:Wk lt)(H:Ask prog w A E G it κ N lt){q r:gx}(B:Pre lt N q r)(bot: ∀x∈r.take 1,∀y∈q,SL lt x y){S:SortSt->Prop}{s:gx}{na nb mg k k2 bc c cy:Nat}{st:gK}
include W H B bot
theorem sM(m:MH lt q r s na nb)(ha:1<=na)(cV:na<=q.length)(hb:2<=nb)(dX:nb<=r.length)(fa: ∀y∈r.take nb,SL lt y q[na-1])(hs:S st)(hc:na-1+nb+c<=q.length+r.length)(hy:na-1+nb+cy<=q.length+r.length):
  wpI (model prog w) A E G (zH (q.map it).toArray (r.map it).toArray (s.reverse.map it).toArray na nb mg k k2) (D3 lt it q r c cy S) st:=by
 unfold zH;refine fN (iJ (i:=na-1) (by lia) ?_);have m2:=m.putA W B (by lia) cV fa;rw[nh];refine gC (fun he=>?_) fun he=>?_
 ·exact fO ⟨hs,.inl ⟨_,_,rfl,lr W B m2 (.inl (by simpa using he))⟩⟩
 ·have:na-1≠0:=fun z=>he (by simp[z]);refine gC (fun h7=>?_) fun h7=>?_
  ·exact fO ⟨hs,.inr ⟨_,_,_,_,_,_,rfl,m2,by lia,by lia,hb,dX,hc⟩⟩
  ·exact fO ⟨_,_,_,_,_,_,rfl,m2,by lia,by lia,hb,dX,hy,hs⟩
theorem rL(m:MH lt q r s na nb)(h:nb=1):Res lt it q r ((r.map it).toArray.extract 0 nb++(q.map it).toArray.extract 0 na++(s.reverse.map it).toArray.reverse):=yC W B m fun x hx y hy=>bot x (by rw[<-h];exact hx) y (kH hy)
theorem vK(hk:kindOf st=κ)(m:MH lt q r s na nb)(ha:1<=na)(cV:na<=q.length)(hb:2<=nb)(dX:nb<=r.length)(fb: ∀y∈q.take na,SL lt y r[nb-1])(hs:S st)(hc:na+nb+c<=q.length+r.length+1)(hy:na+nb+cy<=q.length+r.length+2):
  wpI (model prog w) A E G (Fj (q.map it).toArray (r.map it).toArray (s.reverse.map it).toArray na nb mg k bc) (D3 lt it q r c cy S) st:=by
 unfold Fj;refine fN (iJ (i:=nb-1) (by lia) ?_);have m2:=m.putB W B (by lia) dX fb;rw[nh];refine gC (fun he=>?_) fun he=>?_
 ·exact fO ⟨hs,.inl ⟨_,_,rfl,rL W H B bot m2 (by simpa using he)⟩⟩
 ·have he:nb-1≠1:=fun z=>he (by simp[z]);have en:(r.drop 0).take (nb-1)=r.take (nb-1):=by rw[uc]
  refine fN (iJ (i:=na-1) (by lia) (fN (mM W H (B.nq _ (jr _)) B.nr (by lia) (by lia) hk (by rw[en];exact B.sr.sublist (lg _ _)) fun k' k1 k2 k3=>?_)));rw[en] at k2 k3;simp only[gQ] at k2 k3
  have m3:=m2.putBs W B (k:=k') k1 fun y hy x hx=>by
   have first:SL lt q[na-1] x:= .inr ⟨k3 x hx,B.ix _ (jr _) _ (kH (jI hx))⟩;rw[iW ha cV] at hy;rcases pS.mp hy with hy|hy
   ·exact SL.trans W (zb W B ha cV y hy) first
   ·rw[ma] at hy;subst hy;exact first
  have e2:r.take k'=(r.take (nb-1)).take k':=by rw[qh,ph k1]
  have fa: ∀y∈r.take k',SL lt y q[na-1]:=fun y hy=> .inl (k2 y (by rw[<-e2];exact hy));dsimp only;refine gC (fun hp=>?_) fun hp=>?_
  ·rw[xv];refine gC (fun hf=>?_) fun hf=>?_
   ·exact fO ⟨hs,.inl ⟨_,_,rfl,rL W H B bot m3 (by simpa using hf)⟩⟩
   ·have hf:k'≠1:=fun z=>hf (by simp[z]);refine gC (fun hg=>?_) fun hg=>?_
    ·exact fO ⟨hs,.inl ⟨_,_,rfl,lr W B m3 (.inr (by simpa using hg))⟩⟩
    ·have hg:k'≠0:=fun z=>hg (by simp[z]);exact sM W H B bot m3 ha cV (by lia) (by lia) fa hs (by lia) (by lia)
  ·have hz:k'=nb-1:=by lia
   subst hz;exact sM W H B bot m2 ha cV (by lia) (by lia) fa hs (by lia) (by lia)
end
theorem Gq(W:Wk lt)(H:Ask prog w A E G it κ N lt){q r:gx}(B:Pre lt N q r)(h1:1<=q.length)(h2:1<=r.length)(bot: ∀x∈r.take 1,∀y∈q,SL lt x y)(top: ∀x∈r,SL lt x q[q.length-1]){st:gK}(hk:kindOf st=κ){Q:Array Keyed->SortSt->Prop}
  (h: ∀out b7,Res lt it q r out->Same st b7->Q out b7):wpI (model prog w) A E G (rA (q.map it).toArray (r.map it).toArray) Q st:=by
 have firstB: ∀{s na nb},MH lt q r s na nb->nb=1->Res lt it q r ((r.map it).toArray.extract 0 nb++(q.map it).toArray.extract 0 na++(s.reverse.map it).toArray.reverse):=fun m e=>rL W H B bot m e;rw[yQ];dsimp only;have e1:(q.map it).toArray.size=q.length:=sz q it;have e2:(r.map it).toArray.size=r.length:=sz r it;rw[e1,e2];refine fN (lp (fN (iJ (i:=q.length-1) (by lia) ?_)))
 have m0:MH lt q r [q[q.length-1]] (q.length-1) r.length:=by
  have:=MH.putA (s:=[]) (na:=q.length) (nb:=r.length) W B ⟨List.Pairwise.nil,fun y hy x hx=>absurd hx jF,by simp⟩ (by lia) (gO _) (fun y hy=>top y (kH hy));exact this
 have e0: #[it q[q.length-1]]=(([q[q.length-1]]:List Nat).reverse.map it).toArray:=rfl;rw[e0];refine gC (fun aG=>?_) fun aG=>?_
 ·exact fO (h _ _ (lr W B m0 (.inl (by simpa using aG))) .refl)
 ·have aG:q.length-1≠0:=fun z=>aG (by simp[z]);refine gC (fun bL=>?_) fun bL=>?_
  ·exact fO (h _ _ (firstB m0 (by simpa using bL)) .refl)
  ·have bL:r.length≠1:=fun z=>bL (by simp[z]);refine fN (jv ?_)
   refine fN (gH (gL (I:=fun i c b7=> ∃s na nb mg,c=(none,na,nb,(s.reverse.map it).toArray,mg)/\MH lt q r s na nb/\1<=na/\na<=q.length/\2<=nb/\nb<=r.length/\na+nb+(i+1)<=q.length+r.length/\Same st b7)
    (Q:=fun c b7=> ∃res x,c=(some res,x)/\Res lt it q r res/\Same st b7) ?step ?fin ⟨_,q.length-1,r.length,_,rfl,m0,by lia,by lia,by lia,by lia,by lia,.refl⟩) ?post)
   case post=>
    rintro c b7 ⟨res,x,rfl,hr,hs⟩;exact fO (h res b7 hr hs)
   case fin=>
    rintro c b7 ⟨s,na,nb,mg,rfl,m,b1,b2,b3,b4,b5,hs⟩
    lia
   case step=>
    rintro i c aB _ _ ⟨s,na,nb,mg,rfl,m,b1,b2,b3,b4,b5,hs⟩;dsimp only
    refine fN (gH (gL (I:=fun j c b7=>b7=aB/\ ∃s' u3 i4 ac bc,c=(none,u3,i4,(s'.reverse.map it).toArray,ac,bc)/\MH lt q r s' u3 i4/\1<=u3/\u3<=q.length/\2<=i4/\i4<=r.length/\u3+i4+j<=na+nb)
     (Q:=fun c b7=>b7=aB/\((∃res x,c=(some res,x)/\Res lt it q r res)\/ ∃s' u3 i4 ac bc,c=(none,u3,i4,(s'.reverse.map it).toArray,ac,bc)/\MH lt q r s' u3 i4/\1<=u3/\u3<=q.length/\2<=i4/\i4<=r.length/\u3+i4+1<=na+nb)) ?step1 ?fin1 ⟨rfl,s,na,nb,0,0,rfl,m,b1,b2,b3,b4,by lia⟩) ?post1)
    case fin1=>
     rintro c b7 ⟨rfl,s',u3,i4,ac,bc,rfl,m',c1,c2,c3,c4,c5⟩
     lia
    case step1=>
     rintro j c b7 _ _ ⟨rfl,s',u3,i4,ac,bc,rfl,m',c1,c2,c3,c4,c5⟩;dsimp only;refine fN (iJ (i:=i4-1) (by lia) (fN (iJ (i:=u3-1) (by lia) (fN (qK H (hs.1.trans hk) (B.nr _ (jr _)) (B.nq _ (jr _)) ?_)))));dsimp only
     cases hl:lt r[i4-1] q[u3-1] with
     |true=>
      simp only[gQ];refine fN (iJ (i:=u3-1) (by lia) ?_)
      have m2:=m'.putA W B c1 c2 fun y hy=>by
       rw[iW (show 0<i4 by lia) c4] at hy;rcases pS.mp hy with hy|hy
       ·exact SL.trans W (za W B (by lia) c4 y hy) (.inl hl)
       ·rw[ma] at hy;subst hy;exact .inl hl
      rw[nh];refine gC (fun he=>?_) fun he=>?_
      ·exact fO ⟨rfl,.inl ⟨_,_,rfl,lr W B m2 (.inl (by simpa using he))⟩⟩
      ·have:u3-1≠0:=fun z=>he (by simp[z]);refine gC (fun hg=>?_) fun hg=>?_
       ·exact fO ⟨rfl,.inr ⟨_,_,_,_,_,rfl,m2,by lia,by lia,c3,c4,by lia⟩⟩
       ·exact fO ⟨rfl,_,_,_,_,_,rfl,m2,by lia,by lia,c3,c4,by lia⟩
     |false=>
      simp only[hG,iL];refine fN (iJ (i:=i4-1) (by lia) ?_)
      have m2:=m'.putB W B (by lia) c4 fun y hy=>by
       have first:SL lt q[u3-1] r[i4-1]:= .inr ⟨hl,B.ix _ (jr _) _ (jr _)⟩;rw[iW c1 c2] at hy;rcases pS.mp hy with hy|hy
       ·exact SL.trans W (zb W B c1 c2 y hy) first
       ·rw[ma] at hy;subst hy;exact first
      rw[nh];refine gC (fun he=>?_) fun he=>?_
      ·exact fO ⟨rfl,.inl ⟨_,_,rfl,firstB m2 (by simpa using he)⟩⟩
      ·have:i4-1≠1:=fun z=>he (by simp[z]);refine gC (fun hg=>?_) fun hg=>?_
       ·exact fO ⟨rfl,.inr ⟨_,_,_,_,_,rfl,m2,c1,c2,by lia,by lia,by lia⟩⟩
       ·exact fO ⟨rfl,_,_,_,_,_,rfl,m2,c1,c2,by lia,by lia,by lia⟩
    case post1=>
     rintro c b7 ⟨rfl,⟨res,x,rfl,hr⟩|⟨s',u3,i4,ac,bc,rfl,m',c1,c2,c3,c4,c5⟩⟩
     ·exact fO ⟨res,_,rfl,hr,hs⟩
     ·dsimp only
      refine fN (lp (fN (gH (gL (I:=fun j c b7=> ∃s2 i9 j9 t5 ac bc,c=(none,i9,j9,(s2.reverse.map it).toArray,t5,ac,bc)/\MH lt q r s2 i9 j9/\1<=i9/\i9<=q.length/\2<=j9/\j9<=r.length/\i9+j9+(i+2+j)<=q.length+r.length/\Same st b7)
       (Q:=fun c b7=>Same st b7/\((∃res x,c=(some res,x)/\Res lt it q r res)\/ ∃s2 i9 j9 t5 ac bc,c=(none,i9,j9,(s2.reverse.map it).toArray,t5,ac,bc)/\MH lt q r s2 i9 j9/\1<=i9/\i9<=q.length/\2<=j9/\j9<=r.length/\i9+j9+(i+2)<=q.length+r.length)) ?step2 ?fin2 ⟨s',u3,i4,_,_,_,rfl,m',c1,c2,c3,c4,by lia,hs⟩) ?post2)))
      case fin2=>
       rintro c b7 ⟨s2,i9,j9,t5,ac,bc,rfl,m2,d1,d2,d3,d4,d5,n9⟩
       lia
      case post2=>
       rintro c b7 ⟨n9,⟨res,x,rfl,hr⟩|⟨s2,i9,j9,t5,ac,bc,rfl,m2,d1,d2,d3,d4,d5⟩⟩
       ·exact fO ⟨res,_,rfl,hr,n9⟩
       ·dsimp only;exact fN (mL fun k9 m9=>fO ⟨s2,i9,j9,_,rfl,m2,d1,d2,d3,d4,by lia,n9.trans m9⟩)
      case step2=>
       rintro j c h9 _ _ ⟨s2,i9,j9,t5,ac,bc,rfl,m2,d1,d2,d3,d4,d5,n9⟩;dsimp only;have en:(q.drop 0).take i9=q.take i9:=by rw[uc]
       have body: ∀(w6:Nat) (k9:gK),Same st k9->wpI (model prog w) A E G (do
         let y <-elem' (r.map it).toArray (j9-1)
         let x <-jk false y (q.map it).toArray 0 i9 (i9-1)
         match x with
         |some at_=>
          if i9-at_>0 then
           if(at_==0)=true then pure (ForInStep.done (some ((q.map it).toArray.extract 0 at_++(r.map it).toArray.extract 0 j9++((s2.reverse.map it).toArray++((q.map it).toArray.extract at_ i9).reverse).reverse),at_,j9,(s2.reverse.map it).toArray++((q.map it).toArray.extract at_ i9).reverse,w6,i9-at_,bc))
           else Fj (q.map it).toArray (r.map it).toArray ((s2.reverse.map it).toArray++((q.map it).toArray.extract at_ i9).reverse) at_ j9 w6 (i9-at_) bc
          else Fj (q.map it).toArray (r.map it).toArray (s2.reverse.map it).toArray i9 j9 w6 (i9-at_) bc
         |_=>pure (ForInStep.done (some ((q.map it).toArray.extract 0 i9++(r.map it).toArray.extract 0 j9++(s2.reverse.map it).toArray.reverse),i9,j9,(s2.reverse.map it).toArray,w6,ac,bc))) (D3 lt it q r (i+2) (i+2+(j+1)) (Same st)) k9:=fun w6 k9 m9=>by
        refine fN (iJ (i:=j9-1) (by lia) (fN (mM W H (B.nr _ (jr _)) B.nq (by lia) (by lia) (m9.1.trans hk) (by rw[en];exact B.sq.sublist (lg _ _)) fun k k1 k2 k3=>?_)));rw[en] at k2 k3;simp only[hG,iL,sx,Bool.not_eq_false'] at k2 k3
        have mA:MH lt q r ((q.take i9).drop k++s2) k j9:=m2.putAs W B k1 fun y hy x hx=>by
         have first:SL lt r[j9-1] x:= .inl (k3 x hx);rw[iW (show 0<j9 by lia) d4] at hy;rcases pS.mp hy with hy|hy
         ·exact SL.trans W (za W B (by lia) d4 y hy) first
         ·rw[ma] at hy;subst hy;exact first
        have ek:q.take k=(q.take i9).take k:=by rw[qh,ph k1]
        have fb: ∀y∈q.take k,SL lt y r[j9-1]:=fun y hy=> .inr ⟨k2 y (by rw[<-ek];exact hy),B.ix _ (kH hy) _ (jr _)⟩;dsimp only;refine gC (fun hp=>?_) fun hp=>?_
        ·rw[xv];refine gC (fun he=>?_) fun he=>?_
         ·exact fO ⟨m9,.inl ⟨_,_,rfl,lr W B mA (.inl (by simpa using he))⟩⟩
         ·have he:k≠0:=fun z=>he (by simp[z]);exact vK W H B bot (m9.1.trans hk) mA (by lia) (by lia) d3 d4 fb m9 (by lia) (by lia)
        ·have hz:k=i9:=by lia
         subst hz;exact vK W H B bot (m9.1.trans hk) m2 d1 d2 d3 d4 fb m9 (by lia) (by lia)
       refine gC (fun hm=>?_) fun hm=>?_
       ·refine fN (mL fun k9 m9=>?_);exact gH (body _ k9 (n9.trans m9)) fun x b7 hx=>by cases x<;>exact hx
       ·refine fN (mL fun k9 m9=>?_);exact gH (body _ k9 (n9.trans m9)) fun x b7 hx=>by cases x<;>exact hx
end
theorem yR(i:Nat):mergeAt' i=(do
 let s <-get
 let(some (sa,na,power),some (sb,nb,_)):=((pendingOf s)[i]?,(pendingOf s)[i+1]?)|unsupported "internal:list.sort.pending"
 set (setPending s (((pendingOf s).setIfInBounds i (sa,na+nb,power)).eraseIdxIfInBounds (i+1)))
 let some k <-jk false (<-elem' (arrOf s) sb) (arrOf s) sa na 0|return false
 let(sa,na):=(sa+k,na-k)
 if na==0 then return true
 let some nb <-jk true (<-elem' (arrOf s) (sa+na-1)) (arrOf s) sb nb (nb-1)|return false
 if nb==0 then return true
 let x:=(arrOf s).extract sa sb
 let y:=(arrOf s).extract sb (sb+nb)
 let merged <-if na<=nb then rq x y else rA x y
 modify fun s=>setArr s (merged.toList.zipIdx.foldl (fun a (p,j)=>a.setIfInBounds (sa+j) p) (arrOf s))
 return (failedOf (<-get)).isNone):=rfl
noncomputable def seg(L:gx)(a n:Nat):List Nat:=(L.drop a).take n
section
variable {lt:jD}{p:iQ}{a b n m:Nat}{L:gx}
theorem qb(h:a+n<=L.length):(seg L a n).length=n:=by simp[seg];omega
theorem uI{i:Nat}(hi:i<n):(seg L a n)[i]?=L[a+i]?:=by
 simp only[seg,List.getElem?_take,hi,gQ,List.getElem?_drop]
theorem Gs(h:a+n<=p.size):Up lt p a (a+n)↔(seg p.toList a n).Pairwise (SL lt):=by
 have hl:(seg p.toList a n).length=n:=qb (by simpa using h)
 have get: ∀i (hi:i<n),(seg p.toList a n)[i]'(by omega)=P p (a+i):=fun i hi=>by
  have:(seg p.toList a n)[i]?=some (P p (a+i)):=by
   rw[uI hi];have:=pQ (p:=p) (i:=a+i) (by omega);simpa using this
  rw[gW (by omega)] at this;exact iG this
 rw[AE];constructor
 ·intro u i j hi hj l8;rw[get i (by omega),get j (by omega)];exact u _ _ (by omega) (by omega) (by omega)
 ·intro u i j h1 h2 h3;have:=u (i-a) (j-a) (by omega) (by omega) (by omega);rw[get _ (by omega),get _ (by omega),show a+(i-a)=i by omega,show a+(j-a)=j by omega] at this;exact this
theorem Em(h:a+n<=p.size)(lo hi:Nat):(∀k,a<=k->k<a+n->lo<=P p k/\P p k<hi)↔ ∀x∈seg p.toList a n,lo<=x/\x<hi:=by
 have hl:(seg p.toList a n).length=n:=qb (by simpa using h)
 have get: ∀i (hi:i<n),(seg p.toList a n)[i]'(by omega)=P p (a+i):=fun i hi=>by
  have:(seg p.toList a n)[i]?=some (P p (a+i)):=by
   rw[uI hi];have:=pQ (p:=p) (i:=a+i) (by omega);simpa using this
  rw[gW (by omega)] at this;exact iG this
 constructor
 ·intro u x hx;obtain⟨i,hi,e⟩:=qv hx;rw[<-e,get i (by omega)];exact u _ (by omega) (by omega)
 ·intro u k k1 k2;have:=u _ (jr (l:=seg p.toList a n) (n:=k-a) (by omega));rw[get _ (by omega),show a+(k-a)=k by omega] at this;exact this
theorem nH(h:a+n+m<=L.length):seg L a (n+m)=seg L a n++seg L (a+n) m:=by
 unfold seg;rw[List.take_add,kZ]
theorem Du(h:a+n<=L.length):L=L.take a++(seg L a n++L.drop (a+n)):=by
 unfold seg;rw[show L.drop (a+n)=(L.drop a).drop n by rw[kZ],kf,kf]
theorem wQ{α:Type}: ∀(m:List α) (j a:Nat) (L:List α),a+j+m.length<=L.length->((m.zipIdx j).foldl (fun(x:Array α) (p:α×Nat)=>x.setIfInBounds (a+p.2) p.1) L.toArray).toList=L.take (a+j)++(m++L.drop (a+j+m.length))
 |[],j,a,L,h=>by simp
 |x::m,j,a,L,h=>by
  simp only[pq] at h;rw[List.zipIdx_cons,List.foldl_cons];dsimp only;rw[List.setIfInBounds_toArray,wQ m (j+1) a (L.set (a+j) x) (by rw[nu];omega)]
  have e1:(L.set (a+j) x).take (a+(j+1))=L.take (a+j)++[x]:=by
   rw[show a+(j+1)=a+j+1 by omega,xK,Bw (gO _),jJ (by omega)];rfl
  have e2:(L.set (a+j) x).drop (a+(j+1)+m.length)=L.drop (a+(j+1)+m.length):=Bv (by omega);rw[e1,e2];simp only[pq];rw[show a+j+(m.length+1)=a+(j+1)+m.length by omega,ja,xJ];rfl
end
section
variable {prog:gi}{w:gd}{A:gc}{E:gw}{G:Shared->Prop}{it:kr}{lt:jD}{κ:SortKind}{N:Nat}
theorem vq(hT:T.length=a)(hM:M.length=n):seg (T++(M++D)) a n=M/\(T++(M++D)).take a=T/\(T++(M++D)).drop (a+n)=D:=by
 subst hT hM;refine⟨?_,List.take_left,?_⟩
 ·unfold seg;rw[xH,List.take_left]
 ·rw[<-kZ,xH,xH]
def Run(lt:jD)(L:gx)(a n:Nat):Prop:=1<=n/\(seg L a n).Pairwise (SL lt)/\ ∀x∈seg L a n,a<=x/\x<a+n
theorem Gr(W:Wk lt)(H:Ask prog w A E G it κ N lt){i sa na sb nb pw da:Nat}{st:gK}{p:iQ}(R:Rp it κ N st p)(e1:(pendingOf st)[i]?=some (sa,na,pw))(e2:(pendingOf st)[i+1]?=some (sb,nb,da))(hs:sb=sa+na)(hn:sb+nb<=N)(r1:Run lt p.toList sa na)(r2:Run lt p.toList sb nb)
  {Q:Bool->SortSt->Prop}(h: ∀b7 p',Rp it κ N b7 p'->pendingOf b7=((pendingOf st).setIfInBounds i (sa,na+nb,pw)).eraseIdxIfInBounds (i+1)->Run lt p'.toList sa (na+nb)->p'.toList.take sa=p.toList.take sa->p'.toList.drop (sa+(na+nb))=p.toList.drop (sa+(na+nb))->Q true b7):
  wpI (model prog w) A E G (mergeAt' i) Q st:=by
 rw[yR];refine fN (jv ?_);rw[e1,e2];dsimp only;refine fN (Ea ?_);rw[R.arr];obtain⟨n1,s1,x1⟩:=r1;obtain⟨n2,s2,x2⟩:=r2;have hL:p.toList.length=N:=by simp[R.size]
 have hp:p=p.toList.toArray:=by simp
 generalize hLL:p.toList=L at*;subst hp;have ea:(L.toArray.map it)=(L.map it).toArray:=by simp
 rw[ea]
 have ee: ∀y∈L,y<N:=fun y hy=>by
  have:=(FW.mp R.perm).mem_iff.mp (by simpa using hy);simpa using this
 generalize x8:setPending st (((pendingOf st).setIfInBounds i (sa,na+nb,pw)).eraseIdxIfInBounds (i+1))=aB;have cC:kindOf aB=κ:=by rw[<-x8];exact R.kind
 have aG:arrOf aB=(L.map it).toArray:=by rw[<-x8];show arrOf st=_;rw[R.arr,ea]
 have hp1:pendingOf aB=((pendingOf st).setIfInBounds i (sa,na+nb,pw)).eraseIdxIfInBounds (i+1):=by rw[<-x8]
 have eT:failedOf aB=none:=by rw[<-x8];exact R.ok
 have hlen1:(seg L sa na).length=na:=qb (by lia);have hlen2:(seg L sb nb).length=nb:=qb (by lia);have bB:sb<L.length:=by lia
 have r0:seg L sb nb=L[sb]::seg L (sb+1) (nb-1):=by
  unfold seg;rw[qj bB,show nb=nb-1+1 by lia,Bu];rfl
 have key_mem:L[sb]∈seg L sb nb:=by rw[r0];exact jm
 have key_le: ∀z∈seg L sb nb,z=L[sb]\/SL lt L[sb] z:=fun z hz=>by
  rw[r0] at s2 hz;rcases jC.mp hz with hz|hz
  ·exact .inl hz
  ·exact .inr ((pY.mp s2).1 z hz)
 have idx: ∀y∈seg L sa na,∀z∈seg L sb nb,y<z:=fun y hy z hz=>by
  have:=x1 y hy;have:=x2 z hz;lia
 have up: ∀y∈seg L sa na,lt L[sb] y=false-> ∀z∈seg L sb nb,SL lt y z:=fun y hy hl z hz=>by
  have first:SL lt y L[sb]:= .inr ⟨hl,idx y hy _ key_mem⟩;rcases key_le z hz with rfl|hz
  ·exact first
  ·exact SL.trans W first hz
 refine fN (iJ bB (fN (mM W H (ee _ (jr _)) ee (by lia) (by lia) cC s1 fun k k1 k2 k3=>?_)));dsimp only;change ∀y∈(seg L sa na).take k,_ at k2;change ∀y∈(seg L sa na).drop k,_ at k3;simp only[hG,iL,sx,Bool.not_eq_false'] at k2 k3;by_cases hz:(na-k==0)=true
 ·rw[gh hz];have hz:na-k=0:=by simpa using hz
  have k2': ∀y∈seg L sa na,lt L[sb] y=false:=fun y hy=>k2 y (by rw[sj (by lia)];exact hy);refine fO (h aB L.toArray ⟨by rw[aG,ea],cC,eT,R.size,R.perm⟩ hp1 ?_ rfl rfl);show Run lt L sa (na+nb);refine⟨by lia,?_,fun x hx=>?_⟩
  ·rw[nH (by lia),<-hs];exact kW.mpr ⟨s1,s2,fun y hy z hz=>up y hy (k2' y hy) z hz⟩
  ·rw[nH (by lia),<-hs] at hx;rcases pS.mp hx with hx|hx
   ·have:=x1 x hx;lia
   ·have:=x2 x hx;lia
 ·rw[gk hz];have hz:na-k≠0:=fun z=>hz (by simp[z]);have y7:sa+k+(na-k)-1<L.length:=by lia
  have i6:(seg L sa na)[na-1]?=some L[sa+k+(na-k)-1]:=by
   rw[uI (by lia),gW (by lia)]
   congr 2;lia
  have o8:L[sa+k+(na-k)-1]∈(seg L sa na).drop k:=by
   refine qo (i:=na-1-k) ?_;rw[List.getElem?_drop,show k+(na-1-k)=na-1 by lia];exact i6
  generalize hla:L[sa+k+(na-k)-1]=la at i6 o8
  have le_last: ∀y∈seg L sa na,y=la\/SL lt y la:=fun y hy=>by
   obtain⟨j,hj,e⟩:=qv hy;by_cases hj2:j=na-1
   ·left;subst hj2;rw[gW hj] at i6;rw[<-e];exact iG i6
   ·right;have:=AE.mp s1 j (na-1) hj (by lia) (by lia);rw[gW (by lia)] at i6;rw[e,iG i6] at this;exact this
  have la_seg:la∈seg L sa na:=jI o8;refine fN (iJ y7 ?_);rw[hla];refine fN (mM W H (ee _ (by rw[<-hla];exact jr _)) ee (by lia) (by lia) cC s2 fun i4 j1 j2 j3=>?_);dsimp only;change ∀y∈(seg L sb nb).take i4,_ at j2;change ∀y∈(seg L sb nb).drop i4,_ at j3;simp only[gQ] at j2 j3;by_cases hy:(i4==0)=true
  ·have hy:i4=0:=by simpa using hy
   subst hy;have:=j3 L[sb] (by rw[uc];exact key_mem);rw[k3 la o8] at this;cases this
  ·rw[gk hy];have hy:i4≠0:=fun z=>hy (by simp[z])
   have ex:(L.map it).toArray.extract (sa+k) sb=(((seg L sa na).drop k).map it).toArray:=by
    simp only[sv,sm,seg,List.drop_take,kZ,List.map_take,List.map_drop];rw[show sb-(sa+k)=na-k by lia]
   have ey:(L.map it).toArray.extract sb (sb+i4)=(((seg L sb nb).take i4).map it).toArray:=by
    simp only[sv,sm,seg,qh,List.map_take,List.map_drop];rw[show sb+i4-sb=i4 by lia,ph j1]
   rw[ex,ey];have hq:((seg L sa na).drop k).length=na-k:=by simp[hlen1]
   have hr:((seg L sb nb).take i4).length=i4:=by rw[qp,hlen2,ph j1]
   have B:Pre lt N ((seg L sa na).drop k) ((seg L sb nb).take i4):=
    ⟨s1.sublist (lQ _ _),s2.sublist (lg _ _),fun x hx y hy=>idx x (jI hx) y (kH hy),fun x hx=>by have:=x1 x (jI hx);lia,fun x hx=>by have:=x2 x (kH hx);lia⟩
   have rz:((seg L sb nb).take i4)[0]'(by lia)=L[sb]:=by
    rw[List.getElem_take];have:(seg L sb nb)[0]?=some L[sb]:=by rw[r0];rfl
    rw[gW (by lia)] at this;exact iG this
   have ql:((seg L sa na).drop k)[((seg L sa na).drop k).length-1]'(by lia)=la:=by
    rw[List.getElem_drop];have:(seg L sa na)[k+(((seg L sa na).drop k).length-1)]?=some la:=by rw[hq,show k+(na-k-1)=na-1 by lia];exact i6
    rw[gW (by lia)] at this;exact iG this
   have fin: ∀merged b7,Res lt it ((seg L sa na).drop k) ((seg L sb nb).take i4) merged->Same aB b7->wpI (model prog w) A E G (do
     modify fun s=>setArr s (List.foldl (fun a x=>a.setIfInBounds (sa+k+x.snd) x.fst) (arrOf s) merged.toList.zipIdx)
     let r <-get
     pure (failedOf r).isNone) Q b7:=fun merged b7 cu y4=>by
    obtain⟨o,rfl,so,po⟩:=cu;have ol:o.length=na-k+i4:=by rw[po.length_eq,pz,hq,hr]
    refine fN (iB (fN (jv (fO ?_))));have arr':arrOf b7=(L.map it).toArray:=y4.2.1.trans aG
    have c1:L.take (sa+k)=L.take sa++(seg L sa na).take k:=by
     unfold seg;rw[qh,ph k1,<-List.take_add]
    have c2:L.drop (sa+k+o.length)=(seg L sb nb).drop i4++L.drop (sa+(na+nb)):=by
     have e3:L.drop (sa+(na+nb))=(L.drop (sb+i4)).drop (nb-i4):=by rw[kZ];congr 1;lia
     rw[ol,show sa+k+(na-k+i4)=sb+i4 by lia,e3];unfold seg;rw[List.drop_take,kZ,kf]
    have fold:List.foldl (fun(a:ku) (x:Keyed×Nat)=>a.setIfInBounds (sa+k+x.snd) x.fst) (arrOf b7) (o.map it).toArray.toList.zipIdx=(((L.take sa++(((seg L sa na).take k++(o++(seg L sb nb).drop i4))++L.drop (sa+(na+nb)))):List Nat).toArray).map it:=by
     rw[arr'];apply Array.toList_inj.mp;have:=wQ (o.map it) 0 (sa+k) (L.map it) (by simp only[nv,ol];lia);rw[Nat.add_zero] at this;refine this.trans ?_;simp only[Array.toList_map,nv];rw[<-List.map_take,<-List.map_drop,c1,c2];simp only[List.map_append,ja]
    have hpm:(L.take sa++(((seg L sa na).take k++(o++(seg L sb nb).drop i4))++L.drop (sa+(na+nb)))).Perm L:=by
     have cut:=Du (L:=L) (a:=sa) (n:=na+nb) (by lia);refine List.Perm.trans ?_ (ud cut.symm);refine pj _ (sy _ ?_);rw[nH (by lia),<-hs];have e1:=kf k (seg L sa na);have e2:=kf i4 (seg L sb nb);have:((seg L sa na).take k++(o++(seg L sb nb).drop i4)).Perm ((seg L sa na).take k++(((seg L sa na).drop k++(seg L sb nb).take i4)++(seg L sb nb).drop i4)):=pj _ (sy _ po);refine this.trans (ud ?_);rw[ja,e2,<-ja,e1]
    have eL:((seg L sa na).take k++(o++(seg L sb nb).drop i4)).length=na+nb:=by
     simp only[pz,qp,List.length_drop,hlen1,hlen2,ol];lia
    have eI:(L.take sa).length=sa:=by simp;lia
    show Q (failedOf b7).isNone _;rw[y4.2.2.2,eT];refine h _ (L.take sa++(((seg L sa na).take k++(o++(seg L sb nb).drop i4))++L.drop (sa+(na+nb)))).toArray ⟨fold,y4.1.trans cC,y4.2.2.2.trans eT,by rw[iA,hpm.length_eq,hL],FW.mpr (hpm.trans (FW.mp R.perm))⟩ (y4.2.2.1.trans hp1) ?_ ?_ ?_
    ·have hseg:=(vq (D:=L.drop (sa+(na+nb))) eI eL).1;show Run lt (L.take sa++_) sa (na+nb);unfold Run;rw[hseg];have om: ∀x∈o,x∈(seg L sa na).drop k\/x∈(seg L sb nb).take i4:=fun x hx=>pS.mp (po.mem_iff.mp hx);refine⟨by lia,kW.mpr ⟨s1.sublist (lg _ _),kW.mpr ⟨so,s2.sublist (lQ _ _),fun x hx z hz=>?_⟩,fun y hy x hx=>?_⟩,fun x hx=>?_⟩
     ·rcases om x hx with hx|hx
      ·have lz:SL lt la z:= .inr ⟨j3 z hz,idx la la_seg z (jI hz)⟩;rcases le_last x (jI hx) with rfl|hx
       ·exact lz
       ·exact SL.trans W hx lz
      ·have:=s2;rw[<-kf i4 (seg L sb nb),kW] at this;exact this.2.2 x hx z hz
     ·have hyl:=k2 y hy;have hys:=kH hy;rcases pS.mp hx with hx|hx
      ·rcases om x hx with hx|hx
       ·have:=s1;rw[<-kf k (seg L sa na),kW] at this;exact this.2.2 y hy x hx
       ·exact up y hys hyl x (kH hx)
      ·exact up y hys hyl x (jI hx)
     ·have in1:x∈seg L sa na\/x∈seg L sb nb:=by
       rcases pS.mp hx with hx|hx
       ·exact .inl (kH hx)
       ·rcases pS.mp hx with hx|hx
        ·exact(om x hx).imp jI kH
        ·exact .inr (jI hx)
      rcases in1 with hx|hx
      ·have:=x1 x hx;lia
      ·have:=x2 x hx;lia
    ·show(L.take sa++_).take sa=L.take sa;exact(vq eI eL).2.1
    ·show(L.take sa++_).drop (sa+(na+nb))=L.drop (sa+(na+nb));exact(vq eI eL).2.2
   by_cases hle:na-k<=i4
   ·rw[gh hle];refine fN (Gp W H B (by lia) (by lia) (fun y hy=>by rw[rz];exact .inl (k3 y hy)) (fun x hx y hy=>?_) cC fin)
    have:y=la:=by
     have e:((seg L sa na).drop k).drop (((seg L sa na).drop k).length-1)=[la]:=by
      rw[qj (by lia),ql,qz (by lia)]
     rw[e] at hy;exact ma.mp hy
    subst this;exact .inl (j2 x hx)
   ·rw[gk hle];refine fN (Gq W H B (by lia) (by lia) (fun x hx y hy=>?_) (fun x hx=>by rw[ql];exact .inl (j2 x hx)) cC fin)
    have:x=L[sb]:=by
     have e:((seg L sb nb).take i4).take 1=[L[sb]]:=by
      rw[r0,show i4=i4-1+1 by lia,Bu];rfl
     rw[e] at hx;exact ma.mp hx
    subst this;exact .inl (k3 y hy)
def Chain(lt:jD)(L:gx):Nat->List (Nat×Nat×Nat)->Nat->Prop
 |a,[],b=>a=b
 |a,(s,n,_)::r,b=>s=a/\Run lt L a n/\Chain lt L (a+n) r b
theorem Chain.le{L:gx}: ∀{l:List (Nat×Nat×Nat)} {a b:Nat},Chain lt L a l b->a+l.length<=b
 |[],a,b,h=>by have:a=b:=h;simp;omega
 |(s,n,x)::r,a,b,h=>by
  obtain⟨_,r1,h2⟩:=h;have:=Chain.le h2;have:=r1.1;simp only[pq];omega
theorem Cz(h:Run lt L a n)(hc:a+n<=c)(e:L'.take c=L.take c):Run lt L' a n:=by
 have:seg L' a n=seg L a n:=by
  have q: ∀X:List Nat,seg X a n=seg (X.take c) a n:=fun X=>by
   unfold seg;rw[List.drop_take,qh,ph (by omega)]
  rw[q L',q L,e]
 unfold Run;rw[this];exact h
theorem qW(h:Run lt L a n)(hc:c<=a)(e:L'.drop c=L.drop c):Run lt L' a n:=by
 have:seg L' a n=seg L a n:=by
  have q: ∀X:List Nat,seg X a n=seg (X.drop c) (a-c) n:=fun X=>by
   unfold seg;rw[kZ,show c+(a-c)=a by omega]
  rw[q L',q L,e]
 unfold Run;rw[this];exact h
theorem Chain.take{L L':gx}{c:Nat}(e:L'.take c=L.take c): ∀{l:List (Nat×Nat×Nat)} {a b:Nat},Chain lt L a l b->b<=c->Chain lt L' a l b
 |[],a,b,h,_=>h
 |(s,n,x)::r,a,b,h,hc=>by
  obtain⟨h1,h2,h3⟩:=h;have:=Chain.le h3;exact⟨h1,Cz h2 (by omega) e,Chain.take e h3 hc⟩
theorem Chain.drop{L L':gx}{c:Nat}(e:L'.drop c=L.drop c): ∀{l:List (Nat×Nat×Nat)} {a b:Nat},Chain lt L a l b->c<=a->Chain lt L' a l b
 |[],a,b,h,_=>h
 |(s,n,x)::r,a,b,h,hc=>by
  obtain⟨h1,h2,h3⟩:=h;exact⟨h1,qW h2 hc e,Chain.drop e h3 (by omega)⟩
theorem Chain.append{L:gx}: ∀{l m:List (Nat×Nat×Nat)} {a b:Nat},Chain lt L a (l++m) b↔ ∃c,Chain lt L a l c/\Chain lt L c m b
 |[],m,a,b=>⟨fun h=>⟨a,rfl,h⟩,fun⟨c,h1,h2⟩=>by have:a=c:=h1;subst this;exact h2⟩
 |(s,n,x)::r,m,a,b=>by
  constructor
  ·rintro⟨h1,h2,h3⟩;obtain⟨c,h4,h5⟩:=Chain.append.mp h3;exact⟨c,⟨h1,h2,h4⟩,h5⟩
  ·rintro⟨c,⟨h1,h2,h4⟩,h5⟩;exact⟨h1,h2,Chain.append.mpr ⟨c,h4,h5⟩⟩
theorem oP(W:Wk lt)(H:Ask prog w A E G it κ N lt){i lo:Nat}{st:gK}{p:iQ}(R:Rp it κ N st p)(ch:Chain lt p.toList 0 (pendingOf st).toList lo)(hlo:lo<=N)(hi:i+1<(pendingOf st).size){Q:Bool->SortSt->Prop}
  (h: ∀b7 p',Rp it κ N b7 p'->Chain lt p'.toList 0 (pendingOf b7).toList lo->(pendingOf b7).size+1=(pendingOf st).size->p'.toList.drop lo=p.toList.drop lo->Q true b7):wpI (model prog w) A E G (mergeAt' i) Q st:=by
 obtain⟨⟨sa,na,pw⟩,e1⟩: ∃x,(pendingOf st)[i]?=some x:=⟨_,Bt (by omega)⟩
 obtain⟨⟨sb,nb,da⟩,e2⟩: ∃x,(pendingOf st)[i+1]?=some x:=⟨_,Bt hi⟩
 have f1:(pendingOf st).toList[i]?=some (sa,na,pw):=by simpa using e1
 have f2:(pendingOf st).toList[i+1]?=some (sb,nb,da):=by simpa using e2
 have hl:(pendingOf st).toList.length=(pendingOf st).size:=by simp
 have cut:(pendingOf st).toList=(pendingOf st).toList.take i++((sa,na,pw)::(sb,nb,da)::(pendingOf st).toList.drop (i+2)):=by
  have a1:(pendingOf st).toList.drop i=(sa,na,pw)::(pendingOf st).toList.drop (i+1):=by
   rw[qj (by omega)];rw[gW (by omega)] at f1;rw[iG f1]
  have a2:(pendingOf st).toList.drop (i+1)=(sb,nb,da)::(pendingOf st).toList.drop (i+2):=by
   rw[qj (by omega)];rw[gW (by omega)] at f2;rw[iG f2]
  rw[<-a2,<-a1,kf]
 rw[cut] at ch;obtain⟨c,c1,c2⟩:=Chain.append.mp ch;obtain⟨rfl,r1,rfl,r2,c3⟩:=c2;have le3:=Chain.le c3;refine Gr W H R e1 e2 rfl (by omega) r1 r2 fun b7 p' R' ep rn et ed=>?_
 have lst:(pendingOf b7).toList=(pendingOf st).toList.take i++((sa,na+nb,pw)::(pendingOf st).toList.drop (i+2)):=by
  rw[ep];have hx:i+1<((pendingOf st).setIfInBounds i (sa,na+nb,pw)).size:=by simpa using hi
  rw[Array.eraseIdxIfInBounds,dif_pos hx]
  have: ∀(l:List (Nat×Nat×Nat)) (z:Nat×Nat×Nat),i+1<l.length->(l.set i z).eraseIdx (i+1)=l.take i++(z::l.drop (i+2)):=fun l z hz=>by
   rw[List.eraseIdx_eq_take_drop_succ];rw[show i+1+1=i+2 from rfl,Bv (by omega),xK,Bw (gO _),jJ (by omega)];simp
  have q:=this (pendingOf st).toList (sa,na+nb,pw) (by omega);simpa using q
 refine h b7 p' R' ?_ ?_ ?_
 ·rw[lst];refine Chain.append.mpr ⟨sa,Chain.take et c1 (gO _),rfl,rn,?_⟩;rw[<-Nat.add_assoc];exact Chain.drop ed c3 (by omega)
 ·have:=lS List.length lst;simp only[sH,pz,qp,pq,List.length_drop] at this;omega
 ·have q: ∀X:List Nat,X.drop lo=(X.drop (sa+(na+nb))).drop (lo-(sa+(na+nb))):=fun X=>by rw[kZ];congr 1;omega
  rw[q,q p.toList,ed]
theorem AM{p p':iQ}{lo:Nat}(hs:p'.size=p.size)(h: ∀k,k<lo->P p' k=P p k):p'.toList.take lo=p.toList.take lo:=by
 apply qy;intro k;rw[List.getElem?_take,List.getElem?_take];split
 ·rename_i hk;by_cases hz:k<p.size
  ·have a:=pQ (p:=p) hz;have b:=pQ (p:=p') (by rw[hs];exact hz);have a':p.toList[k]?=some (P p k):=by simpa using a
   have b':p'.toList[k]?=some (P p' k):=by simpa using b
   rw[a',b',h k hk]
  ·rw[um (by simp;omega),um (by simp;omega)]
 ·rfl
theorem An{p p':iQ}{lo n:Nat}(hs:p'.size=p.size)(e:p'.toList.drop lo=p.toList.drop lo)(h: ∀k,lo+n<=k->k<p.size->P p k=k): ∀k,lo+n<=k->k<p'.size->P p' k=k:=fun k k1 k2=>by
 have a:=pQ (p:=p) (i:=k) (by omega);have b:=pQ (p:=p') k2;have a':p.toList[k]?=some (P p k):=by simpa using a
 have b':p'.toList[k]?=some (P p' k):=by simpa using b
 have q: ∀X:List Nat,X[k]?=(X.drop lo)[k-lo]?:=fun X=>by rw[List.getElem?_drop,show lo+(k-lo)=k by omega]
 rw[q,e,<-q,a'] at b';rw[<-iG b'];exact h k k1 (by omega)
theorem Fo{c:Prop}[Decidable c]{a b m:Nat}(ha:a<=m)(hb:b<=m):(if c then a else b)<=m:=by
 by_cases h:c
 ·rw[gh h];exact ha
 ·rw[gk h];exact hb
structure Mid(it:kr)(lt:jD)(κ:SortKind)(N lo:Nat)(st:gK)(p:iQ):Prop where
 R:Rp it κ N st p
 ch:Chain lt p.toList 0 (pendingOf st).toList lo
 le:lo<=N
 fx: ∀k,lo<=k->k<N->P p k=k
structure Mid2(it:kr)(lt:jD)(κ:SortKind)(N lo n:Nat)(st:gK)(p:iQ):Prop where
 R:Rp it κ N st p
 ch:Chain lt p.toList 0 (pendingOf st).toList lo
 le:lo+n<=N
 fx: ∀k,lo+n<=k->k<N->P p k=k
 rn:Run lt p.toList lo n
theorem Mid2.of{lo n:Nat}{bf st:gK}{p0 p:iQ}(M:Mid it lt κ N lo bf p0)(R:Rp it κ N st p)(e:pendingOf st=pendingOf bf)(h1:1<=n)(h2:lo+n<=N)(f: ∀k,k<lo->P p k=P p0 k)(fx: ∀k,lo+n<=k->k<N->P p k=k)(rg:Reg p lo (lo+n))(up:Up lt p lo (lo+n)):Mid2 it lt κ N lo n st p:=by
 have hz:lo+n<=p.size:=by rw[R.size];exact h2
 refine⟨R,?_,h2,fx,h1,(Gs hz).mp up,(Em hz lo (lo+n)).mp rg⟩;rw[e];exact Chain.take (AM (by rw[R.size,M.R.size]) f) M.ch (gO _)
theorem Mid2.push{lo n pw:Nat}{st:gK}{p:iQ}(M:Mid2 it lt κ N lo n st p):Mid it lt κ N (lo+n) (setPending st ((pendingOf st).push (lo,n,pw))) p:=by
 refine⟨⟨M.R.arr,M.R.kind,M.R.ok,M.R.size,M.R.perm⟩,?_,M.le,M.fx⟩;show Chain lt p.toList 0 ((pendingOf st).push (lo,n,pw)).toList (lo+n);rw[Array.toList_push];exact Chain.append.mpr ⟨lo,M.ch,rfl,M.rn,rfl⟩
theorem xj{L:gx}{f:Nat×Nat×Nat->Nat×Nat×Nat}(hf: ∀x,(f x).1=x.1/\(f x).2.1=x.2.1): ∀{l:List (Nat×Nat×Nat)} {a b:Nat} (i:Nat),Chain lt L a l b->Chain lt L a (l.modify i f) b
 |[],a,b,i,h=>by cases i<;>exact h
 |(s,n,x)::r,a,b,0,h=>by
  obtain⟨h1,h2,h3⟩:=h;have e:=hf (s,n,x);show Chain lt L a (f (s,n,x)::r) b;rcases hq:f (s,n,x) with⟨s',n',x'⟩
  rw[hq] at e;obtain⟨rfl,rfl⟩:=e;exact⟨h1,h2,h3⟩
 |(s,n,x)::r,a,b,i+1,h=>by
  obtain⟨h1,h2,h3⟩:=h;exact⟨h1,h2,xj hf i h3⟩
theorem Mid2.pw{lo n pw i:Nat}{st:gK}{p:iQ}(M:Mid2 it lt κ N lo n st p):Mid2 it lt κ N lo n (setPending st ((pendingOf st).modify i fun x=>(x.fst,x.2.fst,pw))) p:=by
 refine⟨⟨M.R.arr,M.R.kind,M.R.ok,M.R.size,M.R.perm⟩,?_,M.le,M.fx,M.rn⟩;show Chain lt p.toList 0 ((pendingOf st).modify i fun x=>(x.fst,x.2.fst,pw)).toList lo;rw[Array.toList_modify];exact xj (f:=fun x=>(x.fst,x.2.fst,pw)) (fun x=>⟨rfl,rfl⟩) i M.ch
theorem Ce(W:Wk lt)(H:Ask prog w A E G it κ N lt)(h2:1<=N){st:gK}{p:iQ}(R:Rp it κ N st p)(e0:pendingOf st= #[])(fx0: ∀k,k<N->P p k=k){Q:Unit->SortSt->Prop}
  (h: ∀b7 p',Rp it κ N b7 p'->p'.toList.Pairwise (SL lt)->Q () b7):wpI (model prog w) A E G sortRuns' Q st:=by
 rw[sortRuns'_eq];refine fN (jv ?_);dsimp only;have hz:(arrOf st).size=N:=by rw[R.arr,Array.size_map,R.size]
 rw[hz];generalize hmr:minRun' N N 0=mr;have m0:Mid it lt κ N 0 st p:=⟨R,by rw[e0];rfl,qk _,fun k _ k2=>fx0 k k2⟩
 refine fN (gH (gL (I:=fun x c b7=> ∃lo p',c=(none,lo)/\x<=lo/\Mid it lt κ N lo b7 p') (Q:=fun c b7=> ∃p',c=(none,N)/\Mid it lt κ N N b7 p') ?step ?fin ⟨0,p,rfl,gO _,m0⟩) ?post)
 case fin=>
  rintro c b7 ⟨lo,p',rfl,hx,M⟩;have:=M.le;have:lo=N:=by omega
  subst this;exact⟨p',rfl,M⟩
 case step=>
  rintro x c b7 _ hx ⟨lo,p',rfl,hlo,M⟩;dsimp only;by_cases eP:lo>=N
  ·rw[gh eP];have:=M.le;have:lo=N:=by omega
   subst this;exact fO ⟨p',rfl,M⟩
  ·rw[gk eP];refine fN (AG W H (by omega) (by omega) M.R M.fx fun n h9 p2 R2 e2 n1 n2 f2 fx2 rg2 aq=>?_);dsimp only;by_cases y6:n<mr
   ·rw[gh y6];refine fN (lp (fN (Eb W H n1 (by omega) (by omega) R2 fx2 rg2 aq fun k9 p3 R3 e3 f3 fx3 rg3 bX=>?_)));simp only[sA,hG,iL];have M3:Mid2 it lt κ N lo (min (N-lo) mr) k9 p3:=Mid2.of M R3 (e3.trans e2) (by omega) (by omega) (fun k hk=>(f3 k hk).trans (f2 k hk)) fx3 rg3 bX;have hn1:1<=min (N-lo) mr:=by omega
    generalize min (N-lo) mr=n' at*;refine fN (jv ?_)
    cases hb:(pendingOf k9).back? with
    |none=>
     dsimp only;exact fN (iB (fO ⟨lo+n',p3,rfl,by omega,M3.push⟩))
    |some x1=>
     obtain⟨s1,m1,y1⟩:=x1;dsimp only;generalize power' N (2*s1+m1) (2*s1+m1+m1+n') N=pw;refine fN (gH (gL (I:=fun x c u0=>c=(none,())/\ ∃p4,Mid2 it lt κ N lo n' u0 p4) (Q:=fun c u0=>c=(none,())/\ ∃p4,Mid2 it lt κ N lo n' u0 p4) ?_ (fun _ _ q=>q) ⟨rfl,p3,M3⟩) ?_)
     ·rintro y c u0 _ _ ⟨rfl,p4,M4⟩;refine fN (jv ?_);by_cases h1:(pendingOf u0).size>1
      ·rw[gh h1]
       cases hc:(pendingOf u0)[(pendingOf u0).size-2]? with
       |none=>dsimp only;exact fO ⟨rfl,p4,M4⟩
       |some z=>
        obtain⟨z1,z2,aO⟩:=z;dsimp only;by_cases ho:aO<=pw
        ·rw[gh ho];exact fO ⟨rfl,p4,M4⟩
        ·rw[gk ho];refine fN (oP W H M4.R M4.ch (by have:=M4.le;omega) (by omega) fun bt p5 R5 fI _ dy=>?_);simp only[sA,hG,iL];refine fO ⟨rfl,p5,R5,fI,M4.le,?_,qW M4.rn (gO _) dy⟩;have:=An (p:=p4) (p':=p5) (lo:=lo) (n:=n') (by rw[R5.size,M4.R.size]) dy (by rw[M4.R.size];exact M4.fx);rw[R5.size] at this;exact this
      ·rw[gk h1];dsimp only;exact fO ⟨rfl,p4,M4⟩
     ·rintro c u0 ⟨rfl,p4,M4⟩;dsimp only;exact fN (iB (fN (iB (fO ⟨lo+n',p4,rfl,by omega,(M4.pw).push⟩))))
   ·rw[gk y6];have M3:Mid2 it lt κ N lo n h9 p2:=Mid2.of M R2 e2 n1 (by omega) f2 fx2 rg2 aq;have hn1:=n1;generalize n=n' at*;generalize h9=k9 at*;generalize p2=p3 at*;refine fN (jv ?_)
    cases hb:(pendingOf k9).back? with
    |none=>
     dsimp only;exact fN (iB (fO ⟨lo+n',p3,rfl,by omega,M3.push⟩))
    |some x1=>
     obtain⟨s1,m1,y1⟩:=x1;dsimp only;generalize power' N (2*s1+m1) (2*s1+m1+m1+n') N=pw;refine fN (gH (gL (I:=fun x c u0=>c=(none,())/\ ∃p4,Mid2 it lt κ N lo n' u0 p4) (Q:=fun c u0=>c=(none,())/\ ∃p4,Mid2 it lt κ N lo n' u0 p4) ?_ (fun _ _ q=>q) ⟨rfl,p3,M3⟩) ?_)
     ·rintro y c u0 _ _ ⟨rfl,p4,M4⟩;refine fN (jv ?_);by_cases h1:(pendingOf u0).size>1
      ·rw[gh h1]
       cases hc:(pendingOf u0)[(pendingOf u0).size-2]? with
       |none=>dsimp only;exact fO ⟨rfl,p4,M4⟩
       |some z=>
        obtain⟨z1,z2,aO⟩:=z;dsimp only;by_cases ho:aO<=pw
        ·rw[gh ho];exact fO ⟨rfl,p4,M4⟩
        ·rw[gk ho];refine fN (oP W H M4.R M4.ch (by have:=M4.le;omega) (by omega) fun bt p5 R5 fI _ dy=>?_);simp only[sA,hG,iL];refine fO ⟨rfl,p5,R5,fI,M4.le,?_,qW M4.rn (gO _) dy⟩;have:=An (p:=p4) (p':=p5) (lo:=lo) (n:=n') (by rw[R5.size,M4.R.size]) dy (by rw[M4.R.size];exact M4.fx);rw[R5.size] at this;exact this
      ·rw[gk h1];dsimp only;exact fO ⟨rfl,p4,M4⟩
     ·rintro c u0 ⟨rfl,p4,M4⟩;dsimp only;exact fN (iB (fN (iB (fO ⟨lo+n',p4,rfl,by omega,(M4.pw).push⟩))))
 case post=>
  rintro c b7 ⟨p',rfl,M⟩;dsimp only;refine fN (gH (gL (I:=fun x c h9=> ∃p2,c=(none,())/\Mid it lt κ N N h9 p2/\(pendingOf h9).size<=max 1 (N-x)) (Q:=fun c h9=> ∃p2,c=(none,())/\Mid it lt κ N N h9 p2/\(pendingOf h9).size<=1) ?step2 ?fin2 ⟨p',rfl,M,?init⟩) ?post2)
  case init=>
   have:=M.ch.le;simp only[sH] at this;omega
  case fin2=>
   rintro c h9 ⟨p2,rfl,M2,hs⟩;exact⟨p2,rfl,M2,by omega⟩
  case post2=>
   rintro c h9 ⟨p2,rfl,M2,hs⟩;refine fO (h h9 p2 M2.R ?_);have ch:=M2.ch;have hl:p2.toList.length=N:=by simp[M2.R.size]
   match hq:(pendingOf h9).toList,ch with
   |[],ch=>have:0=N:=ch;omega
   |[(s,n,pw)],ch=>
    obtain⟨rfl,r,e⟩:=ch;have e:0+n=N:=e;have:seg p2.toList 0 n=p2.toList:=by unfold seg;rw[uc,sj (by omega)]
    have q:=r.2.1
    rwa [this] at q
   |_::_::_,ch=>
    have:(pendingOf h9).toList.length<=1:=by simpa using hs
    rw[hq] at this;simp at this
  case step2=>
   rintro x c h9 _ hx ⟨p2,rfl,M2,hs⟩;refine fN (jv ?_);by_cases h1:(pendingOf h9).size<=1
   ·rw[gh h1];exact fO ⟨p2,rfl,M2,h1⟩
   ·rw[gk h1];refine fN (oP W H M2.R M2.ch (gO _) ?_ fun k9 p3 R3 ch3 sz3 dr3=>?_)
    ·exact ub (Nat.add_le_add_right (Fo (m:=(pendingOf h9).size-2) (by omega) (gO _)) 1) (by omega)
    ·simp only[sA,hG,iL];exact fO ⟨p3,rfl,⟨R3,ch3,gO _,fun k k1 k2=>by omega⟩,by omega⟩
end
end TS
namespace PX
open PySem PySem.Spec PyProof.Rows L2 PySem.SeqAt
open PySem.AutoSeq1 (wpAny_loadPart')
open PySem.MeetsSeq PySem.MeetsSeq2 PySem.MeetsSeq3
noncomputable def gS(op:CmpOp)(i j:Int):Bool:=match op with
 | .Lt=>decide (i<j)| .LtE=>decide (i<=j)| .Gt=>decide (i>j)|_=>decide (i>=j)
def jX(op:CmpOp):Prop:=op= .Lt\/op= .LtE\/op= .Gt\/op= .GtE
def FN(op:CmpOp)(A:gc)(s:fQ)(y x:fW)(b:Bool):Prop:= ∀(prog:gi) (w:gd) (E:gw) (Q:gw),Q (.bool b) s->wpAny (model prog w) A (richCompare op y x) Q E s
def rV(op:CmpOp)(A:gc)(s:fQ)(fin:Bool):List (Value×Value)->Bool->Prop
 |[],r=>r=fin
 |(y,x)::gE,r=> ∃e,EqAt A s y x e/\(if e=true then rV op A s fin gE r else FN op A s y x r)
theorem Cm(l b:fM)(items b9:jR)(n n2:Nat)(dd u6:Option Addr)(sl r6:mf)(r:Bool):
  Meets (Builtin.«tuple.__lt__» ⟨[.ref l,.ref b],[]⟩) (fun A R s=>s.heap.get? l=some {cls:= .type "tuple",dict:=dd,data:= .seq items n,slots:=sl}/\s.heap.get? b=some {cls:= .type "tuple",dict:=u6,data:= .seq b9 n2,slots:=r6}/\
   rV .Lt A.in1 s (gS .Lt items.size b9.size) (items.toList.zip b9.toList) r/\R (.ok (.ret (.bool r))) s):=
 .of_wp fun prog w A R s h=>by
  obtain⟨hp,g,d,tk,os⟩:=s;obtain⟨hl,hb,hx,h⟩:=h;have f2:=ua
  wp_walk using wpAny_loadPart' hl,wpAny_loadPart' hb,tY _ (fun gE b s'=>b.1=none/\s'=⟨hp,g,d,tk,os⟩/\rV .Lt A.in1 ⟨hp,g,d,tk,os⟩ (gS .Lt items.size b9.size) gE r) _
  case turn=>
   rintro⟨y,x⟩ gE b s' ⟨s9,rfl,e,he,hx⟩;refine fU (he prog w _ _ ?_)
   cases e with
   |true=>
    simp only[gQ] at hx
    wp_walk
    exact⟨rfl,rfl,hx⟩
   |false=>
    simp only[hG,iL] at hx;have cq:=hx prog w
    wp_walk using cq
    exact⟨_,rfl,by simpa using h⟩
  case fin=>
   rintro⟨b1,b2⟩ s' ⟨s9,rfl,hx⟩;simp only at s9;subst s9;have hx:r=gS .Lt items.size b9.size:=hx;rw[hx] at h
   wp_walk
   exact⟨_,rfl,by simpa[Builtin.Tuple.tupleCompareSizes,gS] using h⟩
  case h=>exact⟨rfl,rfl,hx⟩
theorem Cn(l b:fM)(items b9:jR)(n n2:Nat)(dd u6:Option Addr)(sl r6:mf)(r:Bool):
  Meets (Builtin.«tuple.__le__» ⟨[.ref l,.ref b],[]⟩) (fun A R s=>s.heap.get? l=some {cls:= .type "tuple",dict:=dd,data:= .seq items n,slots:=sl}/\s.heap.get? b=some {cls:= .type "tuple",dict:=u6,data:= .seq b9 n2,slots:=r6}/\
   rV .LtE A.in1 s (gS .LtE items.size b9.size) (items.toList.zip b9.toList) r/\R (.ok (.ret (.bool r))) s):=
 .of_wp fun prog w A R s h=>by
  obtain⟨hp,g,d,tk,os⟩:=s;obtain⟨hl,hb,hx,h⟩:=h;have f2:=ua
  wp_walk using wpAny_loadPart' hl,wpAny_loadPart' hb,tY _ (fun gE b s'=>b.1=none/\s'=⟨hp,g,d,tk,os⟩/\rV .LtE A.in1 ⟨hp,g,d,tk,os⟩ (gS .LtE items.size b9.size) gE r) _
  case turn=>
   rintro⟨y,x⟩ gE b s' ⟨s9,rfl,e,he,hx⟩;refine fU (he prog w _ _ ?_)
   cases e with
   |true=>
    simp only[gQ] at hx
    wp_walk
    exact⟨rfl,rfl,hx⟩
   |false=>
    simp only[hG,iL] at hx;have cq:=hx prog w
    wp_walk using cq
    exact⟨_,rfl,by simpa using h⟩
  case fin=>
   rintro⟨b1,b2⟩ s' ⟨s9,rfl,hx⟩;simp only at s9;subst s9;have hx:r=gS .LtE items.size b9.size:=hx;rw[hx] at h
   wp_walk
   exact⟨_,rfl,by simpa[Builtin.Tuple.tupleCompareSizes,gS] using h⟩
  case h=>exact⟨rfl,rfl,hx⟩
theorem Co(l b:fM)(items b9:jR)(n n2:Nat)(dd u6:Option Addr)(sl r6:mf)(r:Bool):
  Meets (Builtin.«tuple.__gt__» ⟨[.ref l,.ref b],[]⟩) (fun A R s=>s.heap.get? l=some {cls:= .type "tuple",dict:=dd,data:= .seq items n,slots:=sl}/\s.heap.get? b=some {cls:= .type "tuple",dict:=u6,data:= .seq b9 n2,slots:=r6}/\
   rV .Gt A.in1 s (gS .Gt items.size b9.size) (items.toList.zip b9.toList) r/\R (.ok (.ret (.bool r))) s):=
 .of_wp fun prog w A R s h=>by
  obtain⟨hp,g,d,tk,os⟩:=s;obtain⟨hl,hb,hx,h⟩:=h;have f2:=ua
  wp_walk using wpAny_loadPart' hl,wpAny_loadPart' hb,tY _ (fun gE b s'=>b.1=none/\s'=⟨hp,g,d,tk,os⟩/\rV .Gt A.in1 ⟨hp,g,d,tk,os⟩ (gS .Gt items.size b9.size) gE r) _
  case turn=>
   rintro⟨y,x⟩ gE b s' ⟨s9,rfl,e,he,hx⟩;refine fU (he prog w _ _ ?_)
   cases e with
   |true=>
    simp only[gQ] at hx
    wp_walk
    exact⟨rfl,rfl,hx⟩
   |false=>
    simp only[hG,iL] at hx;have cq:=hx prog w
    wp_walk using cq
    exact⟨_,rfl,by simpa using h⟩
  case fin=>
   rintro⟨b1,b2⟩ s' ⟨s9,rfl,hx⟩;simp only at s9;subst s9;have hx:r=gS .Gt items.size b9.size:=hx;rw[hx] at h
   wp_walk
   exact⟨_,rfl,by simpa[Builtin.Tuple.tupleCompareSizes,gS] using h⟩
  case h=>exact⟨rfl,rfl,hx⟩
theorem Cp(l b:fM)(items b9:jR)(n n2:Nat)(dd u6:Option Addr)(sl r6:mf)(r:Bool):
  Meets (Builtin.«tuple.__ge__» ⟨[.ref l,.ref b],[]⟩) (fun A R s=>s.heap.get? l=some {cls:= .type "tuple",dict:=dd,data:= .seq items n,slots:=sl}/\s.heap.get? b=some {cls:= .type "tuple",dict:=u6,data:= .seq b9 n2,slots:=r6}/\
   rV .GtE A.in1 s (gS .GtE items.size b9.size) (items.toList.zip b9.toList) r/\R (.ok (.ret (.bool r))) s):=
 .of_wp fun prog w A R s h=>by
  obtain⟨hp,g,d,tk,os⟩:=s;obtain⟨hl,hb,hx,h⟩:=h;have f2:=ua
  wp_walk using wpAny_loadPart' hl,wpAny_loadPart' hb,tY _ (fun gE b s'=>b.1=none/\s'=⟨hp,g,d,tk,os⟩/\rV .GtE A.in1 ⟨hp,g,d,tk,os⟩ (gS .GtE items.size b9.size) gE r) _
  case turn=>
   rintro⟨y,x⟩ gE b s' ⟨s9,rfl,e,he,hx⟩;refine fU (he prog w _ _ ?_)
   cases e with
   |true=>
    simp only[gQ] at hx
    wp_walk
    exact⟨rfl,rfl,hx⟩
   |false=>
    simp only[hG,iL] at hx;have cq:=hx prog w
    wp_walk using cq
    exact⟨_,rfl,by simpa using h⟩
  case fin=>
   rintro⟨b1,b2⟩ s' ⟨s9,rfl,hx⟩;simp only at s9;subst s9;have hx:r=gS .GtE items.size b9.size:=hx;rw[hx] at h
   wp_walk
   exact⟨_,rfl,by simpa[Builtin.Tuple.tupleCompareSizes,gS] using h⟩
  case h=>exact⟨rfl,rfl,hx⟩
section
variable {A:gc}{s:fQ}{l b:fM}{items b9:jR}{r:Bool}
theorem CC(ho:jX op)(hl:s.heap.IsTuple l items)(hb:s.heap.IsTuple b b9)(hu:A.units<cLine)(hx:rV op A.in1 s (gS op items.size b9.size) (items.toList.zip b9.toList) r):FN op A s (.ref l) (.ref b) r:=fun prog w E Q h=>by
 obtain⟨⟨cls,dd,data,sl⟩,aw,hc,n,hd⟩:=id hl;obtain⟨⟨cK,u6,data2,r6⟩,t6,bT,n2,hd2⟩:=id hb;simp only at hc hd bT hd2;subst hc hd bT hd2;rcases ho with rfl|rfl|rfl|rfl
 ·exact tX (op:= .Lt) ⟨_,aw,rfl⟩ ⟨_,t6,rfl⟩ PySem.F.slot_tuple_lt PySem.F.entry_tuple_lt (PySem.F.args_tuple_lt_2 _ _) (Cm l b items b9 n n2 dd u6 sl r6 r) ⟨aw,t6,hx,show Value.bool r≠Value.notImplemented/\Q (.bool r) s from⟨(fun x=>nomatch x),h⟩⟩ hu
 ·exact tX (op:= .LtE) ⟨_,aw,rfl⟩ ⟨_,t6,rfl⟩ PySem.F.slot_tuple_le PySem.F.entry_tuple_le (PySem.F.args_tuple_le_2 _ _) (Cn l b items b9 n n2 dd u6 sl r6 r) ⟨aw,t6,hx,show Value.bool r≠Value.notImplemented/\Q (.bool r) s from⟨(fun x=>nomatch x),h⟩⟩ hu
 ·exact tX (op:= .Gt) ⟨_,aw,rfl⟩ ⟨_,t6,rfl⟩ PySem.F.slot_tuple_gt PySem.F.entry_tuple_gt (PySem.F.args_tuple_gt_2 _ _) (Co l b items b9 n n2 dd u6 sl r6 r) ⟨aw,t6,hx,show Value.bool r≠Value.notImplemented/\Q (.bool r) s from⟨(fun x=>nomatch x),h⟩⟩ hu
 ·exact tX (op:= .GtE) ⟨_,aw,rfl⟩ ⟨_,t6,rfl⟩ PySem.F.slot_tuple_ge PySem.F.entry_tuple_ge (PySem.F.args_tuple_ge_2 _ _) (Cp l b items b9 n n2 dd u6 sl r6 r) ⟨aw,t6,hx,show Value.bool r≠Value.notImplemented/\Q (.bool r) s from⟨(fun x=>nomatch x),h⟩⟩ hu
end
mutual
def kd(op:CmpOp):D->D->Option Bool
 | .int i,.int j=>some (gS op i j)
 | .tup l,.tup m=>nM op l m
 |_,_=>none
def nM(op:CmpOp):List D->List D->Option Bool
 |[],m=>some (gS op 0 m.length)
 |x::l,[]=>some (gS op ((x::l).length) 0)
 |x::l,y::m=>if D.eqb x y=true then nM op l m else kd op x y
end
theorem lM(op:CmpOp)(a b k:Int):gS op (a+k) (b+k)=gS op a b:=by
 cases op<;>simp[gS]
section
variable {X:Cx}{pins:gq}{σ:L2.St}{H:Hp}{s:fQ}
theorem wq(ho:jX op):FN op A s (.int i t) (.int j u) (gS op i j):=fun prog w E Q h=>by
 rcases ho with rfl|rfl|rfl|rfl
 ·exact(PyProof.Rows.lt_int h:wpAny (model prog w) A (compareOp .Lt _ _) Q E s)
 ·exact(PyProof.Rows.le_int h:wpAny (model prog w) A (compareOp .LtE _ _) Q E s)
 ·exact(PyProof.Rows.gt_int h:wpAny (model prog w) A (compareOp .Gt _ _) Q E s)
 ·exact(PyProof.Rows.ge_int h:wpAny (model prog w) A (compareOp .GtE _ _) Q E s)
theorem CD(ho:jX op)(I:Inv X pins σ H s): ∀(n:Nat) (d e:D) (v u:V) (a b:fW) (O O':AP') (A:gc) (r:Bool),ik X.K H O d v->ik X.K H O' e u->RelV v a->RelV u b->d.dep<=n->e.dep<20000->A.units+n<cLine->kd op d e=some r->FN op A s a b r:=by
 intro n
 induction n with
 |zero=>
  intro d e v u a b O O' A r hd he ra rb hn t8 hA hc
  cases d with
  |int i=>
   cases e with
   |int j=>
    have:=gg hd;subst this;have:=gg he;subst this;obtain⟨t,rfl⟩:=ra;obtain⟨t',rfl⟩:=rb;rw[kd] at hc;rw[<-iG hc];exact wq ho
   |_=>rw[kd] at hc<;>first|cases hc|(intros;simp_all)
  |tup l=>rw[D.dep] at hn;omega
  |_=>rw[kd] at hc<;>first|cases hc|(intros;simp_all)
 |succ n ih=>
  intro d e v u a b O O' A r hd he ra rb hn t8 hA hc
  cases d with
  |int i=>
   cases e with
   |int j=>
    have:=gg hd;subst this;have:=gg he;subst this;obtain⟨t,rfl⟩:=ra;obtain⟨t',rfl⟩:=rb;rw[kd] at hc;rw[<-iG hc];exact wq ho
   |_=>rw[kd] at hc<;>first|cases hc|(intros;simp_all)
  |tup l=>
   cases e with
   |tup m=>
    rw[kd] at hc;rw[D.dep] at hn t8;obtain⟨p,xs,rfl,q,r1⟩:=jT hd;obtain⟨p2,ys,rfl,q2,r2⟩:=jT he;cases ra;cases rb;obtain⟨b6,v1,pl,_⟩:=I.tuple q;obtain⟨e7,v2,f7,_⟩:=I.tuple q2;have v8:A.in1.units=A.units+1:=rfl
    have key: ∀(l m:List D) (xs ys:List V) (b6 e7:gJ) (k:Int),D.depL l+1<=n+1->D.depL m<20000->RepL X.K H O l xs->RepL X.K H O' m ys->Vals xs b6->Vals ys e7->nM op l m=some r->rV op A.in1 s (gS op (b6.length+k) (e7.length+k)) (b6.zip e7) r:=by
     intro l
     induction l with
     |nil=>
      intro m xs ys b6 e7 k ax aF r1 r2 v1 v2 hc;rw[RepL] at r1;subst r1;cases v1;rw[nM] at hc;have e1:=r2.length;have e2:=v2.length;show r=_;rw[lM,<-iG hc]
      congr 1
      omega
     |cons x l ihl=>
      intro m xs ys b6 e7 k ax aF r1 r2 v1 v2 hc;rw[RepL] at r1;obtain⟨vx,xr,rfl,g1,g2⟩:=r1
      cases v1 with
      |cons a1 a2=>
       cases m with
       |nil=>
        rw[RepL] at r2;subst r2;cases v2;rw[nM] at hc;have e1:=g2.length;have e2:=a2.length;rw[List.zip_nil_right];show r=_;rw[lM,<-iG hc]
        congr 1
        simp only[pq];omega
       |cons y m=>
        rw[RepL] at r2;obtain⟨vy,yr,rfl,g3,g4⟩:=r2
        cases v2 with
        |cons b1 b2=>
         rw[nM] at hc;rw[D.depL] at ax aF;rw[List.zip_cons_cons];refine⟨D.eqb x y,ze I n x y vx vy _ _ O O' A.in1 (.inl g1) (.inl g3) a1 b1 (by omega) (by omega) (by rw[v8];omega),?_⟩
         cases hq:D.eqb x y with
         |true=>
          rw[hq,gh rfl] at hc;rw[gh rfl];have:=ihl m xr yr _ _ (k+1) (by omega) (by omega) g2 g4 a2 b2 hc;simp only[pq];have e: ∀a:Nat,(((a+1:Nat):Int)+k)=(a:Int)+(k+1):=fun a=>by omega
          rw[e,e];exact this
         |false=>
          rw[hq,gk jb] at hc;rw[gk jb];exact ih x y vx vy _ _ O O' A.in1 r (.inl g1) (.inl g3) a1 b1 (by omega) (by omega) (by rw[v8];omega) hc
    have:=key l m xs ys b6 e7 0 (by omega) (by omega) r1 r2 v1 v2 hc;refine CC ho pl f7 (by omega) ?_;simpa using this
   |_=>rw[kd] at hc<;>first|cases hc|(intros;simp_all)
  |_=>rw[kd] at hc<;>first|cases hc|(intros;simp_all)
def oX(op:CmpOp)(d e:D):Option (D×Bool):=if d.dep<=50/\e.dep<=50 then(kd op d e).map fun b=>(.bl b,false) else none
theorem uS(ho:jX op)(hu:X.A.units+60<cLine):OpR X (compareOp op) (rD X.K (oX op)):=by
 intro pins s σ H x y v u Q I rx ry h;obtain⟨O,d,e,z,np,h1,h2,hg,G⟩:=h;unfold oX at hg;split at hg
 ·rename_i hd;obtain⟨r,hr,rfl⟩:=gD hg;have:=CD ho I 50 d e x y v u O O X.A r h1 h2 rx ry hd.1 (by omega) (by omega) hr X.prog X.w X.xe (EP X pins σ Q) ⟨.bl r,H,I,rfl,G.bl⟩;rcases ho with rfl|rfl|rfl|rfl<;>exact this
 ·cases hg
end
open TS
section
variable {prog:gi}{w:gd}{A:gc}{E:gw}{s:fQ}
def lV(h:fZ)(a:fM)(vs:gJ):Heap:=((h.update a (Obj.mapSeq fun _=> #[])).push (seqObj "tuple" vs.toArray 0)).push (seqObj "list" #[] 0)
def Bb(vs:gJ)(i:Nat):Keyed:=(vs.getD i Value.none,vs.getD i Value.none)
theorem nD{a:fM}{vs:gJ}{n:Nat}{P:PySem.Fin->Shared->Prop}{κ:SortKind}{lt:jD}(ho:s.heap.get? a=some (seqObj "list" vs.toArray n))(hz:vs.length<=sizeLine)(W:Wk lt)
  (hk:2<=vs.length->wpAny (model prog w) A (keyKind' vs.toArray) (fun κ' s'=>s'={s with heap:=lV s.heap a vs}/\κ'=κ) (fun _ _=>False) {s with heap:=lV s.heap a vs})
  (ask:2<=vs.length->Ask prog w A E (fun s'=>s'={s with heap:=lV s.heap a vs}) (Bb vs) κ vs.length lt)
  (h: ∀p:List Nat,p.Perm (List.range vs.length)->p.Pairwise (SL lt)->P (.done (.ret .none)) {s with heap:=(lV s.heap a vs).update a (Obj.mapSeq fun _=>(p.map fun i=>vs.getD i Value.none).toArray)}):
  wpAny (model prog w) A (Builtin.«list.sort» ⟨[.ref a],[]⟩) P E s:=by
 rw[list_sort_plain];have ha:a<s.heap.objs.size:=gZ ho;refine fU (listItems_at ho rfl (fU (xG ho rfl ?_ (by rw[iA];exact hz) (qk _))));obtain⟨e1,aw⟩: ∃e1,(s.heap.update a (Obj.mapSeq fun _=>(#[]:Array Value))).get? a=some (seqObj "list" #[] e1):=⟨_,xF ho fun _=> #[]⟩
 refine fU (xD aw rfl (fU (xP ?_ (by show vs.length<=_;exact hz))));refine fU (wpAny_newList ?_ (qk _));refine nA ?_;have dN:(lV s.heap a vs).get? a=some (seqObj "list" #[] e1):=hW _ (hW _ aw);show wpAny (model prog w) A _ P E {s with heap:=lV s.heap a vs};dsimp only;by_cases h2:vs.toArray.size<2
 ·rw[gh h2,gh h2];refine fU (gv ?_);rw[StateT.run_pure];refine fU (gv ?_);dsimp only;refine fU (xD dN rfl (fU (xG dN rfl ?_ (qk _) ?_)))
  ·simp only[qB,hG,iL];refine gv ?_;have cJ:vs.length<2:=by simpa using h2
   have:=h (List.range vs.length) (qw _) (by
    rw[AE];intro i j hi hj l8;simp at hi hj;omega)
   have e:((vs.toArray.zip vs.toArray).map (·.2))=((List.range vs.length).map fun i=>vs.getD i Value.none).toArray:=by
    apply Array.ext
    ·simp
    ·intro i h1 h3;have hi:i<vs.length:=by simpa using h1
     simp[hi]
   rw[e];exact this
  ·rw[Array.size_map,Array.size_zip];simp;omega
 ·rw[gk h2,gk h2];have cJ:2<=vs.length:=by simpa using h2
  refine fU (ky (hk cJ) (fun κ' s' hκ=>?_) fun _ _ x=>x.elim);obtain⟨rfl,rfl⟩:=hκ
  have R:Rp (Bb vs) κ' vs.length (SortSt.mk' κ' (vs.toArray.zip vs.toArray) #[] 7 none) (Array.range vs.length):=by
   refine⟨?_,rfl,rfl,by simp,Array.Perm.refl _⟩;show vs.toArray.zip vs.toArray=_;apply Array.ext
   ·simp
   ·intro i h1 h3;have hi:i<vs.length:=by simpa using h1
    simp[Bb,hi]
  refine fU (ky (Ce (lt:=lt) W (ask cJ) (by omega) R rfl (fun k hk=>by simp[TS.P,hk]) (Q:=fun _ b7=> ∃p',Rp (Bb vs) κ' vs.length b7 p'/\p'.toList.Pairwise (SL lt)) (fun b7 p' R' hp=>⟨p',R',hp⟩) _ rfl) ?_ fun _ _ e=>e);rintro⟨⟨⟩,b7⟩ s' ⟨rfl,p',R',hp⟩;dsimp only;have cO:failedOf b7=none:=R'.ok
  have out:(arrOf b7).map (·.2)=(p'.toList.map fun i=>vs.getD i Value.none).toArray:=by
   rw[R'.arr,Array.map_map];apply Array.toList_inj.mp;simp[Bb]
  have pl:p'.toList.length=vs.length:=by simp[R'.size]
  refine fU (xD dN rfl (fU (xG dN rfl ?_ (qk _) ?_)))
  ·rw[cO];simp only[qB,hG,iL];rw[out];refine gv (h p'.toList ?_ hp);have:=FW.mp R'.perm;simpa using this
  ·rw[out,iA,nv,pl];omega
end
mutual
def cT:D->D->Ordering
 | .int i,.int j=>if i<j then .lt else if i=j then .eq else .gt
 | .int _,_=> .lt
 | .tup _,.int _=> .gt
 | .tup l,.tup m=>cL l m
 | .tup _,_=> .lt
 |_,.int _=> .gt
 |_,.tup _=> .gt
 |_,_=> .eq
def cL:List D->List D->Ordering
 |[],[]=> .eq
 |[],_::_=> .lt
 |_::_,[]=> .gt
 |x::l,y::m=>match cT x y with
  | .lt=> .lt
  | .gt=> .gt
  | .eq=>cL l m
end
mutual
theorem Av: ∀x:D,cT x x= .eq
 | .int i=>by simp[cT]
 | .tup l=>by rw[cT];exact Ax l
 | .non=>by simp[cT]
 | .bl _=>by simp[cT]
 | .str _=>by simp[cT]
 | .lst _=>by simp[cT]
 | .oth _ _ _=>by simp[cT]
theorem Ax: ∀l:List D,cL l l= .eq
 |[]=>by simp[cL]
 |x::l=>by rw[cL,Av x];exact Ax l
end
mutual
theorem lP: ∀x y:D,cT y x=(cT x y).swap
 | .int i,.int j=>by
  rw[cT,cT];by_cases h1:i<j
  ·rw[gh h1,gk (by omega),gk (by omega)];rfl
  ·rw[gk h1];by_cases h2:i=j
   ·rw[gh h2,gk (by omega),gh h2.symm];rfl
   ·rw[gk h2,gh (by omega)];rfl
 | .tup l,.tup m=>by rw[cT,cT];exact Aw l m
 | .int _,.tup _=>by simp[cT]
 | .int _,.non=>by simp[cT]
 | .int _,.bl _=>by simp[cT]
 | .int _,.str _=>by simp[cT]
 | .int _,.lst _=>by simp[cT]
 | .int _,.oth _ _ _=>by simp[cT]
 | .tup _,.int _=>by simp[cT]
 | .tup _,.non=>by simp[cT]
 | .tup _,.bl _=>by simp[cT]
 | .tup _,.str _=>by simp[cT]
 | .tup _,.lst _=>by simp[cT]
 | .tup _,.oth _ _ _=>by simp[cT]
 | .non,y=>by cases y<;>simp[cT]
 | .bl _,y=>by cases y<;>simp[cT]
 | .str _,y=>by cases y<;>simp[cT]
 | .lst _,y=>by cases y<;>simp[cT]
 | .oth _ _ _,y=>by cases y<;>simp[cT]
theorem Aw: ∀l m:List D,cL m l=(cL l m).swap
 |[],[]=>by simp[cL]
 |[],_::_=>by simp[cL]
 |_::_,[]=>by simp[cL]
 |x::l,y::m=>by
  rw[cL,cL,lP x y];cases h:cT x y<;>simp[Ordering.swap]
  exact Aw l m
end
theorem F9(h1:cT x y≠ .gt)(h2:cT y x≠ .gt):cT x y= .eq:=by
 rw[lP x y] at h2
 cases h:cT x y with
 |lt=>rw[h] at h2;exact absurd rfl h2
 |eq=>rfl
 |gt=>exact absurd h h1
mutual
theorem oM: ∀x y z:D,cT x y≠ .gt->cT y z≠ .gt->cT x z≠ .gt
 | .int i,y,z,h1,h2=>by
  cases z with
  |int k=>
   cases y with
   |int j=>
    rw[cT] at h1 h2 ⊢
    have a:i<=j:=by
     by_cases a:i<j
     ·omega
     ·rw[gk a] at h1;by_cases b:i=j
      ·omega
      ·rw[gk b] at h1;exact absurd rfl h1
    have b:j<=k:=by
     by_cases a:j<k
     ·omega
     ·rw[gk a] at h2;by_cases b:j=k
      ·omega
      ·rw[gk b] at h2;exact absurd rfl h2
    by_cases c:i<k
    ·rw[gh c];simp
    ·rw[gk c,gh (by omega)];simp
   |_=>simp[cT] at h2
  |_=>simp[cT]
 | .tup l,y,z,h1,h2=>by
  cases y with
  |int j=>simp[cT] at h1
  |tup m=>
   cases z with
   |int k=>simp[cT] at h2
   |tup n=>rw[cT] at h1 h2 ⊢;exact xm l m n h1 h2
   |_=>simp[cT]
  |_=>cases z<;>simp_all [cT]
 | .non,y,z,h1,h2=>by cases y<;>cases z<;>simp_all [cT]
 | .bl _,y,z,h1,h2=>by cases y<;>cases z<;>simp_all [cT]
 | .str _,y,z,h1,h2=>by cases y<;>cases z<;>simp_all [cT]
 | .lst _,y,z,h1,h2=>by cases y<;>cases z<;>simp_all [cT]
 | .oth _ _ _,y,z,h1,h2=>by cases y<;>cases z<;>simp_all [cT]
 termination_by x y z=>sizeOf x+sizeOf y+sizeOf z
theorem xm: ∀l m n:List D,cL l m≠ .gt->cL m n≠ .gt->cL l n≠ .gt
 |[],m,n,_,_=>by cases n<;>simp[cL]
 |x::l,[],n,h1,_=>by simp[cL] at h1
 |x::l,y::m,[],_,h2=>by simp[cL] at h2
 |x::l,y::m,z::n,h1,h2=>by
  have a1:cT x y≠ .gt:=fun h=>by rw[cL,h] at h1;exact h1 rfl
  have a2:cT y z≠ .gt:=fun h=>by rw[cL,h] at h2;exact h2 rfl
  have a3:=oM x y z a1 a2;rw[cL]
  cases hxz:cT x z with
  |lt=>simp
  |gt=>exact absurd hxz a3
  |eq=>
   have zx:cT z x≠ .gt:=by rw[lP x z,hxz];simp[Ordering.swap]
   have exy:cT x y= .eq:=F9 a1 (oM y z x a2 zx);have eyz:cT y z= .eq:=F9 a2 (oM z x y zx a1);rw[cL,exy] at h1;rw[cL,eyz] at h2;exact xm l m n h1 h2
 termination_by l m n=>sizeOf l+sizeOf m+sizeOf n
end
def ltT(x y:D):Bool:=cT x y== .lt
theorem D4:ltT x y=true↔cT x y= .lt:=by simp[ltT]
theorem oU:ltT x y=false↔cT x y≠ .lt:=by simp[ltT]
theorem Io(f:Nat->D):Wk fun i j=>ltT (f i) (f j):=by
 have key: ∀x y z:D,ltT x z=true->ltT x y=true\/ltT y z=true:=fun x y z h=>by
  cases h1:ltT x y with
  |true=>exact .inl rfl
  |false=>
   cases h2:ltT y z with
   |true=>exact .inr rfl
   |false=>
    exfalso
    have yx:cT y x≠ .gt:=by
     rw[lP x y];intro e;rw[oU] at h1
     cases hc:cT x y with
     |lt=>exact h1 hc
     |eq=>rw[hc] at e;cases e
     |gt=>rw[hc] at e;cases e
    have zy:cT z y≠ .gt:=by
     rw[lP y z];intro e;rw[oU] at h2
     cases hc:cT y z with
     |lt=>exact h2 hc
     |eq=>rw[hc] at e;cases e
     |gt=>rw[hc] at e;cases e
    have:=oM z y x zy yx;rw[lP x z,D4.mp h] at this;exact this rfl
 refine⟨fun i=>by rw[oU,Av];simp,fun i j k h1 h2=>?_,fun i j k h=>key _ _ _ h⟩;rcases key (f i) (f k) (f j) h1 with h|h
 ·exact h
 ·
  rw[D4] at h h2;rw[lP,h] at h2;cases h2
mutual
/-- ints,and tuples of such -/
def D.pr:D->Bool
 | .int _=>true
 | .tup l=>D.prL l
 |_=>false
def D.prL:List D->Bool
 |[]=>true
 |x::l=>D.pr x&&D.prL l
end
mutual
theorem DO: ∀x y:D,D.pr x=true->D.pr y=true->D.eqb x y=(cT x y== .eq)
 | .int i,.int j,_,_=>by
  rw[D.eqb,cT];by_cases h:i=j
  ·subst h;simp
  ·rw[gk h];by_cases h2:i<j<;>simp[h,h2]
 | .int _,.tup _,_,_=>by simp[D.eqb,cT]
 | .tup _,.int _,_,_=>by simp[D.eqb,cT]
 | .tup l,.tup m,h1,h2=>by rw[D.eqb,cT];rw[D.pr] at h1 h2;exact Aq l m h1 h2
 | .non,_,h,_=>by simp[D.pr] at h
 | .bl _,_,h,_=>by simp[D.pr] at h
 | .str _,_,h,_=>by simp[D.pr] at h
 | .lst _,_,h,_=>by simp[D.pr] at h
 | .oth _ _ _,_,h,_=>by simp[D.pr] at h
 |_,.non,_,h=>by simp[D.pr] at h
 |_,.bl _,_,h=>by simp[D.pr] at h
 |_,.str _,_,h=>by simp[D.pr] at h
 |_,.lst _,_,h=>by simp[D.pr] at h
 |_,.oth _ _ _,_,h=>by simp[D.pr] at h
theorem Aq: ∀l m:List D,D.prL l=true->D.prL m=true->D.eqbL l m=(cL l m== .eq)
 |[],[],_,_=>by simp[D.eqbL,cL]
 |[],_::_,_,_=>by simp[D.eqbL,cL]
 |_::_,[],_,_=>by simp[D.eqbL,cL]
 |x::l,y::m,h1,h2=>by
  rw[D.prL,kv] at h1 h2;rw[D.eqbL,cL,DO x y h1.1 h2.1,Aq l m h1.2 h2.2];cases cT x y<;>simp
end
mutual
theorem vA: ∀x y:D,D.pr x=true->D.pr y=true-> ∀b,kd .Lt x y=some b->b=ltT x y
 | .int i,.int j,_,_,b,h=>by
  rw[kd] at h;rw[<-iG h,ltT,cT,gS];by_cases h1:i<j
  ·simp[h1]
  ·rw[gk h1];by_cases h2:i=j<;>simp[h1,h2]
 | .int _,.tup _,_,_,b,h=>by simp[kd] at h
 | .tup _,.int _,_,_,b,h=>by simp[kd] at h
 | .tup l,.tup m,h1,h2,b,h=>by
  rw[kd] at h;rw[D.pr] at h1 h2;rw[ltT,cT];exact Ar l m h1 h2 b h
 | .non,_,h,_,_,_=>by simp[D.pr] at h
 | .bl _,_,h,_,_,_=>by simp[D.pr] at h
 | .str _,_,h,_,_,_=>by simp[D.pr] at h
 | .lst _,_,h,_,_,_=>by simp[D.pr] at h
 |_,.non,_,h,_,_=>by simp[D.pr] at h
 |_,.bl _,_,h,_,_=>by simp[D.pr] at h
 |_,.str _,_,h,_,_=>by simp[D.pr] at h
 |_,.lst _,_,h,_,_=>by simp[D.pr] at h
theorem Ar: ∀l m:List D,D.prL l=true->D.prL m=true-> ∀b,nM .Lt l m=some b->b=(cL l m== .lt)
 |[],[],_,_,b,h=>by rw[nM] at h;rw[<-iG h];simp[gS,cL]
 |[],_::_,_,_,b,h=>by rw[nM] at h;rw[<-iG h];simp[gS,cL]<;>omega
 |_::_,[],_,_,b,h=>by rw[nM] at h;rw[<-iG h];simp[gS,cL]<;>omega
 |x::l,y::m,h1,h2,b,h=>by
  rw[D.prL,kv] at h1 h2;rw[nM,DO x y h1.1 h2.1] at h;rw[cL]
  cases hc:cT x y with
  |eq=>rw[hc] at h;simp at h;exact Ar l m h1.2 h2.2 b h
  |lt=>rw[hc] at h;simp at h;have:=vA x y h1.1 h2.1 b h;rw[this,ltT,hc]
  |gt=>rw[hc] at h;simp at h;have:=vA x y h1.1 h2.1 b h;rw[this,ltT,hc]
end
section
variable {α:Type}(lt:α->α->Bool)
def rZ(x:α):List α->List α
 |[]=>[x]
 |y::l=>if lt y x=true then y::rZ x l else x::y::l
def lU:List α->List α
 |[]=>[]
 |x::l=>rZ lt x (lU l)
theorem oW(x:α): ∀l:List α,(rZ lt x l).Perm (x::l)
 |[]=>qw _
 |y::l=>by
  rw[rZ];split
  ·exact((oW x l).cons y).trans (List.Perm.swap x y l)
  ·exact qw _
theorem lF: ∀l:List α,(lU lt l).Perm l
 |[]=>qw _
 |x::l=>(oW lt x _).trans ((lF l).cons x)
theorem wH{β:Type}(bP:β->β->Bool)(f:α->β)(x:α): ∀l:List α,(∀y∈l,bP (f y) (f x)=lt y x)->rZ bP (f x) (l.map f)=(rZ lt x l).map f
 |[],_=>rfl
 |y::l,h=>by
  rw[nk,rZ,rZ,h y jm];split
  ·rw[nk,wH bP f x l fun z hz=>h z (iO _ hz)]
  ·rfl
theorem sV{β:Type}(bP:β->β->Bool)(f:α->β): ∀l:List α,(∀x∈l,∀y∈l,bP (f y) (f x)=lt y x)->lU bP (l.map f)=(lU lt l).map f
 |[],_=>rfl
 |x::l,h=>by
  rw[nk,lU,lU,sV bP f l fun a ha b hb=>h a (iO _ ha) b (iO _ hb)];exact wH lt bP f x _ fun y hy=>h x jm y (iO _ ((lF lt l).mem_iff.mp hy))
end
theorem Am{lt:jD}(W:Wk lt){x:Nat}: ∀{l:gx},l.Pairwise (SL lt)->(∀y∈l,x<y)->(rZ lt x l).Pairwise (SL lt)
 |[],_,_=>xM _ _
 |y::l,h,hx=>by
  rw[pY] at h;rw[rZ]
  cases hl:lt y x with
  |true=>
   rw[gh rfl,pY];refine⟨fun z hz=>?_,Am W h.2 fun z hz=>hx z (iO _ hz)⟩;rcases jC.mp ((oW lt x l).mem_iff.mp hz) with rfl|hz
   ·exact .inl hl
   ·exact h.1 z hz
  |false=>
   rw[gk jb,pY];have first:SL lt x y:= .inr ⟨hl,hx y jm⟩;refine⟨fun z hz=>?_,pY.mpr h⟩;rcases jC.mp hz with rfl|hz
   ·exact first
   ·exact SL.trans W first (h.1 z hz)
theorem vY{lt:jD}(W:Wk lt): ∀{l:gx},l.Pairwise (· < ·)->(lU lt l).Pairwise (SL lt)
 |[],_=>List.Pairwise.nil
 |x::l,h=>by
  rw[pY] at h;exact Am W (vY W h.2) fun y hy=>h.1 y ((lF lt l).mem_iff.mp hy)
theorem vX(W:Wk lt)(hp:p.Perm (List.range n))(hs:p.Pairwise (SL lt)):p=lU lt (List.range n):=by
 refine List.Perm.eq_of_pairwise (fun x y _ _ h1 h2=>(SL.asym W h1 h2).elim) hs (vY W List.pairwise_lt_range) (hp.trans (lF lt _).symm)
theorem AO{ds:List D}{p:gx}(hp:p.Perm (List.range ds.length))(hs:p.Pairwise (SL fun i j=>ltT (ds.getD i .non) (ds.getD j .non))):p.map (fun i=>ds.getD i .non)=lU ltT ds:=by
 rw[vX (Io fun i=>ds.getD i .non) hp hs,<-sV _ ltT (fun i=>ds.getD i .non) _ fun x _ y _=>rfl]
 congr 1
 apply qy;intro i;by_cases hi:i<ds.length
 ·simp[hi]
 ·simp[hi]
def iU:D->Option Nat
 | .int _=>some 0
 | .tup (.int _::_)=>some 1
 | .tup (.tup _::_)=>some 2
 |_=>none
def Aj:Nat->SortKind
 |0=>oneType'
 |1=>tuples' true
 |_=>tuples' false
structure SortsBy(k:Nat)(l:List D):Prop where
 hd: ∀x∈l,iU x=some k
 pr: ∀x∈l,D.pr x=true
 dp: ∀x∈l,x.dep<=50
 cm: ∀x∈l,∀y∈l,(kd .Lt x y).isSome=true
def yy(l:List D):Bool:=l.length<=1||match l with
 |[]=>true
 |x::_=>(iU x).isSome&&(l.all fun y=>iU y==iU x&&D.pr y&&decide (y.dep<=50))&&l.all fun y=>l.all fun z=>(kd .Lt y z).isSome
theorem AQ(h:yy l=true):l.length<=1\/ ∃k,SortsBy k l:=by
 unfold yy at h;rw[Bool.or_eq_true] at h;rcases h with h|h
 ·left;simpa using h
 ·right
  cases l with
  |nil=>exact⟨0,fun x hx=>absurd hx jF,fun x hx=>absurd hx jF,fun x hx=>absurd hx jF,fun x hx=>absurd hx jF⟩
  |cons x m=>
   simp only[kv,vI,decide_eq_true_eq] at h;obtain⟨⟨h1,h2⟩,h3⟩:=h;obtain⟨k,hk⟩:=FQ.mp h1;refine⟨k,fun y hy=>?_,fun y hy=>(h2 y hy).1.2,fun y hy=>(h2 y hy).2,fun y hy z hz=>h3 y hy z hz⟩;have:=(h2 y hy).1.1;rw[hk] at this;simpa using this
section
variable {X:Cx}{pins:gq}{σ:L2.St}{H:Hp}{s:fQ}
theorem mQ(v:Vals xs b6)(hi:i<b6.length):RelV (xs.getD i .non) (b6.getD i Value.none):=by
 have e:=v.length;have hx:xs[i]?=some xs[i]:=gW (by omega);obtain⟨w,w1,w2⟩:=v.get hx;have h1:xs.getD i .non=xs[i]:=by simp[show i<xs.length by omega]
 have h2:b6.getD i Value.none=w:=by
  rw[gW hi] at w1;have:=iG w1;simp[hi,this]
 rw[h1,h2];exact w2
theorem mT(r:RepL X.K H O ds xs)(hi:i<ds.length):Rep X.K H O (ds.getD i .non) (xs.getD i .non):=by
 have e:=r.length;have hd:ds[i]?=some ds[i]:=gW hi;obtain⟨v,v1,v2⟩:=r.get hd;have h1:ds.getD i .non=ds[i]:=by simp[hi]
 have h2:xs.getD i .non=v:=by
  rw[gW (by omega)] at v1;have:=iG v1;simp[show i<xs.length by omega,this]
 rw[h1,h2];exact v2
theorem rB{ds:List D}{i:Nat}(hi:i<ds.length):ds.getD i .non∈ds:=by simp[hi]
theorem wG(I:Inv X pins σ H s){A:gc}{b:Bool}{O O':AP'}(hA:A.units+60<cLine){r:Bool}{Q:Bool->Shared->Prop}(hQ:Q r s): ∀(l m:List D) (xs ys:List V) (b6 e7:gJ) (k:Int) (i:Nat),D.depL l<=50->D.depL m<=50->
  ((b&&i==0)=true-> ∀x y l' m',l=x::l'->m=y::m'->(∃a,x= .int a)/\ ∃c,y= .int c)->RepL X.K H O l xs->RepL X.K H O' m ys->Vals xs b6->Vals ys e7->nM .Lt l m=some r->
  ∀fin:Bool,fin=gS .Lt (b6.length+k) (e7.length+k)->PySem.W.KatLex X.prog X.w A b fin Q (b6.zip e7) i s
 |[],m,xs,ys,b6,e7,k,i,_,_,_,r1,r2,v1,v2,hc,fin,hf=>by
  rw[RepL] at r1;subst r1;cases v1;rw[nM] at hc;have e1:=r2.length;have e2:=v2.length;show Q fin s;rw[hf,lM];rw[<-iG hc] at hQ;have:gS .Lt ((([]:List Value).length:Nat):Int) (e7.length:Int)=gS .Lt 0 (m.length:Int):=by congr 1;omega
  rw[this];exact hQ
 |x::l,[],xs,ys,b6,e7,k,i,_,_,_,r1,r2,v1,v2,hc,fin,hf=>by
  rw[RepL] at r2;subst r2;cases v2;rw[nM] at hc;have e1:=r1.length;have e2:=v1.length;rw[List.zip_nil_right];show Q fin s;rw[hf,lM];rw[<-iG hc] at hQ;have:gS .Lt (b6.length:Int) ((([]:List Value).length:Nat):Int)=gS .Lt (((x::l).length:Nat):Int) 0:=by congr 1;omega
  rw[this];exact hQ
 |x::l,y::m,xs,ys,b6,e7,k,i,ax,aF,hb,r1,r2,v1,v2,hc,fin,hf=>by
  rw[RepL] at r1 r2;obtain⟨vx,xr,rfl,g1,g2⟩:=r1;obtain⟨vy,yr,rfl,g3,g4⟩:=r2
  cases v1 with
  |cons a1 a2=>
   cases v2 with
   |cons b1 b2=>
    rw[nM] at hc;rw[D.depL] at ax aF;rw[List.zip_cons_cons];refine PySem.W.kat_cons (ze I 50 x y vx vy _ _ O O' A (.inl g1) (.inl g3) a1 b1 (by omega) (by omega) (by omega) X.prog X.w _ _ ?_)
    cases hq:D.eqb x y with
    |true=>
     rw[hq,gh rfl] at hc;refine PySem.W.kat_yes (wG I hA hQ l m xr yr _ _ (k+1) (i+1) (by omega) (by omega) (fun h=>by simp at h) g2 g4 a2 b2 hc fin ?_);rw[hf];simp only[pq];have e: ∀a:Nat,(((a+1:Nat):Int)+k)=(a:Int)+(k+1):=fun a=>by omega
     rw[e,e]
    |false=>
     rw[hq,gk jb] at hc;refine PySem.W.kat_no ?_
     cases hbi:(b&&i==0) with
     |true=>
      obtain⟨⟨a,rfl⟩,c,rfl⟩:=hb hbi x y l m rfl rfl;have:=g1.int;subst this;have:=g3.int;subst this;obtain⟨t,rfl⟩:=a1;obtain⟨t',rfl⟩:=b1;rw[kd] at hc;rw[<-iG hc] at hQ;exact oneLt_int hQ
     |false=>
      exact PySem.W.kat_one _ _ (CD (.inl rfl) I 50 x y vx vy _ _ O O' A r (.inl g1) (.inl g3) a1 b1 (by omega) (by omega) (by omega) hc X.prog X.w _ _ hQ)
theorem Jn(I:Inv X pins σ H s){O:AP'}{ds:List D}{xs:List V}{b6:gJ}{A:gc}{E:gw}(hA:A.units+60<cLine)(rr:RepL X.K H O ds xs)(v:Vals xs b6){k:Nat}(B:SortsBy k ds):
  Ask X.prog X.w A E (fun s'=>s'=s) (Bb b6) (Aj k) b6.length (fun i j=>ltT (ds.getD i .non) (ds.getD j .non)):=by
 intro i j hi hj s' cO E';subst cO;have e1:=rr.length;have e2:=v.length;have mi:ds.getD i .non∈ds:=rB (by omega);have mj:ds.getD j .non∈ds:=rB (by omega);have ri:=mT rr (i:=i) (by omega);have rj:=mT rr (i:=j) (by omega);have vi:=mQ v hi;have vj:=mQ v hj;obtain⟨b,hb⟩:=FQ.mp (B.cm _ mi _ mj);have y6:=vA _ _ (B.pr _ mi) (B.pr _ mj) b hb;have bp:=B.hd _ mi;have bo:=B.hd _ mj;have di:=B.dp _ mi;have dj:=B.dp _ mj;show wpAny _ _ (keyLt' (Aj k) (b6.getD i Value.none) (b6.getD j Value.none)) _ _ _;dsimp only;rw[<-y6];generalize ds.getD i .non=x at*;generalize ds.getD j .non=y at*;generalize xs.getD i .non=vx at*;generalize xs.getD j .non=vy at*;generalize b6.getD i Value.none=a at*;generalize b6.getD j Value.none=c at*
 have tups: ∀(l m:List D) (bb:Bool),x= .tup l->y= .tup m->(bb=true-> ∀x y l' m',l=x::l'->m=y::m'->(∃a,x= .int a)/\ ∃c,y= .int c)->wpAny (model X.prog X.w) A (keyLt' (tuples' bb) a c) (fun b' y9=>y9=s'/\b'=b) E' s':=fun l m bb hl hm hh=>by
  subst hl hm;obtain⟨p,us,rfl,q,r1⟩:=ri.tup;obtain⟨p2,ws,rfl,q2,r2⟩:=rj.tup;cases vi;cases vj;obtain⟨dG,w1,⟨o,ho,hc,n,hd⟩,_⟩:=I.tuple q.sq;obtain⟨is2,w2,⟨o2,t6,bT,n2,hd2⟩,_⟩:=I.tuple q2.sq;rw[kd] at hb;rw[D.dep] at di dj;refine PySem.W.kat_lt ho hd t6 hd2 ?_;have:=wG I (b:=bb) hA (Q:=fun b' y9=>y9=s'/\b'=b) ⟨rfl,rfl⟩ l m us ws dG is2 0 0 (by omega) (by omega) (fun h=>hh (by simpa using h)) r1 r2 w1 w2 hb (decide (dG.toArray.size<is2.toArray.size)) (by simp[gS]);simpa using this
 match k,bp,bo with
 |0,bp,bo=>
  cases x with
  |int ix=>
   cases y with
   |int iy=>
    have:=ri.int;subst this;have:=rj.int;subst this;obtain⟨t,rfl⟩:=vi;obtain⟨t',rfl⟩:=vj;rw[kd] at hb;rw[<-iG hb];show wpAny _ _ (keyLt' oneType' _ _) _ _ _;rw[keyLt'_oneType];exact oneLt_int ⟨rfl,rfl⟩
   |tup m=>cases m with
    |nil=>simp[iU] at bo
    |cons z m=>cases z<;>simp[iU] at bo
   |_=>simp[iU] at bo
  |tup m=>cases m with
   |nil=>simp[iU] at bp
   |cons z m=>cases z<;>simp[iU] at bp
  |_=>simp[iU] at bp
 |1,bp,bo=>
  cases x with
  |tup l=>
   cases y with
   |tup m=>
    refine tups l m true rfl rfl fun _ x y l' m' hl hm=>?_;subst hl hm;refine⟨?_,?_⟩
    ·cases x with
     |int a=>exact⟨a,rfl⟩
     |_=>simp[iU] at bp
    ·cases y with
     |int a=>exact⟨a,rfl⟩
     |_=>simp[iU] at bo
   |_=>simp[iU] at bo
  |_=>simp[iU] at bp
 |(n+2),bp,bo=>
  cases x with
  |tup l=>
   cases y with
   |tup m=>exact tups l m false rfl rfl fun h=>absurd h jb
   |_=>simp[iU] at bo
  |_=>simp[iU] at bp
end
open PySem.W
section
variable {X:Cx}{pins:gq}{σ:L2.St}{H:Hp}{s:fQ}
theorem rK(I:Inv X pins σ H s){O:AP'}{T:fW}(P:D->Prop)(hP: ∀x v u,P x->Rep X.K H O x v->RelV v u->Looks (model X.prog X.w) s.heap (typeOf u) T): ∀{ds:List D} {xs:List V} {b6:gJ},RepL X.K H O ds xs->Vals xs b6->
  (∀d∈ds,∃x l,d= .tup (x::l)/\P x)-> ∃fs,KatTups s.heap b6 fs/\fs.length=b6.length/\ ∀f∈fs,Looks (model X.prog X.w) s.heap (typeOf f) T
 |[],xs,b6,r,v,_=>by
  rw[RepL] at r;subst r;cases v;exact⟨[],KatTups.nil,rfl,fun f hf=>absurd hf jF⟩
 |d::ds,xs,b6,r,v,h=>by
  rw[RepL] at r;obtain⟨vx,xr,rfl,g1,g2⟩:=r
  cases v with
  |cons a1 a2=>
   obtain⟨fs,k1,k2,k3⟩:=rK I P hP g2 a2 fun d hd=>h d (iO _ hd);obtain⟨x,l,rfl,px⟩:=h d jm;obtain⟨p,us,rfl,q,r1⟩:=g1.tup;cases a1;obtain⟨dG,w1,⟨o,ho,hc,n,hd⟩,_⟩:=I.tuple q.sq;rw[RepL] at r1;obtain⟨vy,yr,rfl,g3,g4⟩:=r1
   cases w1 with
   |cons b1 b2=>
    rename_i f fr;refine⟨f::fs,KatTups.cons ho hc hd (by simp) k1,by simp[k2],fun g hg=>?_⟩;rcases jC.mp hg with rfl|hg
    ·exact hP x vy _ px g3 b1
    ·exact k3 g hg
theorem HA(I:Inv X pins σ H s){O:AP'}{ds:List D}{xs:List V}{b6:gJ}{A:gc}(rr:RepL X.K H O ds xs)(v:Vals xs b6){k:Nat}(B:SortsBy k ds)(h2:2<=b6.length):
  wpAny (model X.prog X.w) A (keyKind' b6.toArray) (fun κ' s'=>s'=s/\κ'=Aj k) (fun _ _=>False) s:=by
 have e1:=rr.length;have e2:=v.length
 match k,B with
 |0,B=>
  refine kas_kind (T:= .type "int") h2 (fun u hu=>?_) rfl rfl ⟨rfl,rfl⟩;obtain⟨i,hi,e⟩:=qv hu;have ri:=mT rr (i:=i) (by omega);have vi:=mQ v hi;have hd:=B.hd _ (rB (ds:=ds) (i:=i) (by omega));have:b6.getD i Value.none=u:=by simp[hi,e]
  rw[this] at vi
  cases hx:ds.getD i .non with
  |int a=>
   rw[hx] at ri;have:=ri.int;rw[this] at vi;obtain⟨t,rfl⟩:=vi;exact Looks.of_pure rfl
  |tup l=>
   rw[hx] at hd
   cases l with
   |nil=>simp[iU] at hd
   |cons z m=>cases z<;>simp[iU] at hd
  |_=>rw[hx] at hd;simp[iU] at hd
 |1,B=>
  obtain⟨fs,f1,f2,f3⟩:=rK I (T:= .type "int") (fun x=> ∃a,x= .int a) (fun x vv u px rx rv=>by
   obtain⟨a,rfl⟩:=px;have:=rx.int;subst this;obtain⟨t,rfl⟩:=rv
   exact Looks.of_pure rfl) rr v fun d hd=>by
    have:=B.hd d hd
    cases d with
    |tup l=>
     cases l with
     |nil=>simp[iU] at this
     |cons z m=>
      cases z with
      |int a=>exact⟨_,m,rfl,a,rfl⟩
      |_=>simp[iU] at this
    |_=>simp[iU] at this
  exact kat_kind f1 (by omega) f3 rfl ⟨rfl,rfl⟩
 |(n+2),B=>
  obtain⟨fs,f1,f2,f3⟩:=rK I (T:= .type "tuple") (fun x=> ∃a,x= .tup a) (fun x vv u px rx rv=>by
   obtain⟨a,rfl⟩:=px;obtain⟨p,us,rfl,q,r1⟩:=rx.tup;cases rv;obtain⟨dG,w1,⟨o,ho,hc,n,hd⟩,_⟩:=I.tuple q.sq;have:Looks (model X.prog X.w) s.heap (typeOf (.ref p)) o.cls:=(Looks.ld ho).andThen .now
   rw[hc] at this;exact this) rr v fun d hd=>by
    have:=B.hd d hd
    cases d with
    |tup l=>
     cases l with
     |nil=>simp[iU] at this
     |cons z m=>
      cases z with
      |tup a=>exact⟨_,m,rfl,a,rfl⟩
      |_=>simp[iU] at this
    |_=>simp[iU] at this
  exact kat_kind f1 (by omega) f3 rfl ⟨rfl,rfl⟩
def oA(l:List D):Option (D×Bool):=if yy l=true/\l.length<=sizeLine then some (.lst (lU ltT l),true) else none
def vf(d:D):Option (D×Bool):=(qT d).bind oA
theorem vT{xs:List V}{b6:gJ}(v:Vals xs b6): ∀(p:gx),(∀i∈p,i<b6.length)->Vals (p.map fun i=>xs.getD i .non) (p.map fun i=>b6.getD i Value.none)
 |[],_=> .nil
 |i::p,h=> .cons (mQ v (h i jm)) (vT v p fun j hj=>h j (iO _ hj))
theorem wo{O:AP'}{ds:List D}{xs:List V}(r:RepL X.K H O ds xs): ∀(p:gx),(∀i∈p,i<ds.length)->RepL X.K H O (p.map fun i=>ds.getD i .non) (p.map fun i=>xs.getD i .non)
 |[],_=>RepL.nil
 |i::p,h=>RepL.cons (mT r (h i jm)) (wo r p fun j hj=>h j (iO _ hj))
theorem yz{ds:List D}{n:Nat}(hl:n=ds.length)(h1:ds.length<=1){p:gx}(hp:p.Perm (List.range n)):p.map (fun i=>ds.getD i .non)=lU ltT ds:=by
 subst hl
 match ds,h1,hp with
 |[],_,hp=>
  have:p=[]:=by simpa using hp.length_eq
  subst this;rfl
 |[d],_,hp=>
  have hl:p.length=1:=by simpa using hp.length_eq
  match p,hl,hp with
  |[i],_,hp=>
   have:i=0:=by have:=hp.mem_iff.mp (ma.mpr rfl);simpa using this
   subst this;rfl
theorem sU(hu:X.A.units+62<cLine)(I:Inv X pins σ H s){O:AP'}{ds:List D}{xs:List V}{b6:gJ}{x:fW}{Q:VK}{z:D×Bool}(rr:RepL X.K H O ds xs)(v:Vals xs b6)(hg:oA ds=some z)(G:Gen X.K H O z Q)
  (hc: ∀(Q':List Value->Shared->Prop) (E':gw) (A':gc),A'.handled=X.A.handled->(∀(h':fZ) (tk:Nat),(∀b o,s.heap.get? b=some o->h'.get? b=some o)->Q' b6 {s with heap:=h',toks:=tk})->wpAny (model X.prog X.w) A' (collect x) Q' E' s):
  wpAny (model X.prog X.w) X.A (call (.builtin "sorted") [x]) (EP X pins σ Q) X.xe s:=by
 unfold oA at hg;obtain⟨⟨hok,hz⟩,rfl⟩:=gy hg;have e1:=rr.length;have e2:=v.length;refine Calls.call_function_entry kind_sorted plain_sorted entry_sorted (args_sorted1 _) ?_;unfold Builtin.«sorted»;refine fU (m:=checkCount "sorted" 1 1 _) (gv ?_);refine fU (hc _ _ _ rfl fun h1 tk k1=>?_);refine fU (wpAny_newList ?_ (by omega));have ho:(h1.push (seqObj "list" b6.toArray 0)).get? h1.objs.size=some (seqObj "list" b6.toArray 0):=iY _ rfl;have I1:Inv X pins σ H {s with heap:=h1,toks:=tk}:=I.kept k1
 have keep: ∀b o,h1.get? b=some o->(lV (h1.push (seqObj "list" b6.toArray 0)) h1.objs.size b6).get? b=some o:=fun b o e'=>by
  have hb:b≠h1.objs.size:=ig (gZ e');refine hW _ (hW _ ?_);rw[Bs _ _ _ _ hb];exact hW _ e'
 have I2:Inv X pins σ H {s with heap:=lV (h1.push (seqObj "list" b6.toArray 0)) h1.objs.size b6,toks:=tk}:=I1.kept keep;have bS: ∀i∈List.range b6.length,i<b6.length:=fun i hi=>by simpa using hi
 refine fU (nA (nX (s:={s with heap:=h1.push (seqObj "list" b6.toArray 0),toks:=tk}) slot_list_sort ⟨_,ho,rfl⟩ entry_list_sort ?body (args_list_sort _)))
 case body=>
  have fin: ∀p:List Nat,p.Perm (List.range b6.length)->p.map (fun i=>ds.getD i .non)=lU ltT ds->EP X pins σ Q (.ref h1.objs.size) {s with heap:=(lV (h1.push (seqObj "list" b6.toArray 0)) h1.objs.size b6).update h1.objs.size (Obj.mapSeq fun _=>(p.map fun i=>b6.getD i Value.none).toArray),toks:=tk}:=fun p hp hs=>by
   have pi: ∀i∈p,i<b6.length:=fun i hi=>by simpa using hp.mem_iff.mp hi
   have ob: ∃n,(lV (h1.push (seqObj "list" b6.toArray 0)) h1.objs.size b6).get? h1.objs.size=some (seqObj "list" #[] n):=by
    obtain⟨e1,aw⟩: ∃e1,((h1.push (seqObj "list" b6.toArray 0)).update h1.objs.size (Obj.mapSeq fun _=>(#[]:Array Value))).get? h1.objs.size=some (seqObj "list" #[] e1):=⟨_,xF ho fun _=> #[]⟩
    exact⟨e1,hW _ (hW _ aw)⟩
   obtain⟨n,ob⟩:=ob;obtain⟨c2,bT⟩: ∃c2,((lV (h1.push (seqObj "list" b6.toArray 0)) h1.objs.size b6).update h1.objs.size (Obj.mapSeq fun _=>(p.map fun i=>b6.getD i Value.none).toArray)).get? h1.objs.size=some (seqObj "list" (p.map fun i=>b6.getD i Value.none).toArray c2):=⟨_,xF ob fun _=>(p.map fun i=>b6.getD i Value.none).toArray⟩
   have keep2: ∀b o,h1.get? b=some o->((lV (h1.push (seqObj "list" b6.toArray 0)) h1.objs.size b6).update h1.objs.size (Obj.mapSeq fun _=>(p.map fun i=>b6.getD i Value.none).toArray)).get? b=some o:=fun b o e'=>by
    rw[Bs _ _ _ _ (ig (gZ e'))];exact keep b o e'
   have pl:p.length=b6.length:=by simpa using hp.length_eq
   refine⟨.ref h1.objs.size,_,I1.laid (t':=tk) keep2 (gO _) (show ObjOk X.prog X.w _ _ _ (.lst (p.map fun i=>xs.getD i .non)) from⟨by rw[nv];omega,_,c2,vT v p pi,bT⟩),rfl,?_⟩;refine G.lst I1.fresh ?_;rw[<-hs];exact wo rr p fun i hi=>by have:=pi i hi;omega
  rcases AQ hok with hlen|⟨k,B⟩
  ·refine nD (κ:=general') (lt:=fun _ _=>false) (s:={s with heap:=h1.push (seqObj "list" b6.toArray 0),toks:=tk}) ho (by omega) (Wk.mk (fun _=>rfl) (fun _ _ _ h=>absurd h jb) (fun _ _ _ h=>absurd h jb)) (fun h=>by omega) (fun h=>by omega) fun p hp _=>⟨_,rfl,gv ⟨_,rfl,fin p hp ?_⟩⟩
   exact yz (by omega) hlen hp
  ·refine nD (κ:=Aj k) (lt:=fun i j=>ltT (ds.getD i .non) (ds.getD j .non)) (s:={s with heap:=h1.push (seqObj "list" b6.toArray 0),toks:=tk}) ho (by omega) (Io _) (fun h=>HA I2 rr v B h) (fun _=>Jn (A:=X.A.in1.in1) I2 (by show X.A.units+1+1+60<cLine;omega) rr v B) fun p hp hs=>⟨_,rfl,gv ⟨_,rfl,fin p hp (AO (by rw[show ds.length=b6.length by omega];exact hp) hs)⟩⟩
theorem oI(hu:X.A.units+62<cLine):iP X (.builtin "sorted") (rDn X.K (g1 vf)):=oZ fun pins s σ H x u Q O d z I ru np hd hg G=>by
 obtain⟨l,hl,hg⟩:=fL hg
 have hz:l.length<=sizeLine:=by
  unfold oA at hg;exact(gy hg).1.2
 cases d with
 |lst m=>
  cases hl;obtain⟨p,xs,rfl,q,r⟩:=jc hd;cases ru;obtain⟨b6,v,pl,_⟩:=I.list q;have e1:=r.length;have e2:=v.length;obtain⟨o,ho,hc,n,hd⟩:=pl.isList;refine sU hu I r v hg G fun Q' E' A' _ hQ=>wpAny_collect_seq p (.inl rfl) ho hc hd (fun h' k=>by simpa using hQ h' s.toks k) (by rw[iA];omega)
 |tup m=>
  cases hl;obtain⟨p,xs,rfl,q,r⟩:=jT hd;cases ru;obtain⟨b6,v,⟨o,ho,hc,n,hd⟩,_⟩:=I.tuple q;have e1:=r.length;have e2:=v.length;refine sU hu I r v hg G fun Q' E' A' _ hQ=>wpAny_collect_seq p (.inr rfl) ho hc hd (fun h' k=>by simpa using hQ h' s.toks k) (by rw[iA];omega)
 |_=>cases hl
end
theorem jQ:bootBuiltins "isinstance"=some (.builtin "isinstance"):=by decide+kernel
structure Tx(mg:iF):Prop where
 n_len:mg "len"=none
 n_abs:mg "abs"=none
 n_int:mg "int"=none
 n_tuple:mg "tuple"=none
 n_list:mg "list"=none
 n_range:mg "range"=none
 n_isinstance:mg "isinstance"=none
 n_bool:mg "bool"=none
 n_max:mg "max"=none
 n_min:mg "min"=none
 n_all:mg "all"=none
 n_any:mg "any"=none
 n_sorted:mg "sorted"=none
 n_enumerate:mg "enumerate"=none
 n_zip:mg "zip"=none
 n_set:mg "set"=none
theorem Fv{P:gi}{w:gd}{K:fX}{mg:iF}{base:fZ}{f:fM}{fd:jq}{ps:gf}{k:Nat}:FnOk P w K mg base CX0 k f fd ps (spF K fun _=>none) where
 len:=fun vs H Q E h=>by
  obtain⟨T,args,r,outs,_,e,_⟩:=h;cases e
 run:=fun A outer s H args us vs Q E _ _ _ _ h=>by
  obtain⟨T,args,r,outs,_,e,_⟩:=h;cases e
theorem sY{K:fX}{H:Hp}{O:AP'}: ∀ns:List Int,RepL K H O (ns.map .int) (ns.map V.int)
 |[]=>RepL.nil
 |n::ns=>RepL.cons Rep.mkInt (sY ns)
def kE(op j8:CmpOp)(fa fb fc:FO):F:=fun δ=>(fa δ).bind fun p=>(fb p.2).bind fun q=>match res q.2 p.1,res q.2 q.1 with
 |some (.int i),some (.int j)=>if gS op i j=true then(fc q.2).bind fun r=>match res r.2 r.1 with
   |some (.int k)=>some ((.bl (gS j8 j k),false),r.2)
   |_=>none
  else some ((.bl false,false),q.2)
 |_,_=>none
section
variable {X:Cx}{a b c:fV}{fa fb fc:FO}{pos:Pos}{op j8:CmpOp}
theorem oy(h:jX op):OpR X (compareOp op) (rI0 fun i j=> .bl (gS op i j)):=by
 rcases h with rfl|rfl|rfl|rfl
 ·exact IU
 ·exact IV
 ·exact IW
 ·exact IY
theorem tE(hw:tF X.K (kE op j8 fa fb fc) σ H Q):yv (rI0 fun i j=> .bl (gS op i j)) (rI0 fun i j=> .bl (gS j8 i j)) (tO X.K fa) (tO X.K fb) (tO X.K fc) σ H Q:=by
 obtain⟨δ,T,rr,δ',E,e,k⟩:=hw;unfold kE at e;obtain⟨⟨o1,δ1⟩,h1,e⟩:=fL e;obtain⟨⟨o2,δ2⟩,h2,e⟩:=fL e;refine⟨δ,T,o1,δ1,E,h1,fun v H1 P1=>⟨δ1,nj T o1 v,o2,δ2,P1.er E,h2,fun u H2 P2=>?_⟩⟩;have B:=Ops.cons E P1 (Ops.cons (P1.er E) P2 (Ops.nil (P2.er (P1.er E))));dsimp only at e;split at e
 ·rename_i i j hx hy;have hv:=gg (B.view (j:=0) rfl rfl hx);have hu:=gg (B.view (j:=1) rfl rfl hy);refine⟨i,j,hv,hu,gS op i j,rfl,?_⟩;by_cases c:gS op i j=true
  ·rw[gh c] at e ⊢;obtain⟨⟨o3,δ3⟩,h3,e⟩:=fL e;dsimp only at e;split at e
   ·rename_i k' hz;obtain⟨rfl,rfl⟩:=fY e;refine⟨δ2,_,o3,δ3,P2.er (P1.er E),h3,fun w H3 P3=>?_⟩;have B3:=Ops.cons E P1 (Ops.cons (P1.er E) P2 (Ops.cons (P2.er (P1.er E)) P3 (Ops.nil (P3.er (P2.er (P1.er E))))));exact⟨j,k',hu,gg (B3.view (j:=2) rfl rfl hz),(B3.done k).bl⟩
   ·cases e
  ·rw[gk c] at e ⊢;obtain⟨rfl,rfl⟩:=fY e;exact(B.done k).bl
 ·cases e
theorem CJ(ho:jX op)(ah:jX j8)(ha:PO X a fa)(hb:PO X b fb)(hc:PO X c fc)(hm:lastMarks [op,j8] [b,c]=false:=by with_unfolding_all rfl):PX X (.Compare a [op,j8] [b,c] pos) (kE op j8 fa fb fc):=
 PX.imp (De (oy ho) (oy ah) ha hb hc hm) fun σ H Q hw=>tE hw
theorem AU(ho:jX op)(ah:jX j8)(ha:PO X a fa)(hb:PO X b fb)(hc:PO X c fc)(hm:lastMarks [op,j8] [b,c]=false:=by with_unfolding_all rfl):PTX X (.Compare a [op,j8] [b,c] pos) (fT (kE op j8 fa fb fc)):=
 PT.imp' (CM (oy ho) (oy ah) ha hb hc hm) fun σ H Q hw=>tE (Cq hw)
end
def vIs(x:V)(c:Bool):Bool:=match x with
 | .bl b=>b==c
 |_=>false
def gIs:D->D->Option (D×Bool)
 | .bl b,.bl c=>some (.bl (b==c),false)
 |_,.bl _=>some (.bl false,false)
 | .non,.non=>some (.bl true,false)
 |_,.non=>some (.bl false,false)
 |_,_=>none
section
variable {X:Cx}
theorem Ee(rx:RelV x v)(c:Bool):plainIs v (.bool c)=true/\(v== .bool c)=vIs x c:=by
 cases x<;>first
  |(cases rx;exact⟨rfl,rfl⟩)
  |(obtain⟨t,rfl⟩:=rx;exact⟨rfl,rfl⟩)
  |(rename_i b;cases rx;refine⟨rfl,?_⟩;cases b<;>cases c<;>rfl)
theorem Dm:OpR X (compareOp .Is) (fun x y H Q=> ∃c,y= .bl c/\Q (.bl (vIs x c)) H):=by
 intro pins s σ H x y v u Q I rx ry h;obtain⟨c,rfl,q⟩:=h;cases ry;obtain⟨h1,h2⟩:=Ee rx c;exact wpAny_is_plain h1 (DI I q (by rw[h2]))
theorem qP{K H}(h:ik K H O (.bl b) v):v= .bl b:=h.elim (fun h=>h.bl) fun⟨_,_,h⟩=>h.elim
theorem oQ{K H}(h:ik K H O .non v):v= .non:=h.elim (fun h=>h.non) fun⟨_,_,h⟩=>h.elim
theorem Cj{K H}(h:ik K H O d v)(nb: ∀b,d≠ .bl b)(c:Bool):vIs v c=false:=by
 cases d with
 |bl b=>exact absurd rfl (nb b)
 |non=>rw[oQ h];rfl
 |int i=>rw[gg h];rfl
 |str x=>
   rcases h with h|⟨a,_,h⟩
   ·rw[h.str];rfl
   ·exact h.elim
 |tup l=>
   rcases h with h|⟨a,_,h⟩
   ·rw[Rep] at h;obtain⟨a,xs,rfl,_⟩:=h;rfl
   ·exact h.elim
 |lst l=>
   rcases h with h|⟨a,rfl,h⟩
   ·rw[Rep] at h;obtain⟨a,xs,rfl,_⟩:=h;rfl
   ·rfl
 |oth _ _ _=>
   rcases h with h|⟨a,rfl,h⟩
   ·rw[Rep] at h;obtain⟨a,xs,rfl,_⟩:=h;rfl
   ·rfl
theorem vS{K H}(h:ik K H O d v)(nb:d≠ .non):v≠ .non:=by
 cases d with
 |bl b=>rw[qP h];intro z;cases z
 |non=>exact absurd rfl nb
 |int i=>rw[gg h];intro z;cases z
 |str x=>
   rcases h with h|⟨a,_,h⟩
   ·rw[h.str];intro z;cases z
   ·exact h.elim
 |tup l=>
   rcases h with h|⟨a,_,h⟩
   ·rw[Rep] at h;obtain⟨a,xs,rfl,_⟩:=h;intro z;cases z
   ·exact h.elim
 |lst l=>
   rcases h with h|⟨a,rfl,h⟩
   ·rw[Rep] at h;obtain⟨a,xs,rfl,_⟩:=h;intro z;cases z
   ·intro z;cases z
 |oth _ _ _=>
   rcases h with h|⟨a,rfl,h⟩
   ·rw[Rep] at h;obtain⟨a,xs,rfl,_⟩:=h;intro z;cases z
   ·intro z;cases z
theorem Dk:OpR X (compareOp .Is) (rD X.K gIs):=by
 intro pins s σ H x y v u Q I rx ry h;obtain⟨O,d,e,z,np,h1,h2,hg,G⟩:=h
 cases e with
 |bl c=>
  have hy:=qP h2;by_cases hb: ∃b,d= .bl b
  ·obtain⟨b,rfl⟩:=hb;cases hg;refine Dm pins s σ H x y v u Q I rx ry ⟨c,hy,?_⟩;rw[qP h1];exact G.bl
  ·have nb: ∀b,d≠ .bl b:=fun b z=>hb ⟨b,z⟩;have hz:z=(.bl false,false):=by cases d<;>first|exact absurd rfl (nb _)|(cases hg;rfl)
   subst hz;refine Dm pins s σ H x y v u Q I rx ry ⟨c,hy,?_⟩;rw[Cj h1 nb c];exact G.bl
 |non=>
  have hy:=oQ h2;by_cases hb:d= .non
  ·subst hb;cases hg;refine Dl pins s σ H x y v u Q I rx ry ⟨hy,?_⟩;rw[oQ h1];exact G.bl
  ·have hz:z=(.bl false,false):=by cases d<;>first|exact absurd rfl hb|(cases hg;rfl)
   subst hz;refine Dl pins s σ H x y v u Q I rx ry ⟨hy,?_⟩;rw[sJ (vS h1 hb)];exact G.bl
 |_=>cases d<;>cases hg
end
end PX
namespace HT
open PySem PySem.Spec PyProof.Rows L2
section
variable {prog:gi}{w:gd}{A:gc}{E:gw}{s:fQ}
theorem yZ{t sl:fM}{items:jR}{vl vu:fW}{lo hi:Option Int}{Q:gw}(ht:IsTup s.heap t items)(hs:s.heap.IsSliceOf sl vl vu .none)(pl:IsPart vl lo)(pu:IsPart vu hi)
  (hw:sIx items.size 0 lo=0/\sIx items.size items.size hi=items.size)(h:Q (.ref t) s):wpAny (model prog w) A (getItem (.ref t) (.ref sl)) Q E s:=by
 obtain⟨os,cw,dU,dv⟩:=id hs;have fw:s.TypeIs (.ref sl) "slice":=⟨os,cw,dU⟩
 unfold getItem
 try with_reducible refine nA ?_
 first|refine fU (gv ?_)|skip
 refine fU (wpAny_sequenceKey ht.typeIs (by decide) ?_)
 refine fU (pv (name:=Str.ofString "__getitem__") ht.typeIs xy
  (nX xy ht.typeIs BP ?_ (args_tuple_getitem _ _)))
 show wpAny _ _ (Builtin.Tuple.tupleItemsOf (.ref t)>>=_) _ _ s;refine fU (tupleItemsOf_ ht ?_);refine fU (uq fw ?_);rw[gh (by decide)];refine fU (lq hs pl pu ?_);rw[hw.1,hw.2];show wpAny _ _ (if((((0:Nat):Int)==0&&(1:Int)==1&&(items.size-0)==items.size)=true) then _ else _) _ _ s;rw[gh (by simp)];refine fU (m:=Builtin.Tuple.tupleIsExact _) ?_;unfold Builtin.Tuple.tupleIsExact;refine fU (uq ht.typeIs ?_);refine gv ?_;rw[gh (by decide)];refine fU (pD ?_)
 first
  |exact fU (gv ⟨_,rfl,gv h⟩)
  |exact gv ⟨_,rfl,gv h⟩
  |exact fU (gv (gv ⟨_,rfl,gv h⟩))
  |(refine fU ?_;trace_state;done)
end
end HT
namespace PX
open PySem PySem.Spec PyProof.Rows L2 PySem.SeqAt
def zf(l:List D)(lo hi:Option Int):List D:=(l.drop (HT.sIx l.length 0 lo)).take (HT.sIx l.length l.length hi-HT.sIx l.length 0 lo)
def gSl(lo hi:Option Int):D->Option (D×Bool)
 | .tup l=>some (.tup (zf l lo hi),false)
 | .lst l=>some (.lst (zf l lo hi),true)
 |_=>none
def KH(K:fX):V->Option Int->Option Int->Hp->VK->Prop:=fun x lo hi H Q=> ∃(O:AP') (d:D) (z:D×Bool),(∀p,¬Ow (H p)-> ¬O p)/\ik K H O d x/\gSl lo hi d=some z/\Gen K H O z Q
theorem RepL.cut{K H}(r:RepL K H O l xs)(lo hi:Option Int):RepL K H O (zf l lo hi) (xa xs lo hi):=by
 unfold zf xa;rw[r.length];exact(r.drop _).take _
section
variable {X:Cx}
theorem vZ{pins:gq}{s:fQ}{σ:L2.St}{H:Hp}{a:fM}{v vl vu:fW}{lo hi:Option Int}{sl:fM}{Q:VK}{O:AP'}{l:List D}{xs:List V}(I:Inv X pins σ H s)(rx:RelV (.ref a) v)(hs:s.heap.IsSliceOf sl vl vu .none)(pl:IsPart vl lo)(pu:IsPart vu hi)
  (q:SqL X.K H a xs)(r:RepL X.K H O l xs)(G:Gen X.K H O (.lst (zf l lo hi),true) Q): ∃T id,typeLookup (.type T) "__getitem__"=pure (some (.builtin id))/\s.TypeIs v T/\wpAny (model X.prog X.w) X.A (getItem v (.ref sl)) (EP X pins σ Q) X.xe s:=
 Ei pins s σ H (.ref a) v vl vu lo hi sl Q I rx hs pl pu ⟨a,xs,rfl,q,fun p hp=>G.lst hp (r.cut lo hi)⟩
theorem JW:SlR X (KH X.K):=by
 intro pins s σ H x v vl vu lo hi sl Q I rx hs pl pu h;obtain⟨O,d,z,np,hd,hg,G⟩:=h
 cases d with
 |tup l=>
  cases hg;rcases hd with hd|⟨a,_,h⟩
  ·obtain⟨a,xs,rfl,q,r⟩:=hd.tup;by_cases hw:HT.sIx xs.length 0 lo=0/\HT.sIx xs.length xs.length hi=xs.length
   ·cases rx;obtain⟨b6,rv,ht,hz⟩:=I.tuple q.sq;have hlen:b6.toArray.size=xs.length:=by rw[iA];exact rv.length.symm
    refine⟨"tuple",_,xy.lookup,ht.typeIs,?_⟩;refine HT.yZ ht hs pl pu (by rw[hlen];exact hw) ⟨.ref a,H,I,rfl,?_⟩
    have e:zf l lo hi=l:=by
     unfold zf;rw[<-r.length,hw.1,hw.2];simp[r.length]
    rw[e] at G;exact G (.ref a) H (fun _ _ e=>e) hd
   ·exact Gx pins s σ H (.ref a) v vl vu lo hi sl Q I rx hs pl pu ⟨a,xs,rfl,q.sq,hw,fun p hp=>G.tup hp (np p (nOw hp)) (r.cut lo hi)⟩
  ·exact h.elim
 |lst l=>
  cases hg;rcases hd with hd|⟨a,rfl,h⟩
  ·obtain⟨a,xs,rfl,q,r⟩:=hd.lst;exact vZ I rx hs pl pu q.sq r G
  ·obtain⟨xs,e,r⟩:=h;exact vZ I rx hs pl pu (.inl (.inl e)) r G
 |_=>cases hg
end
def Ao(fa fl:FO):F:=fun δ=>(fa δ).bind fun p=>(fl p.2).bind fun q=>match res q.2 q.1 with
 |some (.int i)=>(res q.2 p.1).bind fun x=>(gSl (some i) none x).bind fun z=>some (z,q.2)
 |_=>none
section
variable {X:Cx}{a lo hi:fV}{fa fl fh:FO}{pos p2:Pos}
theorem Ew(ha:PO X a fa)(hl:PO X lo fl):PX X (.Subscript a (.Slice (some lo) none none p2) pos) (Ao fa fl):=
 PX.imp (Dc JW ha (EM hl) EN) fun σ H Q hw=>by
  obtain⟨δ,T,rr,δ',E,e,k⟩:=hw;unfold Ao at e;obtain⟨⟨o1,δ1⟩,h1,e⟩:=fL e;obtain⟨⟨o2,δ2⟩,h2,e⟩:=fL e;dsimp only at e;split at e
  ·rename_i i hi;obtain⟨x,hx,e⟩:=fL e;obtain⟨z,hz,e⟩:=fL e;obtain⟨rfl,rfl⟩:=fY e;refine⟨δ,T,o1,δ1,E,h1,fun v H1 P1=>⟨δ1,nj T o1 v,o2,δ2,P1.er E,h2,fun u H2 P2=>?_⟩⟩;have B:=Ops.cons E P1 (Ops.cons (P1.er E) P2 (Ops.nil (P2.er (P1.er E))));exact⟨i,gg (B.view (j:=1) rfl rfl hi),_,x,z,fun p hp=>B.np hp,B.view (j:=0) rfl rfl hx,hz,B.done k⟩
  ·cases e
end
end PX
namespace L2
open PySem PySem.Spec PyProof.Rows
section
variable {X:Cx}
end
end L2
namespace PX
open PySem PySem.Spec PyProof.Rows L2 PySem.SeqAt
section
variable {K:fX}{A:gG}{d:fM}{T:AP'}{σ σ1:L2.St}{δ δ1:Dn}{acc:List D}{H H1:Hp}
end
section
variable {X:Cx}{A:gG}{d:fM}{elt:fV}{f:F}
end
section
variable {X:Cx}{elt:fV}{c:kY}{gE:md}{scope:gF}{pos pos' p:Pos}{N':gf}{caps:gx}{k:Nat}{fi:FIt}{tg:Tg}{ti:FT}{fb:FB}
end
end PX
namespace HT
open PySem PySem.Spec PyProof.Rows L2
section
variable {prog:gi}{w:gd}{A:gc}{E:gw}{s:fQ}
end
end HT
namespace L2
open PySem PySem.Spec PyProof.Rows
section
variable {X:Cx}{e st:fV}{te ts:TE}{pos p2:Pos}
end
end L2
namespace PX
open PySem PySem.Spec PyProof.Rows L2 PySem.SeqAt
section
variable {X:Cx}{a st:fV}{fa fs:FO}{pos p2:Pos}
end
section
variable {es:gX}{env:Env}
end
end PX
namespace TT
open PySem
def S:Nat->Nat
 |0=>0
 |n+1=>5*S n+1
open PyProof.Rows PySem.SeqAt
section
variable {prog:gi}{w:gd}{A:gc}{E:gw}{s:fQ}
end
section
variable {prog:gi}{w:gd}{A:gc}{R:Result->Shared->Prop}{I:fM}{fp wr:ic}{G:Array GenState->Array GenState->Prop}{n:Nat}{P:Nat->Value->Prop}{St:Nat->Shared->Prop}
end
section
variable {prog:gi}{w:gd}{A:gc}{E:gw}{s:fQ}
end
end TT
namespace PX
open PySem PySem.Spec PyProof.Rows L2 PySem.SeqAt TS
section
variable {X:Cx}{pins:gq}{σ:L2.St}{H:Hp}{s:fQ}
end
abbrev hv(p:D×V):Int×V:=(D.hash p.1,p.2)
section
variable {X:Cx}{pins:gq}{σ:L2.St}{H:Hp}{s:fQ}
end
section
variable {X:Cx}
end
section
variable {K:fX}{H:Hp}{O:AP'}
end
section
variable {P:gi}{w:gd}{H H':Hp}{h:fZ}{a:fM}
end
section
variable {X:Cx}{pins:gq}{σ:L2.St}{H:Hp}{s:fQ}
end
section
variable {X:Cx}
end
section
variable {K:fX}{T:AP'}{σ:L2.St}{δ:Dn}{H:Hp}{i:Nat}{d0 d':D}{a:fM}{o:HO}
end
section
variable {X:Cx}{pins:gq}{σ:L2.St}{H:Hp}{s:fQ}{a:fM}
end
section
variable {K:fX}{H:Hp}{O:AP'}
end
section
variable {X:Cx}{e ix:fV}{f:F}{fo:FO}{pos e9 apos g0:Pos}{i:Nat}{x:Str}{A L:gG}{H0:Hp}
end
section
variable {X:Cx}
theorem Ez(hg:Gl X x)(hm:X.mg x=some (.int i t))(hd:(x==("__debug__":Str))=false):PX X (.Name x pos) (fC (.int i)):=PX.imp (zZ (v:= .int i) hg hm ⟨t,rfl⟩ hd) fun σ H Q h=>by
 obtain⟨δ,T,r,δ',E,e,k⟩:=h;cases e;exact k _ _ (Post.val .refl E Rep.mkInt)
def yB:FS:=fun _=>none
theorem AV{A L:gG}{H0:Hp}{st:Stmt}:PSX X A L H0 st yB:=fun pins s σ H D I h=>by
 obtain⟨δ,T,out,E,fi,e,k⟩:=h;cases e
end
section
variable {X:Cx}{e:fV}{f:F}{pos e9 apos g0:Pos}{i:Nat}{x:Str}
end
structure PXs(X:Cx)(es:gX)(fs:List F):Prop where
 pa:PA X es (tA X.K (fs.map fS))
section
variable {X:Cx}{e:fV}{es:gX}{f:F}{fs:List F}{pos:Pos}
theorem Er:PXs X [] []:=⟨qd⟩
theorem CG(h:PX X e f)(hr:PXs X es fs)(hs:starEach (e::es) X.env=(false,eval e X.env)::starEach es X.env):PXs X (e::es) (f::fs):=⟨mB (PX.po h) hr.pa hs⟩
theorem Ex(h:PXs X es fs):PX X (.List es pos) (lZ fs):=GO h.pa
theorem Eu{x1}(h:PXs X es fs):PX X (.Tuple es x1 pos) (kD fs):=GD h.pa
theorem CZ{fe:FT}(h:PTX X e fe):PIf X [e] (tT X.K fe):=ES h
theorem GW{fe:FT}(h:PWX X e fe):PTX X e fe:=PW.pt h
end
structure QX(X:Cx)(e:fV)(f:F):Prop where
 h:PX X e f
structure QO(X:Cx)(e:fV)(f:FO):Prop where
 h:PX.PO X e f
structure QA(X:Cx)(es:gX)(fs:List FO):Prop where
 h:PA X es (tA X.K fs)
structure QL(X:Cx)(es:gX)(fs:List F):Prop where
 h:PXs X es fs
structure QT(X:Cx)(e:fV)(f:FT):Prop where
 h:PTX X e f
structure QW(X:Cx)(e:fV)(f:FT):Prop where
 h:PWX X e f
structure QG(X:Cx)(A:gG)(e:fV)(t:Tg):Prop where
 h:PGX X A e t
structure QI(X:Cx)(B:SB)(tg e:fV)(f:FIt):Prop where
 h:PIX X B tg e f
structure QF(X:Cx)(es:gX)(f:FT):Prop where
 h:PIf X es (tT X.K f)
structure QB(X:Cx)(A:gG)(d:fM)(e:fV)(n:Nat)(f:FB):Prop where
 h:PB X (gM e n (.ref d) X.env) (tBx X.K A d f)
structure QS(X:Cx)(A L:gG)(H0:Hp)(st:Stmt)(f:FS):Prop where
 h:PSX X A L H0 st f
structure QQ(X:Cx)(A L:gG)(H0:Hp)(st:List Stmt)(f:FS):Prop where
 h:vH X A L H0 st f
structure QC(X:Cx)(v:fW)(g:List D->Option (D×Bool)):Prop where
 h:iP X v (rDn X.K g)
structure QP(X:Cx)(o:pe)(g:D->D->Option (D×Bool)):Prop where
 h:OpR X o (rD X.K g)
abbrev SE(X:Cx)(e:fV)(es:gX):Prop:=starEach (e::es) X.env=(false,eval e X.env)::starEach es X.env
abbrev BA(X:Cx)(p:Pos)(es:gX):Prop:=(backTo p (starEach es X.env)).any (·.1)=false
abbrev DB(x:Str):Prop:=(x==("__debug__":Str))=false
abbrev un(A:gc)(n:Nat):Prop:=A.units+n<cLine
structure ZZ where
 P:Program
 w:World
 K:PySem.W.Frag
 mg:Str->Option Value
 base:Heap
def Oz(Z:ZZ)(k:Nat)(x:Str)(ps:gf)(ev:EvF):Prop:= ∃f fd,FnOk Z.P Z.w Z.K Z.mg Z.base CX0 k f fd ps (spF Z.K ev)/\Z.mg x=some (.ref f)/\PySem.W.keepIn Z.K (.ref f)=true/\Binds Z.K fd ps []
theorem Oz.up{Z:ZZ}{k j:Nat}{x:Str}{ps:gf}{ev:EvF}(o:Oz Z k x ps ev)(h:k<=j:=by decide):Oz Z j x ps ev:=let⟨f,fd,a,b⟩:=o;⟨f,fd,a.mono h,b⟩
abbrev zX(X:Cx):ZZ:=⟨X.prog,X.w,X.K,X.mg,X.base⟩
def btT:List (Str×Value):=[("len",.builtin "len"),("abs",.builtin "abs"),("int",.type "int"),("tuple",.type "tuple"),("list",.type "list"),("bool",.type "bool"),("max",.builtin "max"),("min",.builtin "min"),("all",.builtin "all"),("any",.builtin "any"),("sorted",.builtin "sorted"),("set",.type "set")]
theorem btA{mg:iF}(T:Tx mg): ∀p∈btT,mg p.1=none/\bootBuiltins p.1=some p.2:=by
 have h: ∀p∈btT,bootBuiltins p.1=some p.2:=by decide+kernel
 intro p hp;refine⟨?_,h p hp⟩;have dg:p∈btT:=hp;unfold btT at dg;simp only[jC,jF,lR] at dg;rcases dg with rfl|rfl|rfl|rfl|rfl|rfl|rfl|rfl|rfl|rfl|rfl|rfl
 ·exact T.n_len
 ·exact T.n_abs
 ·exact T.n_int
 ·exact T.n_tuple
 ·exact T.n_list
 ·exact T.n_bool
 ·exact T.n_max
 ·exact T.n_min
 ·exact T.n_all
 ·exact T.n_any
 ·exact T.n_sorted
 ·exact T.n_set
theorem yT{z:Str}{v:fW}: ∀{l:List (Str×Value)},l.lookup z=some v->(z,v)∈l
 |[],h=>by cases h
 |(y,u)::l,h=>by
  rw[kg] at h;split at h
  ·rename_i q;cases h;rw[nW q];exact .head _
  ·exact .tail _ (yT h)
theorem btM{mg:iF}{z:Str}{v:fW}(T:Tx mg)(h:btT.lookup z=some v):mg z=none:=(btA T _ (yT h)).1
theorem btN{z:Str}{v:fW}(h:btT.lookup z=some v):bootBuiltins z=some v:=(show ∀p∈btT,bootBuiltins p.1=some p.2 from by decide+kernel) _ (yT h)
section
variable {X:Cx}{x z:Str}{e a b c st lo hi:fV}{es:gX}{fa fb fc fo fl fh:FO}{f g:F}{ft fu:FT}{p p2 p3 pos e9 apos:Pos}{A L:gG}{B:SB}{H0:Hp}{fs:List FO}{bV:List F}{i j k:Nat}{tg:fV}{S:Stmt}{Ss Ts:List Stmt}{u v:FS}
theorem xV(h1:X.N[i]?=some x:=by rfl)(h2:Vis X.env.scope x:=by first|exact Or.inl rfl|exact Or.inr (Or.inl rfl)|exact Or.inr (Or.inr rfl))(h3:DB x:=by decide)(h4:(x==("__classdict__":Str))=false:=by decide):QO X (.Name x pos) (fR i):=⟨G9 h1 h2 h3 h4⟩
theorem xW(h1:X.N[i]?=some x:=by rfl)(h2:Vis X.env.scope x:=by first|exact Or.inl rfl|exact Or.inr (Or.inl rfl)|exact Or.inr (Or.inr rfl))(h3:DB x:=by decide)(h4:(x==("__classdict__":Str))=false:=by decide):QX X (.Name x pos) (hJ i):=⟨GC h1 h2 h3 h4⟩
theorem xO(h:QX X e f):QO X e (fS f):=⟨PX.po h.h⟩
theorem x1{j}:QX X (.Constant .none j pos) (fC .non):=⟨GL⟩
theorem x2{i j}:QX X (.Constant (.bool i) j pos) (fC (.bl i)):=⟨F3⟩
theorem x3{i j}:QX X (.Constant (.int i) j pos) (fC (.int i)):=⟨GQ⟩
theorem x4{i j}:QX X (.Constant (.str i) j pos) (fC (.str i)):=⟨GF⟩
theorem x5{i:Int}(h: ∃t,X.mg x=some (.int i t))(g:Gl X x:=by rfl)(h3:DB x:=by decide):QX X (.Name x pos) (fC (.int i)):=let⟨_,h⟩:=h;⟨Ez g h h3⟩
theorem iq{op:Operator}{g:D->D->Option (D×Bool)}(o:QP X (binaryOp op) g)(ha:QO X a fa)(hb:QO X b fb):QX X (.BinOp a op b pos) (gj g fa fb):=⟨GU o.h ha.h hb.h⟩
theorem Gn(ha:QO X a fa):QX X (.UnaryOp .USub a pos) (iV wI fa):=⟨GN ha.h⟩
theorem Il(ha:QX X a f):QX X (.UnaryOp .Not a pos) (DL f):=⟨GK ha.h⟩
theorem D9{op:CmpOp}{g:D->D->Option (D×Bool)}(o:QP X (compareOp op) g)(ha:QO X a fa)(hb:QO X b fb)(hm:behindInMarks op b=false:=by first|exact Dq _|with_unfolding_all rfl):QX X (.Compare a [op] [b] pos) (gj g fa fb):=⟨GS o.h ha.h hb.h hm⟩
theorem tCmp{op:CmpOp}{g:D->D->Option (D×Bool)}(o:QP X (compareOp op) g)(ha:QO X a fa)(hb:QO X b fb)(hm:behindInMarks op b=false:=by first|exact Dq _|with_unfolding_all rfl):QT X (.Compare a [op] [b] pos) (fT (gj g fa fb)):=⟨EG o.h ha.h hb.h hm⟩
theorem xCh{op j8:CmpOp}(ha:QO X a fa)(hb:QO X b fb)(hc:QO X c fc)(o1:jX op:=by first|exact .inl rfl|exact .inr (.inl rfl)|exact .inr (.inr (.inl rfl))|exact .inr (.inr (.inr rfl)))(o2:jX j8:=by first|exact .inl rfl|exact .inr (.inl rfl)|exact .inr (.inr (.inl rfl))|exact .inr (.inr (.inr rfl)))(hm:lastMarks [op,j8] [b,c]=false:=by with_unfolding_all rfl):QX X (.Compare a [op,j8] [b,c] pos) (kE op j8 fa fb fc):=⟨CJ o1 o2 ha.h hb.h hc.h hm⟩
theorem tCh{op j8:CmpOp}(ha:QO X a fa)(hb:QO X b fb)(hc:QO X c fc)(o1:jX op:=by first|exact .inl rfl|exact .inr (.inl rfl)|exact .inr (.inr (.inl rfl))|exact .inr (.inr (.inr rfl)))(o2:jX j8:=by first|exact .inl rfl|exact .inr (.inl rfl)|exact .inr (.inr (.inl rfl))|exact .inr (.inr (.inr rfl)))(hm:lastMarks [op,j8] [b,c]=false:=by with_unfolding_all rfl):QT X (.Compare a [op,j8] [b,c] pos) (fT (kE op j8 fa fb fc)):=⟨AU o1 o2 ha.h hb.h hc.h hm⟩
theorem xBo{op}(ha:QX X a f):QX X (.BoolOp op [a] pos) f:=⟨EC ha.h⟩
theorem Cd(ha:QX X a f)(hb:QX X (.BoolOp .And (b::es) pos) g):QX X (.BoolOp .And (a::b::es) pos) (wU f g):=⟨GV ha.h hb.h⟩
theorem wOr(ha:QT X a ft)(hb:QW X (.BoolOp .Or (b::es) pos) fu):QW X (.BoolOp .Or (a::b::es) pos) (oF ft fu):=⟨GX ha.h hb.h⟩
theorem Ed(ha:QT X a ft):QW X (.BoolOp .Or [a] pos) ft:=⟨ED ha.h⟩
theorem tW{op}(h:QW X (.BoolOp op es pos) ft):QT X (.BoolOp op es pos) ft:=⟨GW h.h⟩
theorem tNot(ha:QT X a ft):QT X (.UnaryOp .Not a pos) (iZ ft):=⟨EF ha.h⟩
theorem rX(h:QX X e f)(he: ∀whole,isTrue e X.env whole=(do let v <-whole;standAt e.pos;holding [v] (truthy v)):=by intro _;rfl):QT X e (fT f):=⟨EE h.h he⟩
theorem xIx(ha:QO X a fa)(hb:QO X b fb)(hs:vF b:=by exact fun _ _=>rfl):QX X (.Subscript a b pos) (gj gIx fa fb):=⟨IJ ha.h hb.h hs⟩
theorem JK(ha:QO X a fa)(hl:QO X lo fl):QX X (.Subscript a (.Slice (some lo) none none p2) pos) (Ao fa fl):=⟨Ew ha.h hl.h⟩
theorem xL0:QL X [] []:=⟨Er⟩
theorem xL(ha:QX X e f)(hr:QL X es bV)(hs:SE X e es:=by rfl):QL X (e::es) (f::bV):=⟨CG ha.h hr.h hs⟩
theorem xA0:QA X [] []:=⟨qd⟩
theorem xA(ha:QO X e fa)(hr:QA X es fs)(hs:SE X e es:=by rfl):QA X (e::es) (fa::fs):=⟨mB ha.h hr.h hs⟩
theorem qI{k}(h:QL X es bV):QX X (.Tuple es k pos) (kD bV):=⟨Eu h.h⟩
theorem qJ(h:QL X es bV):QX X (.List es pos) (lZ bV):=⟨Ex h.h⟩
theorem xB{id:String}{g:List D->Option (D×Bool)}(T:Tx X.mg)(hv:btT.lookup z=some (.builtin id))(hc:QC X (.builtin id) g)(ha:QA X (e::es) fs)(hg:Gl X z:=by rfl)(hn:z≠"__name__":=by decide)(j4:DB z:=by decide)(he:SE X e es:=by rfl)(i3:BA X pos es:=by rfl):QX X (.Call (.Name z p) (e::es) [] pos) (hV g fs):=⟨zU hc.h hg (btM T hv) (btN hv) ha.h hn j4 he i3⟩
theorem xT{id:String}{g:List D->Option (D×Bool)}(T:Tx X.mg)(hv:btT.lookup z=some (.type id))(hc:QC X (.type id) g)(ha:QA X (e::es) fs)(hg:Gl X z:=by rfl)(hn:z≠"__name__":=by decide)(j4:DB z:=by decide)(he:SE X e es:=by rfl)(i3:BA X pos es:=by rfl):QX X (.Call (.Name z p) (e::es) [] pos) (hV g fs):=⟨Et hc.h hg (btM T hv) (btN hv) ha.h hn j4 he i3⟩
theorem xI{t:Ty}(T:Tx X.mg)(hz:btT.lookup z=some (.type t.n))(ha:QO X e fa)(hg:Gl X "isinstance":=by rfl)(aU:Gl X z:=by rfl)(hn:z≠"__name__":=by decide)(j4:DB z:=by decide)
  (s1:SE X e [.Name z p2]:=by rfl)(s2:SE X (.Name z p2) []:=by rfl)(i3:BA X pos [.Name z p2]:=by rfl):
  QX X (.Call (.Name "isinstance" p) [e,.Name z p2] [] pos) (iV (ni [t]) fa):=⟨GP ha.h hg T.n_isinstance aU (btM T hz) (btN hz) hn j4 jQ s1 s2 i3⟩
theorem xI2{t t':Ty}{z':Str}{p4:Pos}{kk}(T:Tx X.mg)(hz:btT.lookup z=some (.type t.n))(dI:btT.lookup z'=some (.type t'.n))(ha:QO X e fa)(hg:Gl X "isinstance":=by rfl)(aU:Gl X z:=by rfl)(hn:z≠"__name__":=by decide)(j4:DB z:=by decide)(cD:Gl X z':=by rfl)(cA:z'≠"__name__":=by decide)(cH:DB z':=by decide)
  (s1:SE X e [.Tuple [.Name z p2,.Name z' p3] kk p4]:=by rfl)(s2:SE X (.Tuple [.Name z p2,.Name z' p3] kk p4) []:=by rfl)
  (s3:SE X (.Name z p2) [.Name z' p3]:=by rfl)(s4:SE X (.Name z' p3) []:=by rfl)
  (i3:BA X pos [.Tuple [.Name z p2,.Name z' p3] kk p4]:=by rfl):
  QX X (.Call (.Name "isinstance" p) [e,.Tuple [.Name z p2,.Name z' p3] kk p4] [] pos) (iV (ni [t,t']) fa):=⟨Ey ha.h hg T.n_isinstance aU (btM T hz) (btN hz) hn j4 cD (btM T dI) (btN dI) cA cH jQ s1 s2 s3 s4 i3⟩
theorem xU{k:Nat}{ps:gf}{ev:EvF}(O:Oz (zX X) k x ps ev)(hr:Room k X.A)(ha:QA X (e::es) fs)(hg:Gl X x:=by rfl)(j4:DB x:=by decide)
  (he:SE X e es:=by rfl)(i3:BA X pos es:=by rfl):QX X (.Call (.Name x p) (e::es) [] pos) (gp ev fs):=
 let⟨_,_,ok,hm,kp,bi⟩:=O;⟨Es ok hr hg hm kp bi ha.h j4 he i3⟩
theorem JL{T:String}{mk:List D->D}{o:Bool}(X0:Tx X.mg)(hv:btT.lookup z=some (.type T))(ha:QA X [a,b] [fa,fb])(hT:(T="list"/\mk= .lst/\o=true)\/(T="tuple"/\mk= .tup/\o=false):=by first|exact .inl ⟨rfl,rfl,rfl⟩|exact .inr ⟨rfl,rfl,rfl⟩)(hc:X.calm=true:=by rfl)(hg:Gl X z:=by rfl)(hn:z≠"__name__":=by decide)(j4:DB z:=by decide)(dQ:Gl X "range":=by rfl)
  (s1:SE X (.Call (.Name "range" p2) [a,b] [] p3) []:=by rfl)(s2:SE X a [b]:=by rfl)
  (i3:BA X pos []:=by rfl)(bG:BA X p3 [b]:=by rfl):
  QX X (.Call (.Name z p) [.Call (.Name "range" p2) [a,b] [] p3] [] pos) (hV (gRg mk o) [fa,fb]):=⟨GG hT hc hg (btM X0 hv) (btN hv) hn j4 dQ X0.n_range ha.h s1 s2 i3 bG⟩
theorem Im(hv:QO X (.Name x e9) (fR i))(he:QX X e f)(m6:attributeBase (.Name x e9) "append" X.env (eval (.Name x e9) X.env)=eval (.Name x e9) X.env:=by rfl)
  (u5:((backTo pos (starEach [e] X.env)).all (fun x=>!x.1)&&(backToKw pos (keywordEach [] X.env)).all (fun x=>x.1.isSome)&&decide ([e].length+([]:List Keyword).length+(if([]:List Keyword).isEmpty then 0 else 1)<30))=true:=by rfl)
  (m4:(apos.endLine==pos.line)=true:=by rfl)(hs:SE X e []:=by rfl)(k6:BA X pos []:=by rfl):QX X (.Call (.Attribute (.Name x e9) "append" apos) [e] [] pos) (oG i f):=⟨AS hv.h he.h m6 u5 m4 hs k6⟩
theorem iR1(T:Tx X.mg)(ha:QA X [a] [fa])(hg:Gl X "range":=by rfl)(hs:starEach [a] X.env=[(false,eval a X.env)]:=by rfl):QI X B tg (.Call (.Name "range" p) [a] [] pos) (A9 fa):=⟨yJ hg T.n_range ha.h hs⟩
theorem iR2(T:Tx X.mg)(ha:QA X [a,b] [fa,fb])(hg:Gl X "range":=by rfl)(hs:starEach [a,b] X.env=[(false,eval a X.env),(false,eval b X.env)]:=by rfl)(n9:starEach [b] X.env=[(false,eval b X.env)]:=by rfl):QI X B tg (.Call (.Name "range" p) [a,b] [] pos) (HG fa fb):=⟨yI hg T.n_range ha.h hs n9⟩
theorem iE{elts:gX}{k1:Nat}{o6:Pos}(T:Tx X.mg)(ha:QX X a f)(hg:Gl X "enumerate":=by rfl)(hs:starEach [a] X.env=[(false,eval a X.env)]:=by rfl)(s0:SE X a []:=by rfl):QI X B (.Tuple elts k1 o6) (.Call (.Name "enumerate" p) [a] [] pos) (vb 0 f):=⟨AZ hg T.n_enumerate ha.h hs s0⟩
theorem iS(h:QX X e f):QI X B tg e (jW f):=⟨EO h.h⟩
theorem iSV(h:QO X e (fR i))(hb:B i:=by decide):QI X B tg e (rC (fR i)):=⟨wx h.h (uH hb)⟩
theorem iZV{elts:gX}{k1:Nat}{o6:Pos}(T:Tx X.mg)(ha:QO X a (fR i))(hb:QO X b (fR j))(b1:B i:=by decide)(b2:B j:=by decide)(hg:Gl X "zip":=by rfl)(hs:SE X a [b]:=by rfl)(n9:SE X b []:=by rfl)(i3:BA X pos [b]:=by rfl):
  QI X B (.Tuple elts k1 o6) (.Call (.Name "zip" p) [a,b] [] pos) (yW (fR i) (fR j)):=⟨CY hg T.n_zip ha.h hb.h (uH b1) (uH b2) hs n9 i3⟩
theorem gN(hN:X.N.Nodup)(hi:X.N[i]?=some x:=by rfl)(hx:Loc X.env.scope x:=by first|exact Or.inl rfl|exact Or.inr rfl)(hf:X.fn x=true\/X.env.scope.names.lookup x=some .local:=by first|exact Or.inl rfl|exact Or.inr rfl)(ha:A i:=by decide):QG X A (.Name x pos) (gP i):=⟨C6 hN hi hx hf ha⟩
theorem gT{t1 t2:Tg}{k:Nat}(h1:QG X A a t1)(h2:QG X A b t2)(hc:X.calm=true:=by rfl)(q1:(assignEach [a,b] X.env).map (·.2)=assign a X.env::(assignEach [b] X.env).map (·.2):=by rfl)(q2:(assignEach [b] X.env).map (·.2)=assign b X.env::(assignEach [] X.env).map (·.2):=by rfl)
  (hn:(assignEach [a,b] X.env).length=2:=by rfl)(x8:(assignEach [a,b] X.env).findIdx? (·.1)=none:=by rfl):QG X A (.Tuple [a,b] k pos) (zD [t1,t2]):=⟨EV hc (sZ h1.h (sZ h2.h C7 q2) q1) hn rfl x8⟩
theorem f0:QF X [] ki:=⟨C3⟩
theorem f1(h:QT X e ft):QF X [e] ft:=⟨CZ h.h⟩
theorem bE{gens:md}{sc:gF}{d:fM}{n:Nat}(he:QX X e f)(hn:gens[n+1]?=none:=by rfl):QB X A d (.ListComp e gens sc p) n (jK f):=⟨Dg hn he.h⟩
theorem bF{gens:md}{sc:gF}{d:fM}{n:Nat}{c:kY}{fi:FIt}{tt:Tg}{fb:FB}(hg:gens[n+1]?=some c)(pi:QI X (fun _=>False) c.target c.iter fi)(pg:QG X A c.target tt)(bx:QF X c.ifs ft)(pb:QB X A d (.ListComp e gens sc p) (n+1) fb)(aR:X.xe=fun _ _=>False:=by rfl)(hc:X.calm=true:=by rfl)
  (ha:c.is_async=0:=by rfl)(l9: ∀g',gens[n+1+1]?=some g'->g'.is_async=0:=by intro g' h;cases h;try rfl)(hs: ∀x,foldedSetIterable c.iter X.env x=pure x:=by intro _;rfl):QB X A d (.ListComp e gens sc p) n (HY fi tt ft fb):=⟨EY aR hc (Or.inl ⟨_,_,_,_,rfl⟩) hg ha l9 hs pi.h pg.h bx.h pb.h⟩
theorem cOk{N P:gf}{sc scope:gF}{N':gf}{caps:gx}(S:FnScope N P sc)(h:vz N sc scope N' caps k=true:=by decide+kernel)(hN:X.N=N:=by rfl)(hs:X.env.scope=sc:=by rfl):CompOk X N' scope caps k:=zg hN hs h
theorem xC{c:kY}{gE:md}{elt:fV}{scope:gF}{fi:FIt}{tt:Tg}{ti:FT}{fb:FB}{caps:gx}{N':gf}(C:CompOk X N' scope caps k)(nd:N'.Nodup)(pi:QI X (fun i=>i∉caps) c.target c.iter fi)
  (aA: ∀(cl:iw) (C:fM) (s3:fQ) (H3:Hp) (fp:ic) (pins:gq),(X.comp N' scope cl C s3 H3 fp pins).N.Nodup->
   QG (X.comp N' scope cl C s3 H3 fp pins) (fun i=>caps.length<=i) c.target tt/\QF (X.comp N' scope cl C s3 H3 fp pins) c.ifs ti/\ ∀d,QB (X.comp N' scope cl C s3 H3 fp pins) (fun i=>caps.length<=i) d (.ListComp elt (c::gE) scope pos) 0 fb)
  (hc:X.calm=true:=by rfl)(ha:c.is_async=0:=by rfl)(l9: ∀g',gE[0]?=some g'->g'.is_async=0:=by intro g' h;cases h;try rfl)(hs: ∀x,foldedSetIterable c.iter X.env x=pure x:=by intro _;rfl):QX X (.ListComp elt (c::gE) scope pos) (jB caps k fi tt ti fb):=⟨EA C hc ha l9 hs pi.h fun cl C s3 H3 fp pins=>let⟨a,b,c⟩:=aA cl C s3 H3 fp pins nd;⟨a.h,b.h,fun d=>(c d).h⟩⟩
theorem sC{c:kY}{gE:md}{elt:fV}{scope:gF}{fi:FIt}{tt:Tg}{ti:FT}{fb:FB}{caps:gx}{N':gf}{py i5:Pos}(hN:X.N.Nodup)(C:CompOk X N' scope caps k)(nd:N'.Nodup)(pi:QI X (fun i=>i∉caps) c.target c.iter fi)
  (aA: ∀(cl:iw) (C:fM) (s3:fQ) (H3:Hp) (fp:ic) (pins:gq),(X.comp N' scope cl C s3 H3 fp pins).N.Nodup->
   QG (X.comp N' scope cl C s3 H3 fp pins) (fun i=>caps.length<=i) c.target tt/\QF (X.comp N' scope cl C s3 H3 fp pins) c.ifs ti/\ ∀d,QB (X.comp N' scope cl C s3 H3 fp pins) (fun i=>caps.length<=i) d (.ListComp elt (c::gE) scope pos) 0 fb)
  (bA:swapsWith (.ListComp elt (c::gE) scope pos) (some (.Name x py)) i5.line X.env=pure true:=by rfl)(hi:X.N[i]?=some x:=by rfl)(hx:X.env.scope.names.lookup x=some .local:=by rfl)(hf:X.fn x=true:=by rfl)(hA:A i:=by decide)
  (hc:X.calm=true:=by rfl)(ha:c.is_async=0:=by rfl)(l9: ∀g',gE[0]?=some g'->g'.is_async=0:=by intro g' h;cases h;try rfl)(hs: ∀x,foldedSetIterable c.iter X.env x=pure x:=by intro _;rfl):QS X A L H0 (.Assign [.Name x py] (.ListComp elt (c::gE) scope pos) i5) (jf i (jB caps k fi tt ti fb)):=⟨CP bA C hc ha l9 hs pi.h (zY hN hi (Or.inl hx) (Or.inl hf)) hA fun cl C s3 H3 fp pins=>let⟨a,b,c⟩:=aA cl C s3 H3 fp pins nd;⟨a.h,b.h,fun d=>(c d).h⟩⟩
theorem s0:QQ X A L H0 [] gR:=⟨CQ⟩
theorem s1(h:QS X A L H0 S u)(hr:QQ X A L H0 Ss v):QQ X A L H0 (S::Ss) (gm u v):=⟨AX h.h hr.h⟩
theorem sX:QS X A L H0 S yB:=⟨AV⟩
theorem sR(h:QX X e f):QS X A L H0 (.Return (some e) pos) (jt f):=⟨EJ h.h⟩
theorem sRV(hl: ¬L i)(h1:X.N[i]?=some x:=by rfl)(h2:Vis X.env.scope x:=by first|exact Or.inl rfl|exact Or.inr (Or.inl rfl)|exact Or.inr (Or.inr rfl))(h3:DB x:=by decide)(h4:(x==("__classdict__":Str))=false:=by decide):QS X A L H0 (.Return (some (.Name x p)) pos) (lJ i):=⟨yG h1 h2 h3 h4 hl⟩
theorem sE(h:QX X e f)(hs:swapsWith e none pos.line X.env=pure false:=by rfl):QS X A L H0 (.Expr e pos) (kM f):=⟨CN h.h hs⟩
theorem sI(hc:QT X c ft)(ha:QQ X A L H0 Ss u)(hb:QQ X A L H0 Ts v):QS X A L H0 (.If c Ss Ts pos) (sIf ft u v):=⟨G3 hc.h ha.h hb.h⟩
theorem sF{fi:FIt}{t:Tg}(hi:QI X (fun _=>False) tg e fi)(hg:QG X A tg t)(hb:QQ X A L H0 Ss u)(hp:PassesOwn (model X.prog X.w) X.A X.env X.xe:=by exact PassesOwn.never)(hc:X.calm=true:=by rfl)(hs: ∀x,foldedSetIterable e X.env x=pure x:=by intro _;rfl):QS X A L H0 (.For tg e Ss [] pos) (uN fi t u):=⟨EL hp hc hi.h hg.h hb.h hs⟩
theorem sS(hN:X.N.Nodup)(he:QX X e f)(hi:X.N[i]?=some x:=by rfl)(hx:Loc X.env.scope x:=by first|exact Or.inl rfl|exact Or.inr rfl)(hf:X.fn x=true\/X.env.scope.names.lookup x=some .local:=by first|exact Or.inl rfl|exact Or.inr rfl)(ha:A i:=by decide)(hs:swapsWith e (some (.Name x p)) pos.line X.env=pure false:=by rfl):QS X A L H0 (.Assign [.Name x p] e pos) (jf i f):=⟨EI hN hi hx he.h hs hf ha⟩
theorem sIx{i5:Pos}(hv:QO X (.Name x e9) (fR i))(he:QX X e f)(hi:QO X a fo)
  (ha: ∀v,assign (.Subscript (.Name x e9) a i5) X.env v=(do
   let ov <-holding [v] (eval (.Name x e9) X.env)
   let iv <-holding [v,ov] (eval a X.env)
   standAt i5
   holding [v,ov,iv] (setItem ov iv v)
   release [v,ov,iv] []):=by intro _;rfl)
  (hs:swapsWithSole [.Subscript (.Name x e9) a i5] e pos.line X.env=pure false:=by rfl)(hw:swappedStores [.Subscript (.Name x e9) a i5] e X.env=pure none:=by rfl)
  (h1:(assignEach [.Subscript (.Name x e9) a i5] X.env).map (·.2)=[assign (.Subscript (.Name x e9) a i5) X.env]:=by rfl):QS X A L H0 (.Assign [.Subscript (.Name x e9) a i5] e pos) (oR i f fo):=⟨AW hv.h he.h hi.h ha hs hw h1⟩
end
def Fz(K:fX)(mg:iF)(x:Str)(st:Stmt):Prop:= ∃f fd,mg x=some (.ref f)/\Fun K x x st f fd
theorem fz{K:fX}{h:fZ}{mg:iF}{x:Str}{st:Stmt}{f:fM}{oc:fW}{od an:Option Addr}{v7:mf}{kV doc pm e6 ct:fW}(X:K.In h)(G:h.Ns mainGlobals mg)(a:PySem.W.nsIn K mainGlobals x=some (some (.ref f)))
  (l:K.lookup f=some ⟨oc,od,.func (PySem.W.fnOf x x (lO st) (iI st) (fP st) .none kV doc pm an e6 ct),v7⟩)(c:PySem.W.codeIn K e6 x=true)(k:PySem.W.keepIn K (.ref f)=true):Fz K mg x st:=⟨f,_,PySem.W.mg_of X G a,DF l c k⟩
def BdA(x:Str)(st:Stmt)(ps:gf):Prop:= ∀(kV doc pm:fW) (an:Option Addr) (e6 ct:fW) (us:gJ),us.length=ps.length->bindArgs (PySem.W.fnOf x x (lO st) (iI st) (fP st) .none kV doc pm an e6 ct) ⟨us,[]⟩=pure (ps.zip us)
theorem scM{N P:gf}{sc:gF}(h1:sc.kind= .function:=by rfl)(h2:sc.isCoroutine=false:=by rfl)(h3:sc.isGenerator=false:=by rfl)(h4:N.Nodup:=by decide+kernel)(h5:N.take P.length=P:=by rfl)(h6: ∀x∈P,sc.names.lookup x=some .local\/sc.names.lookup x=some .cell:=by decide+kernel)(h7: ∀y∈sc.names,y.2≠ .free:=by decide+kernel):FnScope N P sc:=⟨h1,h2,h3,h4,h5,h6,h7⟩
def Bd(Z:ZZ)(k:Nat)(x:Str)(st:Stmt)(N ps:gf)(asg:gx)(fs:FS):Prop:= ∀(f:fM) (e6:fW) (A:gc) (outer:List Env) (s:fQ) (H:Hp) (E:XK) (L:gG),(∀i,L i->i<ps.length)->Room k (A.deeper (envOfC x (fP st) s.heap.objs.size f e6))->
 un (A.deeper (envOfC x (fP st) s.heap.objs.size f e6)) 60->un (A.deeper (envOfC x (fP st) s.heap.objs.size f e6)) 1->un (A.deeper (envOfC x (fP st) s.heap.objs.size f e6)) 62->un (A.deeper (envOfC x (fP st) s.heap.objs.size f e6)) 90->N.Nodup->
 QQ (kG CX0 Z.P Z.w Z.K Z.mg Z.base N x (fP st) f e6 A outer s H E).nox (fun i=>i∈asg) L H (iI st) fs
theorem fnB{Z:ZZ}{k:Nat}{x:Str}{st:Stmt}{N ps:gf}{asg:gx}{fs:FS}{f:fM}{fd:jq}(F:Fun Z.K x x st f fd)(S:FnScope N ps (fP st))(hb:Bd Z k x st N ps asg fs):FnOk Z.P Z.w Z.K Z.mg Z.base CX0 (k+1) f fd ps (spF Z.K (evF N.length ps.length asg fs)):=
 HK F S fun e6 A outer s H E L hL hr=>by
  have:=hr.un;exact(hb f e6 A outer s H E L hL hr (by unfold un;omega) (by unfold un;omega) (by unfold un;omega) (by unfold un;omega) S.nd).h
theorem ozB{Z:ZZ}{k:Nat}{x:Str}{st:Stmt}{N ps:gf}{asg:gx}{fs:FS}(a:Fz Z.K Z.mg x st)(S:FnScope N ps (fP st))(b:BdA x st ps)(hb:Bd Z k x st N ps asg fs):Oz Z (k+1) x ps (evF N.length ps.length asg fs):=
 let⟨f,fd,m,F⟩:=a;⟨f,fd,fnB F S hb,m,F.kp,F.binds b⟩
theorem us0{P:List Value->Prop}(h:P []): ∀us:List Value,us.length=0->P us:=fun us e=>by cases us with|nil=>exact h|cons a l=>cases e
theorem us1{P:List Value->Prop}{n:Nat}(h: ∀a,∀us:List Value,us.length=n->P (a::us)): ∀us:List Value,us.length=n+1->P us:=fun us e=>by cases us with|nil=>cases e|cons a l=>exact h a l (Nat.succ.inj e)
theorem oz0{Z:ZZ}{x:Str}{st:Stmt}{ps:gf}(a:Fz Z.K Z.mg x st)(b:BdA x st ps):Oz Z 0 x ps (fun _=>none):=
 let⟨f,fd,m,F⟩:=a;⟨f,fd,Fv,m,F.kp,F.binds b⟩
theorem fzL{K:fX}{mg:iF}{x y:Str}{st:Stmt}{fa:fM}(a:Fz K mg x st)(cR:mg x=some (.ref fa))(b:BdA x st [y]): ∃fd,Fun K x x st fa fd/\ ∀(s:fQ) (v:fW),BindsTo s fd ⟨[v],[]⟩ [(y,v)]:=by
 obtain⟨f,fd,m,F⟩:=a;have e:=cR.symm.trans m;cases e;obtain⟨oc,od,kV,doc,pm,an,e6,ct,v7,e,_⟩:=F.ex;exact⟨fd,F,fun s v=>by subst e;exact .of_eq (b kV doc pm an e6 ct [v] rfl)⟩
theorem mgI{K:fX}{h:fZ}{mg:iF}{x:Str}{i:Int}{t:Tok}(X:K.In h)(G:h.Ns mainGlobals mg)(a:PySem.W.nsIn K mainGlobals x=some (some (.int i t))): ∃t,mg x=some (.int i t):=⟨t,PySem.W.mg_of X G a⟩
theorem txK{K:fX}{h:fZ}{mg:iF}(X:K.In h)(G:h.Ns mainGlobals mg)(z0:PySem.W.nsIn K mainGlobals "len"=some none)(z1:PySem.W.nsIn K mainGlobals "abs"=some none)(z2:PySem.W.nsIn K mainGlobals "int"=some none)(z3:PySem.W.nsIn K mainGlobals "tuple"=some none)(z4:PySem.W.nsIn K mainGlobals "list"=some none)(z5:PySem.W.nsIn K mainGlobals "range"=some none)(z6:PySem.W.nsIn K mainGlobals "isinstance"=some none)(z7:PySem.W.nsIn K mainGlobals "bool"=some none)(z8:PySem.W.nsIn K mainGlobals "max"=some none)(z9:PySem.W.nsIn K mainGlobals "min"=some none)(z10:PySem.W.nsIn K mainGlobals "all"=some none)(z11:PySem.W.nsIn K mainGlobals "any"=some none)(z12:PySem.W.nsIn K mainGlobals "sorted"=some none)(z13:PySem.W.nsIn K mainGlobals "enumerate"=some none)(z14:PySem.W.nsIn K mainGlobals "zip"=some none)(z15:PySem.W.nsIn K mainGlobals "set"=some none):Tx mg:=⟨ke X G z0,ke X G z1,ke X G z2,ke X G z3,ke X G z4,ke X G z5,ke X G z6,ke X G z7,ke X G z8,ke X G z9,ke X G z10,ke X G z11,ke X G z12,ke X G z13,ke X G z14,ke X G z15⟩
section
variable {prog:gi}{w:gd}{A:gc}{E:gw}{s:fQ}
end
def isI:D->Bool
 | .int _=>true
 |_=>false
section
variable {X:Cx}{pins:gq}{σ:L2.St}{H:Hp}{s:fQ}
theorem IC{O:AP'}: ∀{l:List D} {xs:List V} {b6:gJ},l.all isI=true->RepL X.K H O l xs->Vals xs b6-> ∃ns:List Int,l=ns.map .int/\IntsAre b6 ns
 |[],xs,b6,_,r,v=>by
  rw[RepL] at r;subst r;cases v;exact⟨[],rfl,.nil⟩
 |d::l,xs,b6,h,r,v=>by
  rw[RepL] at r;obtain⟨x,bO,rfl,r1,r2⟩:=r;rw[List.all_cons,kv] at h
  cases d with
  |int i=>
   cases v with
   |cons a b=>
    obtain⟨ns,rfl,h3⟩:=IC h.2 r2 b;rw[gg (.inl r1)] at a;obtain⟨t,rfl⟩:=a;exact⟨i::ns,rfl,.cons _ _ h3⟩
  |_=>exact absurd h.1 (by simp[isI])
end
section
variable {X:Cx}{x:Str}{i:Nat}{e9 apos g0:Pos}
end
def Jh:=gI fun i j=>if oO i j then some (.int (i*2^j.toNat)) else none
def Jg:=gI fun i j=>if 0<=j then some (.int (i / 2^j.toNat)) else none
def Ge:=gI fun i j=>some (.int (Builtin.bitAnd i j))
section
variable {X:Cx}
theorem E9:OpR X (binaryOp .LShift) (rD X.K Jh):=mW Hq
theorem E8:OpR X (binaryOp .RShift) (rD X.K Jg):=mW Ho
theorem Fb:OpR X (binaryOp .BitAnd) (rD X.K Ge):=wz Hw
variable {a:fV}{fo:FO}{p pos p1 kp e9 apos:Pos}{x:Str}{i:Nat}
end
section
variable {X:Cx}{pins:gq}{σ:L2.St}{H:Hp}{s:fQ}
end
section
variable {X:Cx}
end
section
variable {prog:gi}{w:gd}{A:gc}{E:gw}{I:fM}{fp wr:ic}{n:Nat}{P:Nat->Value->Prop}{St:Nat->Heap->Prop}
end
section
variable {X:Cx}{A:gG}{pos:Pos}{es:gX}{ts:List Tg}
end
section
variable {X:Cx}{A:gG}{a b:fV}{pos:Pos}
variable {e elt:fV}{f:F}{x z:Str}{p e9 p1 kp:Pos}{i k:Nat}{L:gG}{H0:Hp}
end
section
variable {X:Cx}{pins:gq}{σ:L2.St}{H:Hp}{s:fQ}
end
end PX
namespace L2
open PySem PySem.Spec PyProof.Rows PySem.W
def oV(q:Str):HO:= .tbl #[.str q 0]
structure OnlyT(TB:List (Addr×Str))(H:Hp):Prop where
 one: ∀b,H b=none\/(∃o xs,H b=some (.frz o (.lst xs)))\/ ∃q,(b,q)∈TB/\H b=some (oV q)
 all: ∀p∈TB,H p.1=some (oV p.2)
theorem A7{P:gi}{w:gd}{K:fX}{mg mb:iF}{CX:CXT}{k:Nat}{fa a:fM}{fd:jq}{x:Str}{sp:Sp}{s₁:fQ}{vs:gJ}{ns:nQ}{TB:List (Addr×Str)}
  (KX:K.In s₁.heap)(bj:s₁.heap.Ns mainGlobals mg)(hb:s₁.heap.Ns builtinsNs mb)(hbb: ∀x:Str,x≠"__name__"->mb x=bootBuiltins x)(hlim:s₁.heap.NoLimit)(hg:s₁.gens= #[])
  (hT: ∀p∈TB,s₁.heap.get? p.1=some (tabObj #[]))(dZ: ∀p∈TB,K.lookup p.1=none)(dY: ∀p∈TB,isCodeTable s₁.heap p.1)(dw:(TB.map (·.1)).Nodup)(hba: ∀p∈TB,s₁.heap.BuiltinsAt mg p.1)
  (ha:s₁.heap.get? a=some {cls:= .type "list",data:= .seq vs.toArray})(hi:IntsAre vs ns)(hl:ns.length<=sizeLine)(hr:Room k callerA)
  (F: ∀base:Heap,K.In base->base.Ns mainGlobals mg->(∀p∈TB,base.BuiltinsAt mg p.1)->FnOk P w K mg base CX k fa fd [x] sp)(o9: ∀(s:fQ) (u:fW),BindsTo s fd ⟨[u],[]⟩ [(x,u)])
  (cp: ∀H:Hp,OnlyT TB H->SqL K H a (ns.map V.int)->sp [.ref a] H (fun v H'=>v= .bl true/\ ∀p∈TB,H' p.1=some (oV p.2)) fun _ _ _=>False)
  (hCX: ∀H e s',CX [] H s₁ (fun _ _ _=>False) e s'->False):
  codeAny (model P w) callerA (.call (.ref fa) ⟨[.ref a],[]⟩) (fun r s'=>r= .ok (.ret (.bool true))/\OldK s₁.heap s'.heap/\s'.os=s₁.os/\AllBare s'.gens) s₁:=by
 have rv:=sN hi;have lenV:=hi.length
 have eJ: ∀p∈TB,p.1≠a:=fun p hp e=>by
  have:=hT p hp;rw[e,ha] at this;cases this
 have core: ∀H:Hp,OnlyT TB H->SqL K H a (ns.map V.int)->HOk P w H s₁.heap->(∀b,H b≠none->b=a\/ ∃p∈TB,b=p.1)->(H a≠none->K.lookup a=none)->
   codeAny (model P w) callerA (.call (.ref fa) ⟨[.ref a],[]⟩) (fun r s'=>r= .ok (.ret (.bool true))/\OldK s₁.heap s'.heap/\s'.os=s₁.os/\AllBare s'.gens) s₁:=by
  intro H hO hS hok hA hK;have u7: ∀{b:fM} {o:Obj},s₁.heap.get? b=some o->H b=none->(sd s₁.heap H).get? b=some o:=fun e n=>Dz e n
  have bh: ∀{b:fM} {o:Obj},s₁.heap.get? b=some o->(∀b6 n,o.data≠ .seq b6 n)->(∀ps,o.data≠ .fields ps)->H b=none:=fun {b o} e d d2=>by
   cases q:H b with
   |none=>rfl
   |some u=>
    rcases hA b (by rw[q];simp) with rfl|⟨p,hp,rfl⟩
    ·rw[ha] at e;cases e;exact absurd rfl (d _ _)
    ·rw[hT p hp] at e;cases e;exact absurd rfl (d2 _)
  have dD: ∀{b:fM} {m:iF},s₁.heap.Ns b m->(sd s₁.heap H).Ns b m:=fun {b m} ⟨o,es,ep,e,d,r⟩=>⟨o,es,ep,u7 e (bh e (fun _ _ z=>by rw[d] at z;cases z) fun _ z=>by rw[d] at z;cases z),d,r⟩
  have hKb:K.In (sd s₁.heap H):=fun b o e=>u7 (KX b o e) (by
   cases q:H b with
   |none=>rfl
   |some u=>
    rcases hA b (by rw[q];simp) with rfl|⟨p,hp,rfl⟩
    ·rw[hK (by rw[q];simp)] at e;cases e
    ·rw[dZ p hp] at e;cases e)
  have hBA: ∀p∈TB,(sd s₁.heap H).BuiltinsAt mg p.1:=fun p hp=>by
   obtain⟨bm,o,h1,h2,h3,h4,h5,h6,h7,h8⟩:=hba p hp;exact⟨bm,o,h1,h2,h3,h4,u7 h5 (bh h5 (fun _ _ z=>by rw[h8] at z;cases z) fun _ z=>by rw[h8] at z;cases z),h6,h7,h8⟩
  have hM:Mod K mg (sd s₁.heap H):=⟨hKb,dD bj,⟨mb,dD hb,hbb⟩,let⟨mc,h1,h2⟩:=hlim;⟨mc,dD h1,h2⟩⟩
  have e0:Env0 P w K mg (sd s₁.heap H) callerA [] s₁ H:=⟨rfl,hM,fun b o e=>Fh e,Nat.le_of_eq (Bc _ _),trivial,fun b hb=>absurd (show b∈([]:List Addr) from hb) (by simp),hok,.of_eq hg⟩
  refine pA ((F _ hKb (dD bj) hBA).run callerA [] s₁ H ⟨[.ref a],[]⟩ [.ref a] [.ref a] _ _ hr e0 (o9 s₁ (.ref a)) (.cons rfl .nil) (cp H hO hS)) fun r s' h=>?_
  cases r with
  |error e=>exact(hCX H e s' h).elim
  |ok fl=>
   cases fl with
   |next=>exact False.elim h
   |brk=>exact False.elim h
   |cont=>exact False.elim h
   |ret u=>
    obtain⟨v,H',os,bare,un,hok',r',q,y7⟩:=h;subst q;obtain rfl:u=Value.bool true:=r'
    have tab: ∀p∈TB,∃ps,s'.heap.get? p.1=some (tabObj ps):=fun p hp=>by
     obtain⟨_,_,ps,_,e,_⟩:=(show ObjOk P w H' s'.heap p.1 (.tbl #[.str p.2 0]) from hok' _ _ (y7 p hp))
     exact⟨ps,e⟩
    have keep: ∀b o,s₁.heap.get? b=some o->(∀p∈TB,b≠p.1)->s'.heap.get? b=some o:=fun b o e n=>by
     cases q:H b with
     |none=>exact un.keep b o e q (by intro z;exact absurd (show b∈([]:List Addr) from z) (by simp)) (by simp)
     |some u=>
      rcases hO.one b with z|⟨ob,xs,z⟩|⟨qq,hm,z⟩
      ·rw[q] at z;cases z
      ·have z2:=un.frzs b ob _ z;obtain⟨e1,_⟩:=hok b _ z;obtain⟨e2,_⟩:=hok' b _ z2;rw[e] at e1;cases e1;exact e2
      ·exact absurd rfl (n _ hm)
    refine⟨rfl,⟨fun b o e=>?_,fun b o e=>?_⟩,os,bare⟩
    ·by_cases hb: ∃p∈TB,b=p.1
     ·obtain⟨p,hp,rfl⟩:=hb;obtain⟨ps,e2⟩:=tab p hp;rw[hT p hp] at e;cases e;refine .inr (.inl ⟨dY p hp,rfl,#[],ps,rfl,?_⟩);rw[e2];simp
     ·exact .inl (keep b o e fun p hp z=>hb ⟨p,hp,z⟩)
    ·by_cases hb: ∃p∈TB,b=p.1
     ·obtain⟨p,hp,rfl⟩:=hb;obtain⟨ps,e2⟩:=tab p hp;exact⟨_,e2⟩
     ·exact⟨o,keep b o e fun p hp z=>hb ⟨p,hp,z⟩⟩
 have bQ: ∀{b q},TB.lookup b=some q->(b,q)∈TB:=fun h=>by
  revert h;generalize TB=l
  induction l with
  |nil=>intro h;simp at h
  |cons x l ih=>
   intro h;rw[kg] at h;split at h
   ·rename_i hb;cases h;rw[FV.mp hb];exact jm
   ·exact iO _ (ih h)
 have lkA: ∀p∈TB,TB.lookup p.1=some p.2:=by
  clear bQ core eJ cp dZ dY hba F hT
  induction TB with
  |nil=>intro p hp;simp at hp
  |cons x l ih=>
   intro p hp;rw[nk,B6] at dw;rw[kg];rcases jC.mp hp with rfl|hp
   ·simp
   ·have:(p.1==x.1)=false:=by
     rw[FU];exact fun e=>dw.1 (e▸List.mem_map_of_mem hp)
    rw[this];exact ih dw.2 p hp
 have objT: ∀(H:Hp) (b:fM) (q:Str),(b,q)∈TB->ObjOk P w H s₁.heap b (oV q):=fun H b q hm=>⟨q,0,#[],rfl,hT _ hm,trivial,fun pos cv z=>by simp[codeAmong] at z⟩
 cases hk:K.lookup a with
 |some o=>
  have e:=KX a o hk;rw[ha] at e;cases e;refine core (fun b=>(TB.lookup b).map oV) ⟨fun b=>?_,fun p hp=>by rw[lkA p hp];rfl⟩ (.inr ⟨_,vs.toArray,_,hk,rfl,rfl,rfl,by rw[iA,lenV];exact hl,by simpa using rv⟩) (fun b u z=>?_) (fun b z=>?_) (fun z=>?_)
  ·cases q:TB.lookup b with
   |none=>exact .inl rfl
   |some q'=>exact .inr (.inr ⟨q',bQ q,rfl⟩)
  ·have z':(TB.lookup b).map oV=some u:=z
   cases q:TB.lookup b with
   |none=>rw[q] at z';cases z'
   |some q'=>rw[q] at z';cases z';exact objT _ b q' (bQ q)
  ·have z':(TB.lookup b).map oV≠none:=z
   cases q:TB.lookup b with
   |none=>rw[q] at z';exact absurd rfl z'
   |some q'=>exact .inr ⟨_,bQ q,rfl⟩
  ·have z':(TB.lookup a).map oV≠none:=z
   cases q:TB.lookup a with
   |none=>rw[q] at z';exact absurd rfl z'
   |some q'=>exact absurd rfl (eJ _ (bQ q))
 |none=>
  have hat: ∀p∈TB,(if p.1=a then some (HO.frz {cls:= .type "list",data:= .seq vs.toArray} (.lst (ns.map V.int))) else(TB.lookup p.1).map oV)=some (oV p.2):=fun p hp=>by rw[gk (eJ p hp),lkA p hp];rfl
  refine core (fun b=>if b=a then some (.frz {cls:= .type "list",data:= .seq vs.toArray} (.lst (ns.map V.int))) else(TB.lookup b).map oV) ⟨fun b=>?_,hat⟩ (.inl (.inr ⟨{cls:= .type "list",data:= .seq vs.toArray},gh rfl⟩)) (fun b u z=>?_) (fun b z=>?_) fun _=>hk
  ·by_cases hb:b=a
   ·exact .inr (.inl ⟨_,_,gh hb⟩)
   ·cases q:TB.lookup b with
    |none=>exact .inl (by simp[hb,q])
    |some q'=>exact .inr (.inr ⟨q',bQ q,by simp[hb,q]⟩)
  ·by_cases hb:b=a
   ·have z':=(gh hb).symm.trans z;cases z';subst hb;exact⟨ha,by rw[nv];exact hl,vs,_,rv,ha⟩
   ·have z':=(gk hb).symm.trans z
    cases q:TB.lookup b with
    |none=>rw[q] at z';cases z'
    |some q'=>rw[q] at z';cases z';exact objT _ b q' (bQ q)
  ·by_cases hb:b=a
   ·exact .inl hb
   ·cases q:TB.lookup b with
    |none=>exact absurd (by simp[hb,q]) z
    |some q'=>exact .inr ⟨_,bQ q,rfl⟩
end L2
namespace PX
open PySem PySem.Spec PyProof.Rows L2
theorem Fl{TB:List (Addr×Str)}{K:fX}{ev:EvF}{H:Hp}{a:fM}{ns:nQ}(hT: ∀p∈TB,H p.1=some (oV p.2))(hS:SqL K H a (ns.map V.int)){o:Bool}{outs:Dn}(h:ev [(.lst (ns.map .int),false)]=some ((.bl true,o),outs)):spF K ev [.ref a] H (fun v H'=>v= .bl true/\ ∀p∈TB,H' p.1=some (oV p.2)) fun _ _ _=>False:=by
 have no: ∀b,¬OwnA [some (V.ref a)] [some (D.lst (ns.map .int),false)] b:=fun b ⟨i,d,h1,h2⟩=>by
  cases i with
  |zero=>simp at h1
  |succ i=>simp at h1
 refine⟨fun _=>False,[(.lst (ns.map .int),false)],_,outs,⟨rfl,fun i d hd=>?_,fun i d hd=>?_,fun i j d e b h1=>?_,fun b z=>absurd z (no b),fun b z=>z.elim⟩,h,fun v H' P=>?_⟩
 ·cases i with
  |zero=>
   simp at hd;subst hd;refine⟨_,rfl,Rep.mkLst (a:=a) (xs:=ns.map V.int) ?_ (sY ns)⟩;exact hS.imp (fun z=>⟨z,fun z=>z.elim (no a) id⟩) id
  |succ i=>simp at hd
 ·cases i with
  |zero=>simp at hd
  |succ i=>simp at hd
 ·cases i with
  |zero=>simp at h1
  |succ i=>simp at h1
 ·refine⟨?_,fun p hp=>P.1.kp _ _ (hT p hp) (no _)⟩
  cases o with
  |false=>exact P.2.2.bl
  |true=>
   obtain⟨p,_,_,_,ok⟩:=P.2;exact ok.elim
end PX
namespace L2
open PySem PySem.Spec PyProof.Rows PySem.W
structure Fly(P:gi)(w:gd)(outer:List Env)(H:Hp)(s:fQ)(C:fM)(H':Hp)(ea:fM)(s':fQ)(h0 B:fZ)(F:ic):Prop where
 os:s'.os=s.os
 bare:AllBare s'.gens
 un:Un (frs outer) [] H H' s.heap h0
 hok:HOk P w H' h0
 fr: ∀b∈F,H' b=none/\(b∈frs outer\/s.heap.objs.size<=b)
 st: ∀b o,h0.get? b=some o->b∉F->B.get? b=some o
 fl: ∃a0,Heap.FlyingW B outer ea (.ref C) a0 s'.heap
 up:h0.UpToSlots s'.heap
 ne:h0.get? ea=none
def CXx(P:gi)(w:gd):CXT:=fun outer H s E e s'=> ∃C H' ea h0 B F,e= .ref ea/\Fly P w outer H s C H' ea s' h0 B F/\E (.ref C) none H'
section
variable {P:gi}{w:gd}{outer:List Env}{H H':Hp}{s s':fQ}{C ea:fM}{h0 B h':fZ}{F:ic}
theorem Fly.end(f:Fly P w outer H s C H' ea s' h0 B F)(hf: ∀b∈frs outer,∃o,s.heap.get? b=some o/\(∀vs,o.data≠ .fields vs)/\H b=none)(hB:B.StaysIn h')(hu:h0.UpToSlots h'):Un (frs outer) [] H H' s.heap h'/\HOk P w H' h':=by
 have keep: ∀b o,h0.get? b=some o->b∉F->h'.get? b=some o:=fun b o e n=>hB b o (f.st b o e n)
 have nF: ∀b o,s.heap.get? b=some o->b∉frs outer->b∉F:=fun b o e n z=>by
  rcases(f.fr b z).2 with q|q
  ·exact n q
  ·exact absurd (gZ e) (FP.mpr q)
 refine⟨⟨fun b o e n hb hx=>keep b o (f.un.keep b o e n hb hx) (nF b o e hb),fun b o e n hb hx=>?_,f.un.free,fun b o e hx=>?_,f.un.tups,f.un.frzs,f.un.tbls⟩,fun a o e=>?_⟩
 ·obtain⟨o2,e2,nd,_⟩:=hf b hb;rw[e] at e2;cases e2;obtain⟨sl,e1⟩:=f.un.slot b o e n hb hx;obtain⟨r6,e3⟩:=hu b _ e1 nd;exact⟨r6,e3⟩
 ·by_cases hb:b∈frs outer
  ·obtain⟨o2,e2,nd,n⟩:=hf b hb;rw[e] at e2;cases e2;obtain⟨sl,e1⟩:=f.un.slot b o e n hb hx;obtain⟨r6,e3⟩:=hu b _ e1 nd;exact⟨_,e3⟩
  ·obtain⟨o',e1⟩:=f.un.there b o e hx;exact⟨o',keep b o' e1 (nF b o e hb)⟩
 ·refine(f.hok a o e).stay (fun b u hb q=>keep b u q fun z=>?_) (fun _ q=>q) fun _ _ q=>q;have:=(f.fr b z).1;rcases hb with rfl|hb
  ·rw[e] at this;cases this
  ·rw[hb] at this;cases this
end
section
variable {X:Cx}{pins:gq}{σ:St}{H:Hp}{s s':fQ}{C ea:fM}
theorem Inv.frsOk(I:Inv X pins σ H s): ∀b∈frs X.stack,∃o,s.heap.get? b=some o/\(∀vs,o.data≠ .fields vs)/\H b=none:=fun b hb=>by
 obtain⟨_,o,ho,hd⟩:=I.stack.mem hb;exact⟨o,ho,hd,I.stkFree b hb⟩
def XeOk(X:Cx)(P:gi)(w:gd)(outer:List Env)(H0:Hp)(s0:fQ)(E:XK):Prop:=X.prog=P/\X.w=w/\X.stack=X.env::outer/\X.outer=outer/\X.H₀=H0/\X.s₀=s0/\X.ex=[]/\X.env.frame=some X.env.locals/\
 ∀e s',wpAny (model P w) X.A (leaving X.env e) (fun _ y9=>CXx P w outer H0 s0 E e y9) (fun e' y9=>CXx P w outer H0 s0 E e' y9) s'->X.xe e s'
theorem ko{P:gi}{w:gd}{K:fX}{mg:iF}{base:fZ}{N:gf}{qual:Str}{scope:gF}{f:fM}{cd:fW}{A:gc}{outer:List Env}{s:fQ}{H:Hp}{E:XK}:
  XeOk (kG (CXx P w) P w K mg base N qual scope f cd A outer s H E) P w outer H s E:=⟨rfl,rfl,rfl,rfl,rfl,rfl,rfl,rfl,fun _ _ h=>h⟩
variable {P:gi}{w:gd}{outer:List Env}{H0:Hp}{s0:fQ}{E:XK}
theorem AH{H1:Hp}{h0:fZ}{L:fM}(a:Un (frs outer) [] H0 H s0.heap s.heap)(b:Un (L::frs outer) [] H H1 s.heap h0)(hL:s0.heap.objs.size<=L):Un (frs outer) [] H0 H1 s0.heap h0 where
 keep:=fun c o q n hc hx=>b.keep c o (a.keep c o q n hc hx) (a.free c o q n hx) (fun z=>(jC.mp z).elim (fun z=>by subst z;exact absurd (gZ q) (FP.mpr hL)) hc) hx
 slot:=fun c o q n hc hx=>by
  obtain⟨sl,e1⟩:=a.slot c o q n hc hx;obtain⟨dA,e2⟩:=b.slot c _ e1 (a.free c o q n hx) (iO _ hc) hx;exact⟨dA,e2⟩
 free:=fun c o q n hx=>by
  obtain⟨o',e1⟩:=a.there c o q hx;exact b.free c o' e1 (a.free c o q n hx) hx
 there:=fun c o q hx=>by
  obtain⟨o',e1⟩:=a.there c o q hx;exact b.there c o' e1 hx
 tups:=fun c xs q=>b.tups c xs (a.tups c xs q)
 frzs:=fun c o xs q=>b.frzs c o xs (a.frzs c o xs q)
 tbls:=fun c ps q=>by
  obtain⟨m1,e1⟩:=a.tbls c ps q;obtain⟨m2,e2⟩:=b.tbls c _ e1;exact⟨m1++m2,by rw[e2,uA]⟩
theorem rJ{env:Env}{L:fM}(h:env.frame=some L):frs (env::outer)=L::frs outer:=by unfold frs;rw[uB,h]
theorem XeOk.made(x:XeOk X P w outer H0 s0 E)(I:Inv X pins σ H s){h':fZ}{args:gJ}(hx:Heap.MadeExcOf s.heap h' ea (.ref C) args)(q:E (.ref C) none H):X.xe (.ref ea) {s with heap:=h'}:=by
 obtain⟨rfl,rfl,stk,ho,rfl,rfl,hex,hf,aR⟩:=x;refine aR _ _ (wpAny_leaves_madeW (base:=hideAll s.heap (frs X.stack)) (h:=s.heap) (L:=X.env.locals) (I.ok.frames.trans (by rw[stk])) hf (fun b o e=>of_hideAll _ e) ?_ hx fun ay t fl _ _ up=>?_)
 ·rw[<-stk];exact funFrames_hide I.stack fun env he a ha=>Ib.mpr ⟨env,he,ha⟩
 ·refine⟨C,H,ea,s.heap,_,frs X.stack,rfl,⟨I.os,I.bare,?_,I.hok,fun b hb=>⟨I.stkFree b hb,?_⟩,fun b o e n=>hideAll_get _ e n,⟨_,fl⟩,(Heap.UpToSlots.of_keeps hx.keeps).trans up,hx.new⟩,q⟩
  ·have:=I.base;unfold Cx.fs at this
   rwa [ho,hex] at this
  ·rw[stk,rJ hf] at hb;rcases jC.mp hb with rfl|hb
   ·exact .inr I.ok.above
   ·exact .inl hb
theorem XeOk.pass(x:XeOk X P w outer H0 s0 E):vG (CXx P w) X E:=fun pins σ H s e s' I h=>by
 obtain⟨rfl,rfl,stk,ho,rfl,rfl,hex,hf,aR⟩:=x;obtain⟨C,H',ea,h0,B,F,rfl,f,q⟩:=h;obtain⟨a0,fl⟩:=f.fl;rw[stk] at fl;refine aR _ _ (wpAny_leaves_onW (L:=X.env.locals) (I.ok.frames.trans (by rw[stk])) hf fl fun h' bV up=>?_);refine⟨C,H',ea,h0,B,F,rfl,⟨f.os.trans I.os,f.bare,?_,f.hok,fun b hb=>⟨(f.fr b hb).1,?_⟩,f.st,⟨a0,bV⟩,f.up.trans up,f.ne⟩,q⟩
 ·have a:=I.base;unfold Cx.fs at a;rw[ho,hex] at a;have b:=f.un;rw[stk,rJ hf] at b;exact AH a b I.ok.above
 ·rcases(f.fr b hb).2 with z|z
  ·rw[stk,rJ hf] at z;rcases jC.mp z with rfl|z
   ·exact .inr I.ok.above
   ·exact .inl z
  ·exact .inr (lT I.sz z)
end
abbrev veB:List Value:=[.type "ValueError",.type "Exception",.type "BaseException",.type "object"]
theorem FD{K:Frag}{h:fZ}{C:fM}{bmB:gJ}{eC:String}(KX:K.In h)(q:excIn K C bmB eC=true):
  ∃bm N nm qn bs hd sn sub ab col dd k0 k1 k2 k3 k5 mN,h.get? C=some (excClassObj nm qn C N bs bm hd sn sub ab col dd k0 k1 k2 k3 k5 eC)/\h.Ns N mN/\mN "__init__"=none/\OwnTail h bmB bm:=by
 unfold excIn at q;split at q
 case h_2=>cases q
 rename_i dd cd sl lk;split at q
 case h_2=>cases q
 rename_i C2 bm k0 k1 k2 k3 n k5 em es;rw[kv,kv,kv,kv,kv] at q;obtain⟨⟨⟨⟨⟨q1,q2⟩,q3⟩,q4⟩,q5⟩,q6⟩:=q;cases FV.mp q1;cases FV.mp q2;obtain⟨nm,bs,mro,ns,qn,hd,sn,sub,ab,col,del⟩:=cd;have e1:mro= .ref C::bm:=em;have e2:del=false:=by simpa using q3
 obtain⟨sl⟩:=sl;have e3:sl=[k0,k1,k2,k3,some (.builtin eC),k5]:=es;subst e1 e2 e3;exact⟨bm,ns,nm,qn,bs,hd,sn,sub,ab,col,dd,k0,k1,k2,k3,k5,_,KX _ _ lk,.of_isNs (isNs_of_in KX q5),nsMap_none_of_in KX q5 (FV.mp q6),tail_of_in KX q4⟩
section
variable {X:Cx}{P:gi}{w:gd}{outer:List Env}{H0:Hp}{s0:fQ}{E:XK}{x:Str}{C:fM}{a:fV}{ta:TE}{np g0 pos:Pos}
theorem CV(xk:XeOk X P w outer H0 s0 E)(hc:X.calm=true)(hK:excIn X.K C veB "ValueError.__new__"=true)(hm:X.mg x=some (.ref C))(hg:Gl X x)(ha:PE X a ta)(hd:(x==("__debug__":Str))=false)
  (hs:starEach [a] X.env=[(false,eval a X.env)]):PS X (.Raise (some (.Call (.Name x np) [a] [] g0)) none pos) (fun D σ H=>ta σ H fun _ H1=>E (.ref C) none H1):=by
 intro pins s σ H D I h;obtain⟨bm,N,nm,qn,bs,cU,sn,sub,ab,col,dd,k0,k1,k2,k3,k5,mN,h1,h2,h3,h4⟩:=FD I.ok.mod.kin hK;have hp:(backTo g0 (starEach [a] X.env)).any (·.1)=false:=by rw[hs];rfl
 refine wpAny_Raise_call_subT (nm:=nm) (q:=qn) (N:=N) (bs:=bs) (hdct:=cU) (sn:=sn) (sub:=sub) (ab:=ab) (col:=col) (dd:=dd) (k0:=k0) (k1:=k1) (k2:=k2) (k3:=k3) (k5:=k5) PySem.F.excBase_ValueError (h4.hasType (by decide)) (I.ok.hd hc) hp h3 (mY I hg hm ⟨rfl,?_⟩ hd);rw[hs];refine BL (yi (thn (ha pins s σ H _ I h) fun u s1 ⟨v,H1,I1,r1,q1⟩=>yj ⟨rfl,(show 1<=sizeLine by decide),I1.bk _ _ h1,h2.keeps I1.bk,h4.keeps I1.bk,fun h' e mk=>xk.made I1 mk q1⟩))
end
theorem oh{a b:Int}{t u:Nat}{c:fW}: ∀l:List Value,TriplesOk l->TriplesOk (l++[.int a t,.int b u,c])
 |[],_=>trivial
 | .int _ _:: .int _ _::_::gE,h=>oh gE h
theorem rT{a b:Int}{t u:Nat}{pos:Pos}{c cv:fW}: ∀l:List Value,TriplesOk l->codeAmong pos (l++[.int a t,.int b u,c])=some cv->codeAmong pos l=some cv\/cv=c
 |[],_,h=>by
  simp only[List.nil_append,codeAmong] at h;split at h
  ·exact .inr (iG h).symm
  ·cases h
 | .int i _:: .int j _::d::gE,h0,h=>by
  simp only[List.cons_append,codeAmong] at h ⊢;split at h
  ·rename_i q;rw[gh q];exact .inl h
  ·rename_i q;rw[gk q];exact rT gE h0 h
structure LamAt(q:Str)(params:Arguments)(body:fV)(scope:gF)(b8:iw)(H:Hp)(h:fZ)(fl:fM):Prop where
 fn: ∃pm c' q9,h.get? fl=some (kla_obj "<lambda>" q params body scope b8 pm c' q9)/\ ∃ob u vs t,H c'=some (.frz ob u)/\ob.data= .fields vs/\vs[1]?=some (.str q t)
 un:H fl=none
section
variable {X:Cx}{pins:gq}{σ:St}{H:Hp}{s:fQ}{P c:fM}{params:Arguments}{body:fV}{scope:gF}{b8:iw}{pos:Pos}
theorem F8{h:fZ}{a:fM}(e:h.objs.size<=a):h.get? a=none:=by
 cases q:h.get? a with
 |none=>rfl
 |some o=>exact absurd (gZ q) (FP.mpr e)
theorem Dv{M:Model}{A:gc}{E:gw}{Q:gw}(I:Inv X pins σ H s){more:jR}(hP:H P=some (.tbl (#[.str (X.env.qual++"<lambda>") 0]++more)))(hc:X.env.code= .ref c)(C:CodeHd X.base c P)(hB:X.base.BuiltinsAt X.mg P)(eQ:mainGlobals≠P)
  (aj:closureFor scope X.env=pure b8)(aW:defaultsOf params X.env=([],[]))
  (k: ∀s1 H1 fl,Inv X pins σ H1 s1->(∀b o,H b=some o->H1 b=some o)->LamAt (X.env.qual++"<lambda>") params body scope b8 H1 s1.heap fl->(∀b o,s.heap.get? b=some o->H b=none->s1.heap.get? b=some o)->(∀b o,s.heap.get? b=some o->H b=none->H1 b=none)->s.heap.get? fl=none->Q (.ref fl) s1):
  wpAny M A (eval (.Lambda params body scope pos) X.env) Q E s:=by
 refine kla_eval aW ?_;obtain⟨qq,tq,ps,dM,hPo,ht,hm⟩:=(show ObjOk X.prog X.w H s.heap P (.tbl (#[.str (X.env.qual++"<lambda>") 0]++more)) from I.hok P _ hP)
 have hqq:qq=X.env.qual++"<lambda>":=by
  rw[Array.getElem?_append_left (by simp)] at dM;simp at dM;exact dM.1.symm
 subst hqq;have s9:s.heap.BuiltinsAt X.mg P:=let⟨bm,o,h1,h2,h3,h4,h5,h6⟩:=hB;⟨bm,o,h1,h2,h3,h4,I.bk _ _ h5,h6⟩
 have hg:s.heap.Ns mainGlobals X.mg:=I.ok.mod.glob.keeps I.bk
 cases hf:codeAmong pos ps.toList with
 |some cv=>
  refine kla_makeFunctionHit aj I.ok.glob hg hc (C.keeps I.bk) hPo ht hf s9 fun q9 h' tk kp sz=>?_;obtain⟨c',ob,u,vs,t,rfl,h2,h3,h4⟩:=hm pos cv hf;have bz: ∀b o,s.heap.get? b=some o->(h'.push (kla_obj "<lambda>" (X.env.qual++"<lambda>") params body scope b8 ((X.mg "__name__").getD .none) c' q9)).get? b=some o:=fun b o e=>hW _ (kp b o e);exact k _ H _ (I.kept (t':=tk) bz) (fun _ _ e=>e) ⟨⟨_,c',q9,iY _ rfl,ob,u,vs,t,h2,h3,h4⟩,I.hok.fresh sz⟩ (fun b o e _=>bz b o e) (fun _ _ _ n=>n) (F8 sz)
 |none=>
  refine kla_makeFunction aj I.ok.glob hg hc (C.keeps I.bk) hPo ht hf eQ s9 fun c' q9 h' tk ex c1 c2 cr tb=>?_;obtain⟨c0,oc,vs,t,ec,dh,cU,hq⟩:=cr;cases ec;have nc:H c'=none:=I.hok.fresh c1;have kp: ∀b o,b≠P->s.heap.get? b=some o->(h'.push (kla_obj "<lambda>" (X.env.qual++"<lambda>") params body scope b8 ((X.mg "__name__").getD .none) c' q9)).get? b=some o:=fun b o n e=>hW _ (ex b o n e);have up: ∀b o,H b=some o->upd H c' (.frz oc (.own 0)) b=some o:=fun b o e=>by rw[gu (iC e nc)];exact e
  have nP: ∀b,H b=none->b≠P:=fun b n z=>by rw[z,hP] at n;cases n
  have h'P:=hW (kla_obj "<lambda>" (X.env.qual++"<lambda>") params body scope b8 ((X.mg "__name__").getD .none) c' q9) tb
  have un:Un (frs X.stack) [] H (upd H c' (.frz oc (.own 0))) s.heap (h'.push (kla_obj "<lambda>" (X.env.qual++"<lambda>") params body scope b8 ((X.mg "__name__").getD .none) c' q9)):=
   ⟨fun b o e n _ _=>kp b o (nP b n) e,fun b o e n _ _=>⟨o.slots,kp b o (nP b n) e⟩,fun b o e n _=>by rw[gu (ig (jS (gZ e) c1))];exact n,fun b o e _=>by
    by_cases z:b=P
    ·subst z;exact⟨_,h'P⟩
    ·exact⟨o,kp b o z e⟩,fun b xs e=>up b _ e,fun b o xs e=>up b _ e,fun b ps e=>⟨#[],by rw[up b _ e];simp⟩⟩
  have hok:HOk X.prog X.w (upd H c' (.frz oc (.own 0))) (h'.push (kla_obj "<lambda>" (X.env.qual++"<lambda>") params body scope b8 ((X.mg "__name__").getD .none) c' q9)):=fun b u e=>by
   by_cases hb:b=c'
   ·subst hb;rw[gA] at e;cases e;exact⟨hW _ dh,⟨oc,hW _ dh⟩⟩
   ·rw[gu hb] at e;by_cases hbP:b=P
    ·subst hbP;rw[hP] at e;cases e;refine⟨_,tq,_,dM,h'P,?_,fun pos' cv z=>?_⟩
     ·rw[Br];exact oh _ ht
     ·rw[Br] at z;rcases rT _ ht z with z|z
      ·obtain⟨c2,ob,u,vs,t,r1,r2,r3,r4⟩:=hm pos' cv z;exact⟨c2,ob,u,vs,t,r1,up _ _ r2,r3,r4⟩
      ·exact⟨c',oc,_,vs,t,z,gA,cU,hq⟩
    ·refine(I.hok b u e).stay (fun d w hd q=>kp d w (fun z=>?_) q) (fun d q=>up d _ q) (fun d xs q=>up d _ q) fun d _ _ q=>up d _ q;subst z;rcases hd with z|z
     ·exact hbP z.symm
     ·rw[hP] at z;cases z
  have I1:Inv X pins σ (upd H c' (.frz oc (.own 0))) {s with heap:=h'.push (kla_obj "<lambda>" (X.env.qual++"<lambda>") params body scope b8 ((X.mg "__name__").getD .none) c' q9),toks:=tk}:=I.call (g':=s.gens) (d':=s.drawn) (t':=tk) un hok I.bare fun b hb=>absurd hb (by simp);refine k _ _ _ I1 up ⟨⟨_,c',q9,iY _ rfl,oc,_,vs,t,gA,cU,hq⟩,?_⟩ (fun b o e n=>kp b o (nP b n) e) (fun b o e n=>un.free b o e n (by simp)) (F8 (qt (ub c1 c2)));rw[gu (kx c2)];exact I.hok.fresh (qt (ub c1 c2))
end
def rM(q:Str)(scope:gF)(L fl:fM)(cd:fW)(b8:iw):Env:=
 newEnv scope L mainGlobals b8 (q++".<locals>.") (some fl) cd none builtinsNs
def mJ(CX:CXT)(P:gi)(w:gd)(K:Frag)(mg:iF)(base:fZ)(N:gf)(q:Str)(scope:gF)(fl:fM)(cd:fW)(b8:iw)(A:gc)(outer:List Env)(s:fQ)(H:Hp)(E:XK):Cx where
 prog:=P
 w:=w
 K:=K
 mg:=mg
 base:=base
 A:=A.deeper (rM q scope s.heap.objs.size fl cd b8)
 N:=N
 s₀:=s
 H₀:=H
 env:=rM q scope s.heap.objs.size fl cd b8
 outer:=outer
 stack:=rM q scope s.heap.objs.size fl cd b8::outer
 ex:=[]
 calm:=true
 fn:=fun _=>false
 pn:=[]
 xe:=fun e s'=>wpAny (model P w) (A.deeper (rM q scope s.heap.objs.size fl cd b8)) (leaving (rM q scope s.heap.objs.size fl cd b8) e) (fun _ y9=>CX outer H s E e y9) (fun e' y9=>CX outer H s E e' y9) s'
structure LamScope(scope:gF):Prop where
 kind:scope.kind= .function
 co:scope.isCoroutine=false
 gen:scope.isGenerator=false
 cell: ∀y∈scope.names,y.2≠ .cell
structure LamCells(N:gf)(scope:gF)(b8:iw)(σ:St)(H:Hp)(h:fZ):Prop where
 inj: ∀x y c,b8.lookup x=some c->b8.lookup y=some c->x=y
 has: ∀x,scope.names.lookup x=some .free-> ∃c,b8.lookup x=some c
 cell: ∀x c,b8.lookup x=some c->(∃v,h.IsCell c v)/\H c=none
 val: ∀(i:Nat) (x:Str) (v:V),N[i]?=some x->σ[i]?=some (some v)->scope.names.lookup x=some .free/\ ∃c u,b8.lookup x=some c/\h.IsCell c (some u)/\RelV v u
 len:σ.length=N.length
section
variable {CX:CXT}{P:gi}{w:gd}{K:Frag}{mg:iF}{base:fZ}{N:gf}{q:Str}{scope:gF}{fl:fM}{cd:fW}{b8:iw}{A:gc}{outer:List Env}{s:fQ}{H:Hp}{E:XK}{σ:St}
theorem Fq(S:LamScope scope)(hd:A.handled=none)(e0:Env0 P w K mg base A outer s H)(C:LamCells N scope b8 σ H s.heap){h1:fZ}{t1:Nat}(bj:h1.Ns s.heap.objs.size (fun _=>none))(hk: ∀b o,s.heap.get? b=some o->h1.get? b=some o):
  Inv (mJ CX P w K mg base N q scope fl cd b8 A outer s H E) [] σ H {s with heap:=h1,toks:=t1}:=by
 have bh: ∀b:Addr,b∉(mJ CX P w K mg base N q scope fl cd b8 A outer s H E).ex:=fun b z=>absurd (show b∈([]:List Addr) from z) (by simp)
 refine⟨⟨e0.mod,S.kind,rfl,rfl,gO _,C.inj,fun y hy=>?_,fun y c z _=>absurd z (by simp[mJ]),fun _=>hd,BV e0.frames,.inr ⟨rfl,rfl⟩,fun b z=>absurd z (bh b),e0.bs,e0.bsz,fun b _ _=>bh b,fun b z=>absurd z (bh b),e0.funs,e0.frf⟩,
  rfl,e0.bare,Un.kept hk,⟨_,bj,fun i y v h1 h2 _=>?_⟩,fun y c h=>?_,e0.hok.fresh (gO _),fun y c h=>(C.cell y c h).2,fun p hp=>absurd (show p∈([]:List (Addr×Obj)) from hp) (by simp),e0.hok.kept hk,C.len⟩
 ·have hy:scope.names.lookup y=some .cell\/scope.names.lookup y=some .free:=hy;rcases hy with hy|hy
  ·exact absurd rfl (S.cell _ (lh hy))
  ·exact C.has y hy
 ·obtain⟨hf,c,u,hc,j6,r⟩:=C.val i y v h1 h2;exact⟨u,r,.inr ⟨.inr hf,c,hc,j6.keeps hk⟩⟩
 ·obtain⟨⟨v,hv⟩,_⟩:=C.cell y c h;exact⟨v,hv.keeps hk⟩
theorem Fm{params:Arguments}{body:fV}{k:Nat}{t:TE}{Q:VK}(S:LamScope scope)(hr:Room (k+1) A)(e0:Env0 P w K mg base A outer s H)(C:LamCells N scope b8 σ H s.heap)(L:LamAt q params body scope b8 H s.heap fl)
  (o9: ∀pm c' q9,bindArgs (kla_fn "<lambda>" q params body scope b8 pm (.ref c') q9) ⟨[],[]⟩=pure [])
  (hb: ∀c':Addr,Room k (A.deeper (rM q scope s.heap.objs.size fl (.ref c') b8))->PE (mJ CX P w K mg base N q scope fl (.ref c') b8 A outer s H E) body t)(ht:t σ H Q):
  codeAny (model P w) A (.call (.ref fl) ⟨[],[]⟩) (CR CX outer P w H s Q E) s:=by
 obtain⟨pm,c',q9,ho,ob,u,vs,tk,h1,h2,h3⟩:=L.fn;have n6:s.heap.CodeRec (.ref c') q:=⟨c',ob,vs,tk,rfl,(e0.hok c' _ h1).1,h2,h3⟩
 have lim:s.heap.NoLimit:=e0.mod.nolimit.keeps fun b o e=>(e0.bs b o e).1;refine kla_callFunE hr.depth ho rfl S.co S.gen rfl n6 ?_;rw[o9];refine gv (wpAny_newFunctionEnv S.cell (by intro y hy;simp at hy) (fun h₁ bj bB=>⟨lim.fresh _ bB,?_⟩) S.kind);show codeAny _ _ (.expr body (rM q scope s.heap.objs.size fl (.ref c') b8)) _ _;have hk₁: ∀b o,s.heap.get? b=some o->h₁.get? b=some o:=fun b o e=>bB.extBut b o (ig (gZ e)) (hW _ e);have I:=Fq (CX:=CX) (q:=q) (fl:=fl) (cd:= .ref c') (E:=E) (t1:=s.toks+([]:List (Str×Value)).length) S hr.hd e0 C (by simpa using bj) hk₁;refine kla_codeExpr (ky (hb c' (hr.deeper _) [] _ σ H Q I ht) (fun v s' hs=>?_) fun e s' hs=>hs);obtain⟨x,H',J,rv,qq⟩:=hs;exact⟨x,H',J.os,J.bare,J.base,J.hok,rv,qq⟩
end
open PySem.Calls Builtin Builtin.ObjectAttr Builtin.Getset_descriptor
structure ExcK(K:Frag)(C:fM):Prop where
 ga:findIn K (.ref C) "__getattribute__"=some (some (.builtin "BaseException.__getattribute__"))
 gb:findIn K (.ref C) "__getattr__"=some none
 mrB:mroIn K C (.type "BaseException")=some true
 dct:hasDictIn K C=true
 fnd:findIn K (.ref C) "__class__"=some (some (.builtin "object.__class__"))
 spc:specialIn K (.builtin "object.__class__") "__get__"=some (some (.builtin "getset_descriptor.__get__"))
 tks:takesIn K (.builtin "object.__class__")=some true
 mro:mroIn K C (.type "object")=some true
section
variable {K:Frag}{C x:fM}{o:Obj}
theorem DH{M:Model}{h:fZ}(Z:ExcK K C)(X:K.In h):Looks M h (find (.ref x) (.ref C) "__class__") (.bind (.builtin "getset_descriptor.__get__") (.builtin "object.__class__")):=by
 have L3:=looks_takesIn (M:=M) X Z.tks;exact(looks_findIn X Z.fnd).andThen ((show Looks M h (getOf (some (.builtin "object.__class__"))) _ from looks_specialIn X Z.spc).andThen ((show Looks M h (dataDescriptor? (some (.builtin "object.__class__")) (some (.builtin "getset_descriptor.__get__"))) (some (.builtin "getset_descriptor.__get__",.builtin "object.__class__")) from L3.andThen .now).andThen (Looks.tag .now)))
theorem Dw(Z:ExcK K C)(hc:o.cls= .ref C):KitX K (.ref x) (.ref C) fun h=>h.get? x=some o:=by
 have ty: ∀(M:Model) (h:fZ),h.get? x=some o->Looks M h (typeOf (.ref x)) (.ref C):=fun M h e=>hc▸(Looks.ld e).andThen .now;obtain⟨cdD,fk,_⟩:=any_some Z.dct;unfold clsIn at fk;split at fk
 case h_2=>cases fk
 rename_i c' d' cd' dA ho;refine⟨fun M h _ e=>ty M h e,fun M h X _=>?_,fun h tp dd b6 n sl X aS=>?_,fun {prog w A E Q s} X e k=>?_⟩
 ·intro A' Q' E' s' kk q;unfold isType loadHead;exact fU (wpAny_loadPart (kk _ _ (X _ _ ho)) (gv q))
 ·refine Bool.eq_false_iff.mpr fun q=>?_;have e:C=tp:=Value.ref.inj (FV.mp q);subst e;have z:=(X _ _ ho).symm.trans aS;cases z
 ·obtain⟨hh,g,d,t,os⟩:=s;have T0:=ty (model prog w) hh e;have G0:=looks_findIn (M:=model prog w) X Z.ga;have G1:=looks_findIn (M:=model prog w) X Z.gb;have F0:=DH (x:=x) (M:=model prog w) Z X;have M0:=looks_mroIn (M:=model prog w) X Z.mro;unfold getAttr? getAttrBy? getAttrBy;refine fU (wpAny_mkText (fU (qi (nA (fU (T0.at (fU (G0.at ?_))))))));have MB:=looks_mroIn (M:=model prog w) X Z.mrB;have hx2:(Value.builtin "BaseException.__getattribute__"==Value.builtin "object.__getattribute__")=false:=by decide+kernel
  show wpAny _ _ (if onTheHeap (Value.ref C)&&Value.builtin "BaseException.__getattribute__"==Value.builtin "object.__getattribute__" then _ else getAttrByItsOwn _ _ _ _ _ _) _ _ _;rw[gk (by rw[hx2];simp)];unfold getAttrByItsOwn;refine fU ((show Looks _ _ (hookBefore (.ref C)) none from G1).at (fU (qi (nA ?_))));show wpAny _ _ (boundAndCalled (.builtin "BaseException.__getattribute__") (.ref x) (.str "__class__" _)) _ _ _;unfold boundAndCalled;rw[show bindSpecial (.builtin "BaseException.__getattribute__") (.ref x)=pure (.builtin "BaseException.__getattribute__",[.ref x]) from Ih.ga.bind _];refine fU (gv (uw (Bp Ih.ga.plain F.entry_bexc_ga ?_)));have hk:builtinKind "BaseException.__getattribute__"=some .slot:=by decide+kernel
  have hsplit:splitId "BaseException.__getattribute__"=some ("BaseException","__getattribute__"):=by decide+kernel
  have ha:=F.args_bexc_ga (.ref x) (.str "__class__" t);simp only[checkBuiltinCall,hk,hsplit];refine fU ?_;unfold isInstance
  repeat lk
  refine wpAny_run (h:=none) (c:= .call (.builtin "getset_descriptor.__get__") ⟨[.builtin "object.__class__",.ref x,.ref C],[]⟩) ?_;refine Bp KF.slot_gs.plain KF.entry_gs (KF.slot_gs.check _ _ _ _ _ _ _ _ (show Shared.TypeIs _ (.builtin "object.__class__") "getset_descriptor" from KF.type_class) (KF.args_gs _ _ _) ?_);unfold Builtin.«getset_descriptor.__get__» descrGet;rw[dga_obj];refine fU (gv ?_);unfold descrGetter descrCheckInstance descrNameAndClass isInstance;simp only[KF.owner_class]
  repeat lk
  refine⟨Code.quiet_builtin _ (by decide+kernel),uo KF.entry_class ?_⟩;unfold Builtin.«object.__class__» shownTypeOf
  repeat lk
  exact k
end
section
variable {X:Cx}{pins:gq}{σ σ':St}{H:Hp}{s:fQ}{a:fM}{o:Obj}{h':fZ}
theorem Inv.track(I:Inv X pins σ H s)(hn:H a=none)(h0:X.s₀.heap.get? a=none)(ha:s.heap.get? a=some o)(hc: ∀v,o.data≠ .cell v)(hl:a≠X.env.locals)(hp: ∀p∈X.pn++pins,p.1≠a):Inv X pins σ (upd H a (.frz o (.own 0))) s:=by
 have up: ∀b u,H b=some u->upd H a (.frz o (.own 0)) b=some u:=fun b u e=>by rw[gu (iC e hn)];exact e
 refine⟨I.ok,I.os,I.bare,⟨I.base.keep,I.base.slot,fun b ob e n hx=>?_,I.base.there,fun b xs e=>up _ _ (I.base.tups b xs e),fun b ob u e=>up _ _ (I.base.frzs b ob u e),fun b ps e=>?_⟩,I.loc,I.cell,?_,fun x c hx=>?_,fun p hm=>?_,fun b u e=>?_,I.len⟩
 ·rw[gu (fun z=>by subst z;rw[h0] at e;cases e)];exact I.base.free b ob e n hx
 ·obtain⟨m,e1⟩:=I.base.tbls b ps e;exact⟨m,up _ _ e1⟩
 ·rw[gu (ll hl)];exact I.free
 ·rw[gu (fun z=>?_)];exact I.freeC x c hx;obtain⟨v,ob,e1,e2⟩:=I.cell x c hx;subst z;rw[ha] at e1;cases e1;exact hc v e2
 ·obtain⟨e1,e2,e3⟩:=I.pin p hm;exact⟨e1,by rw[gu (hp p hm)];exact e2,e3⟩
 ·by_cases hb:b=a
  ·subst hb;rw[gA] at e;cases e;exact⟨ha,⟨o,ha⟩⟩
  ·rw[gu hb] at e;exact(I.hok b u e).stay (fun _ _ _ q=>q) (fun c q=>up c _ q) (fun c xs q=>up c _ q) fun c _ _ q=>up c _ q
theorem Inv.names(I:Inv X pins σ H s){t':Nat}(hs:Heap.SameBut X.env.locals s.heap h')(hl:σ'.length=σ.length)(w: ∀(i:Nat) v,σ'[i]?=some (some v)->σ[i]?=some (some v))
  (hm: ∀m,s.heap.Ns X.env.locals m-> ∃m',h'.Ns X.env.locals m'/\ ∀(i:Nat) x v,X.N[i]?=some x->σ'[i]?=some (some v)->m' x=m x):Inv X pins σ' H {s with heap:=h',toks:=t'}:=by
 obtain⟨m,hn,hl'⟩:=id I.loc;obtain⟨m',cA,hmm⟩:=hm m hn;have oth: ∀b ob,b≠X.env.locals->s.heap.get? b=some ob->h'.get? b=some ob:=fun b ob n e=>(hs.2 b n).trans e;have nl: ∀{b ob},X.s₀.heap.get? b=some ob->b≠X.env.locals:=fun e=>ig (jS (gZ e) I.ok.above);refine⟨I.ok,I.os,I.bare,⟨fun b ob e n hb hx=>oth b ob (nl e) (I.base.keep b ob e n hb hx),fun b ob e n hb hx=>?_,I.base.free,fun b ob e hx=>?_,I.base.tups,I.base.frzs,I.base.tbls⟩,⟨m',cA,fun i x v e1 e2 e3=>?_⟩,fun x c e=>?_,I.free,I.freeC,fun p hp=>?_,fun b u e=>?_,hl.trans I.len⟩
 ·obtain⟨sl,e1⟩:=I.base.slot b ob e n hb hx;exact⟨sl,oth b _ (nl e) e1⟩
 ·obtain⟨o',e1⟩:=I.base.there b ob e hx;exact⟨o',oth b _ (nl e) e1⟩
 ·obtain⟨u,r,q⟩:=hl' i x v e1 (w i v e2) e3;refine⟨u,r,?_⟩;rcases q with⟨k,z⟩|⟨k,c,z,y⟩
  ·exact .inl ⟨k,(hmm i x v e1 e2).trans z⟩
  ·exact .inr ⟨k,c,z,y.sameBut hs (I.cne x c z)⟩
 ·obtain⟨v,z⟩:=I.cell x c e;exact⟨v,z.sameBut hs (I.cne x c e)⟩
 ·obtain⟨e,n,ne,nf,d⟩:=I.pin p hp;exact⟨oth _ _ ne e,n,ne,nf,d⟩
 ·refine(I.hok b u e).stay (fun c v hc q=>oth c v (fun z=>?_) q) (fun _ q=>q) fun _ _ q=>q;subst z;rcases hc with z|z
  ·subst z;rw[I.free] at e;cases e
  ·rw[I.free] at z;cases z
def Cx.mark(X:Cx)(e:fW)(E:gw):Cx:={X with A:=X.A.mark (some e),calm:=false,xe:=E}
theorem Inv.mark(I:Inv X pins σ H s)(e:fW)(E:gw):Inv (X.mark e E) pins σ H s:=
 ⟨⟨I.ok.mod,I.ok.kind,I.ok.glob,I.ok.blt,I.ok.above,I.ok.inj,I.ok.has,I.ok.cab,(fun z=>by cases z),I.ok.frames,I.ok.stk,I.ok.exf,I.ok.bs,I.ok.bsz,I.ok.noex,I.ok.exfs,I.ok.funs,I.ok.frf⟩,I.os,I.bare,I.base,I.loc,I.cell,I.free,I.freeC,I.pin,I.hok,I.len⟩
theorem Inv.unmark{e:fW}{E:gw}(I:Inv (X.mark e E) pins σ H s)(hd:X.calm=true->X.A.handled=none):Inv X pins σ H s:=
 ⟨⟨I.ok.mod,I.ok.kind,I.ok.glob,I.ok.blt,I.ok.above,I.ok.inj,I.ok.has,I.ok.cab,hd,I.ok.frames,I.ok.stk,I.ok.exf,I.ok.bs,I.ok.bsz,I.ok.noex,I.ok.exfs,I.ok.funs,I.ok.frf⟩,I.os,I.bare,I.base,I.loc,I.cell,I.free,I.freeC,I.pin,I.hok,I.len⟩
end
theorem ObjOk.there{P:gi}{w:gd}{H:Hp}{h:fZ}{a:fM}{o:HO}(x:ObjOk P w H h a o): ∃ob,h.get? a=some ob:=by
 cases o with
 |lst xs=>obtain⟨_,_,_,_,e⟩:=x;exact⟨_,e⟩
 |tup xs=>obtain⟨_,_,_,ob,e,_⟩:=x;exact⟨_,e⟩
 |dK l3=>obtain⟨_,_,_,_,o,_,_,e,_⟩:=x;exact⟨_,e⟩
 |dT l3=>obtain⟨_,_,_,_,o,_,_,e,_⟩:=x;exact⟨_,e⟩
 |set S n=>obtain⟨o,_,_,_,e,_⟩:=x;exact⟨_,e⟩
 |stt zs=>obtain⟨_,_,_,e,_⟩:=x;exact⟨_,e⟩
 |ins C dx fs=>obtain⟨_,_,_,e,_⟩:=x;exact⟨_,e⟩
 |own y=>exact x
 |xd fs=>obtain⟨_,⟨_,_,_,e,_⟩,_⟩:=x;exact⟨_,e⟩
 |rng lo hi=>obtain⟨_,_,_,e⟩:=x;exact⟨_,e⟩
 |frz ob u=>exact⟨_,x.1⟩
 |tbl ps=>obtain⟨_,_,_,_,e,_⟩:=x;exact⟨_,e⟩
 |met f y=>exact⟨_,x⟩
 |ext φ=>exact x.2.1
section
variable {X:Cx}{pins:gq}{σ:St}{H H':Hp}{s s':fQ}{C ea:fM}{h0 B h':fZ}{F:ic}{a0:fW}
theorem Fly.inv(I:Inv X pins σ H s)(f:Fly X.prog X.w X.stack H s C H' ea s' h0 B F)(hB:B.StaysIn h')(hu:h0.UpToSlots h'):Inv X pins σ H' {s' with heap:=h'}:=by
 obtain⟨un,hok⟩:=f.end I.frsOk hB hu;exact I.call' (s':={s' with heap:=h'}) f.os un hok f.bare fun b hb=>absurd hb (by simp)
theorem Fly.fresh(I:Inv X pins σ H s)(hex:X.ex=[])(f:Fly X.prog X.w X.stack H s C H' ea s' h0 B F):H' ea=none/\X.s₀.heap.get? ea=none/\s.heap.get? ea=none:=by
 have hs:s.heap.get? ea=none:=by
  cases e:s.heap.get? ea with
  |none=>rfl
  |some o=>
   obtain⟨o',e'⟩:=f.un.there ea o e (by simp);rw[f.ne] at e';cases e'
 refine⟨?_,?_,hs⟩
 ·cases e:H' ea with
  |none=>rfl
  |some o=>
   obtain⟨ob,z⟩:=(f.hok ea o e).there;rw[f.ne] at z;cases z
 ·cases e:X.s₀.heap.get? ea with
  |none=>rfl
  |some o=>
   obtain⟨o',e'⟩:=I.base.there ea o e (by rw[hex];simp);rw[hs] at e';cases e'
theorem KO{E:XK}{e:fW}{xr xx xn:Str}{CR:fM}{i j:Nat}{D:Ends}{p4 p5 p6 p7 p8:Pos}(x8:X.stack=X.env::X.outer)(du:X.env.frame=some X.env.locals)(hex:X.ex=[])(I:Inv X pins σ H s)(h:CXx X.prog X.w X.stack H s E e s')
  (hg:Gl X xr)(hm:X.mg xr=some (.ref CR))(j4:(xr==("__debug__":Str))=false)(cF: ∀C H',E (.ref C) none H'->exmOne X.K (.ref C) (.ref CR)=some true)
  (hN:X.N.Nodup)(hi:X.N[i]?=some xx)(hj:X.N[j]?=some xn)(l8:i≠j)(lx:X.env.scope.names.lookup xx=some .local)(ln:X.env.scope.names.lookup xn=some .local)(fg:(xn==("__debug__":Str))=false)(fj:(xn==("__classdict__":Str))=false)
  (bA:swapsWith (.Name xn p6) (some (.Name xx p5)) p7.line X.env=pure false)
  (k: ∀C H' ea o,E (.ref C) none H'->H' ea=none->o.cls= .ref C->D.nx ((σ.set j none).set i (some (.ref ea))) (upd H' ea (.frz o (.own 0)))):
  wpAny (model X.prog X.w) X.A (noteFrame e X.env) (fun _ s₂=>wpAny (model X.prog X.w) X.A (setFlight e none) (fun _ s₃=>wpAny (model X.prog X.w) X.A (handleBy e X.env [.ExceptHandler (some (.Name xr p4)) (some xn) [.Assign [.Name xx p5] (.Name xn p6) p7] p8]) (SP X pins D) X.xe s₃) X.xe s₂) X.xe s':=by
 obtain⟨C,H',ea,h0,B,F,rfl,f,q⟩:=h;obtain⟨a0,fl⟩:=f.fl;obtain⟨n1,n2,n3⟩:=f.fresh I hex;rw[x8] at fl;have dP:i<σ.length:=by rw[I.len];exact(pR.mp hi).1
 have eM:j<σ.length:=by rw[I.len];exact(pR.mp hj).1
 have bI:(X.env.scope.kind== .class||(X.env.scope.kind== .module&&X.env.locals !=X.env.globals))=false:=by rw[I.ok.kind];rfl
 refine wpAny_looks_onW (I.ok.frames.trans (by rw[x8])) du fl fun h2 held aq=>?_;refine wpAny_landsW held fun h3 fF bX=>?_;have I3:Inv X pins σ H' {s' with heap:=h3}:=f.inv I fF.1 (f.up.trans (aq.trans bX));obtain⟨ob3,he3,hc3⟩:=fF.there;refine wpAny_handleBy_cons (codeAny_handlers_test ?_) (by intro q;cases q);refine mY (X:=X.mark (.ref ea) fun _ _=>False) (I3.mark _ _) hg hm ?_ j4;refine(exm_one (M:=model X.prog X.w) I3.kIn (hc3▸(Looks.ld he3).andThen .now) (cF C H' q)).here ?_;refine codeAny_handlers_suite_as ?_;obtain⟨g1,g2,g3,g4⟩:=id fF;refine wpAny_setFlight_noneW g1 g3 g4 fun h4 k1 k2 k3 k4=>?_;have up4:h3.UpToSlots h4:=fun b o hb hn=>⟨o.slots,k4 b o hb hn⟩
 have I4:Inv X pins σ H' {s' with heap:=h4}:=f.inv I k1 (f.up.trans (aq.trans (bX.trans up4)));obtain⟨oe,vs,T,oT,ts,he,⟨hcls4,_⟩,hd,_⟩:=id k3
 have I5:Inv X pins σ (upd H' ea (.frz oe (.own 0))) {s' with heap:=h4}:=by
  refine I4.track n1 n2 he (fun v z=>by rw[hd] at z;cases z) (fun z=>?_) (fun p hp z=>?_)
  ·have:=I.lt;obtain⟨m,⟨o,_,_,ho,_⟩,_⟩:=id I.loc;rw[<-z,n3] at ho;cases ho
  ·obtain⟨e1,_⟩:=I.pin p hp;rw[z,n3] at e1;cases e1
 refine mx I5 hN hj (.inl ln) (v:= .ref ea) rfl (fun s6 I6=>?_) (.inr ln);have ps:=fun E0:Value->Shared->Prop=>lu (X:=X.mark (.ref ea) E0) (CS (X:=X.mark (.ref ea) E0) hN hi (.inl lx) (rd (X:=X.mark (.ref ea) E0) hj (.inl ln) fg fj) bA (.inr lx)) (zV (X:=X.mark (.ref ea) E0));refine thn (ps _ pins s6 _ _ {nx:=fun σ7 H7=>σ7=(σ.set j (some (.ref ea))).set i (some (.ref ea))/\H7=upd H' ea (.frz oe (.own 0)),rt:=fun _ _=>False} (I6.mark (.ref ea) _) ⟨.ref ea,by rw[jJ eM],rfl,rfl⟩) fun fl s7 hs=>?_
 cases fl with
 |ret u=>obtain⟨_,_,_,_,_,z⟩:=hs;exact z.elim
 |brk=>obtain⟨_,_,_,z⟩:=hs;exact z.elim
 |cont=>obtain⟨_,_,_,z⟩:=hs;exact z.elim
 |next=>
  obtain⟨σ7,H7,I7,rfl,rfl⟩:=hs;have I7:=I7.unmark I.ok.hd;obtain⟨m,hn,_⟩:=id I7.loc;refine fU (ym (BY ln hn (fun h₁ hn₁ hs₁=>?_) bI));unfold unbindBehindTheSuite;refine sD ?_;unfold unbindName;refine fU (wpAny_point (fU ?_));unfold deleteName;have ln':X.env.kindOf xn=some .local:=ln;simp only[ln',bI];rw[gk (by decide)];refine fU (wpAny_nsDel_keeps hn₁ fun h₂ v₂ hn₂ hs₂=>?_);simp only[gQ,Option.isSome_some,sA,hG,iL];refine gv (wpAny_point ⟨(σ.set j none).set i (some (.ref ea)),_,I7.names (hs₁.trans hs₂) (by simp) (fun l v z=>?_) (fun m0 hm0=>?_),k C H' ea oe q n1 hcls4⟩)
  ·by_cases hl:l=i
   ·subst hl;rw[jJ (by simpa using dP)] at z ⊢;exact z
   ·rw[kz (ll hl)] at z ⊢;by_cases aE:l=j
    ·subst aE;rw[jJ eM] at z;cases z
    ·rw[kz (ll aE)] at z ⊢;exact z
  ·refine⟨_,hn₂,fun l x v e1 e2=>?_⟩
   have hx:x≠xn:=fun z=>by
    subst z;have:=rp hN e1 hj;subst this;rw[kz l8,jJ eM] at e2;cases e2
   simp only[hx,iL];obtain⟨o1,es1,ep1,z1,z2,_,z3⟩:=id hn;obtain⟨o2,es2,ep2,y1,y2,_,y3⟩:=id hm0;rw[z1] at y1;cases y1;rw[z2] at y2;cases y2;exact(z3 x).symm.trans (y3 x)
end
end L2
namespace PX
open PySem PySem.Spec PyProof.Rows L2 PySem.SeqAt PySem.W
abbrev XS:=Dn->Option Str
def tZ(K:fX)(mg:iF)(E:XK)(x:XS):L2.St->Hp->Prop:=fun σ H=> ∃δ T c,ER K H T σ δ/\(∀a,¬OwnA σ δ a)/\x δ=some c/\ ∀H' C,(∀a o,H a=some o->H' a=some o)->mg c=some (.ref C)->E (.ref C) none H'
def PZ(X:Cx)(E:XK)(st:Stmt)(x:XS):Prop:=PS X st fun _=>tZ X.K X.mg E x
def PZs(X:Cx)(E:XK)(st:List Stmt)(x:XS):Prop:=PSs X st fun _=>tZ X.K X.mg E x
def PZE(X:Cx)(E:XK)(e:fV)(x:XS):Prop:=PE X e fun σ H _=>tZ X.K X.mg E x σ H
def spR(K:fX)(mg:iF)(xc:List D->Option Str):Sp:=fun vs H _ E=> ∃T ds c,ER K H T (vs.map some) ((ds.map fun d=>(d,false)).map some)/\xc ds=some c/\ ∀C H',(∀a o,H a=some o->H' a=some o)->mg c=some (.ref C)->E (.ref C) none H'
def xcF(n np:Nat)(x:XS):List D->Option Str:=fun ds=>if ds.length=np/\np<=n then x (((ds.map fun d=>(d,false)).map some)++List.replicate (n-np) none) else none
def pE(xc:List D->Option Str)(fs:List FO):XS:=fun δ=>(gY fs δ).bind fun p=>(hZ p.2 p.1).bind fun args=>if(args.all fun a=>!a.2)=true then xc (args.map (·.1)) else none
def uC(c:Str)(f:F):XS:=fun δ=>(f δ).bind fun _=>some c
def wN(δ:Dn):Bool:=δ.all fun x=>match x with
 |some (_,true)=>false
 |_=>true
def AF(f:FS)(x:XS):XS:=fun δ=>(f δ).bind fun o=>match o with
 | .nx δ1=>if wN δ1=true then x δ1 else none
 |_=>none
def zIf(t:FT)(x y:XS):XS:=fun δ=>(t δ).bind fun p=>if wN p.2=true then(if p.1=true then x p.2 else y p.2) else none
def zOr(x y:XS):XS:=fun δ=>match x δ with
 |some c=>some c
 |none=>y δ
def zNo:XS:=fun _=>none
theorem vh{δ:Dn}(h:wN δ=true)(σ:L2.St)(a:fM): ¬OwnA σ δ a:=fun⟨i,d,h1,_⟩=>by
 have:=vI.mp h _ (qo h1);simp at this
section
variable {X:Cx}{P:gi}{w:gd}{outer:List Env}{H0:Hp}{s0:fQ}{E:XK}{A:gG}{st:Stmt}{v5 a b:List Stmt}{x y:XS}{e:fV}{pos:Pos}
theorem JH:PZs X E v5 zNo:=fun pins s σ H D I h=>by obtain⟨_,_,_,_,_,e,_⟩:=h;cases e
theorem Ii(h1:PZs X E v5 x)(h2:PZs X E v5 y):PZs X E v5 (zOr x y):=fun pins s σ H D I h=>by
 obtain⟨δ,T,c,E0,no,e,k⟩:=h;unfold zOr at e;split at e
 ·rename_i q;cases e;exact h1 pins s σ H D I ⟨δ,T,_,E0,no,q,k⟩
 ·exact h2 pins s σ H D I ⟨δ,T,c,E0,no,e,k⟩
theorem G4:PSs X v5 fun _ _ _=>False:=fun _ _ _ _ _ _ h=>h.elim
theorem qG(h:PZ X E st x):PZs X E (st::v5) x:=PSs.imp' (lu h G4) fun _ _ _ h=>h
theorem Gj{f:FS}(h1:PSX X A (fun _=>True) (fun _=>none) st f)(h2:PZs X E v5 x):PZs X E (st::v5) (AF f x):=PSs.imp' (lu h1 h2) fun D σ H h=>by
 obtain⟨δ,T,c,E0,no,e,k⟩:=h;obtain⟨o,h1,e⟩:=fL e
 cases o with
 |nx δ1=>
  have e:(if wN δ1=true then x δ1 else none)=some c:=e;split at e
  case isFalse=>cases e
  rename_i fz;exact⟨δ,T,_,E0,⟨fun _ _ _=> .inl trivial,fun _ z=>absurd rfl z⟩,h1,fun σ1 H1 S1 E1=>⟨δ1,T,c,E1,vh fz σ1,e,fun H' C kp hm=>k H' C (fun a o q=>kp a o (S1.kp a o q (no a))) hm⟩⟩
 |_=>cases e
theorem D8{z:Str}{C:fM}{a:fV}{fa:F}{np g0:Pos}(xk:XeOk X P w outer H0 s0 E)(hc:X.calm=true)(hK:excIn X.K C veB "ValueError.__new__"=true)(hm:X.mg z=some (.ref C))(hg:Gl X z)(ha:PX X a fa)(hd:(z==("__debug__":Str))=false)
  (hs:starEach [a] X.env=[(false,eval a X.env)]):PZ X E (.Raise (some (.Call (.Name z np) [a] [] g0)) none pos) (uC z fa):=PS.imp' (CV xk hc hK hm hg ha hd hs) fun D σ H h=>by
 obtain⟨δ,T,c,E0,no,e,k⟩:=h;obtain⟨⟨r,δ1⟩,h1,e⟩:=fL e;cases e;exact⟨δ,T,r,δ1,E0,h1,fun v H1 P1=>k H1 C (fun a o q=>P1.1.kp a o q (no a)) hm⟩
theorem JI{c:fV}{ft:FT}(hc:PTX X c ft)(ha:PZs X E a x)(hb:PZs X E b y):PZ X E (.If c a b pos) (zIf ft x y):=PS.imp' (F4 hc ha hb) fun D σ H h=>by
 obtain⟨δ,T,c,E0,no,e,k⟩:=h;obtain⟨⟨t,δ1⟩,h1,e⟩:=fL e;dsimp only at e;split at e
 case isFalse=>cases e
 rename_i fz;refine⟨δ,T,t,δ1,E0,h1,fun H1 K1 E1=>?_⟩;have fin: ∀z:XS,z δ1=some c->tZ X.K X.mg E z σ H1:=fun z hz=>⟨δ1,T,c,E1,vh fz σ,hz,fun H' C kp hm=>k H' C (fun a o q=>kp a o (K1.kp a o q (no a))) hm⟩
 cases t with
 |true=>exact Jb (fin x (by simpa using e))
 |false=>exact Jc (fin y (by simpa using e))
theorem Gk(h:PZE X E e x)(hs:swapsWith e none pos.line X.env=pure false):PZ X E (.Expr e pos) x:=PS.imp' (zW h hs) fun _ _ _ h=>h
variable {k:Nat}{f:fM}{fd:jq}{ps:gf}{xc:List D->Option Str}{es:gX}{fs:List FO}{z:Str}{p:Pos}
theorem Gm(xk:XeOk X P w outer H0 s0 E)(F:FnOk X.prog X.w X.K X.mg X.base (CXx P w) k f fd ps (spR X.K X.mg xc))(hr:Room k X.A)(hg:Gl X z)(hm:X.mg z=some (.ref f))(hk:PySem.W.keepIn X.K (.ref f)=true)(hb:Binds X.K fd ps [])
  (ha:PA X (e::es) (tA X.K fs))(j4:(z==("__debug__":Str))=false)(he:starEach (e::es) X.env=(false,eval e X.env)::starEach es X.env)(i3:(backTo pos (starEach es X.env)).any (·.1)=false):
  PZE X E (.Call (.Name z p) (e::es) [] pos) (pE xc fs):=PE.imp' (Aa F hr hg hm hk hb (.nil) xk.pass ha j4 he i3) fun σ H Q h=>by
 obtain⟨δ,T,c,E0,no,e,kk⟩:=h;obtain⟨⟨os,δ1⟩,h1,e⟩:=fL e;obtain⟨args,h2,e⟩:=fL e;dsimp only at e h2;split at e
 case isFalse=>cases e
 rename_i h3;refine⟨δ,T,os,δ1,E0,h1,fun vs H1 T1 B=>?_⟩;show spR X.K X.mg xc (vs++[]) H1 Q E;rw[pB]
 have hl: ∀a∈args,a=(a.1,false):=fun a ha=>by
  have:=vI.mp h3 a ha;obtain⟨d,f⟩:=a
  cases f with
  |false=>rfl
  |true=>cases this
 have hargs:args=(args.map (·.1)).map fun d=>(d,false):=by
  rw[List.map_map]
  conv=>lhs;rw[<-List.map_id args]
  exact List.map_congr_left fun a ha=>hl a ha
 have nd: ∀(os:List Opd) (as:List (D×Bool)),(∀a∈as,a=(a.1,false))->gn os as=[]:=fun os=>by
  induction os with
  |nil=>intro as _;cases as<;>simp[gn]
  |cons o os ih=>
   intro as h
   cases as with
   |nil=>simp[gn]
   |cons a as=>
    have h0:=h a jm;obtain⟨d,f⟩:=a;cases h0;cases o<;>simp[gn,ih as fun a ha=>h a (iO _ ha)]
 have Ec:=oK E0 B h2 (by rw[nd os args hl];exact si);rw[hargs] at Ec;exact⟨_,args.map (·.1),c,Ec,e,fun C H' kp hc=>kk H' C (fun a o q=>kp a o (B.keep.kp a o q (no a))) hc⟩
end
theorem Ft{P:gi}{w:gd}{K:fX}{mg:iF}{base:fZ}{x qual:Str}{st:Stmt}{f:fM}{fd:jq}{N ps:gf}{k:Nat}{xs:XS}(F:Fun K x qual st f fd)(S:FnScope N ps (fP st))
  (m5: ∀(e6:fW) (A:gc) (outer:List Env) (s:fQ) (H:Hp) (E:XK),Room k (A.deeper (envOfC qual (fP st) s.heap.objs.size f e6))->PZs (kG (CXx P w) P w K mg base N qual (fP st) f e6 A outer s H E) E (iI st) xs):
  FnOk P w K mg base (CXx P w) (k+1) f fd ps (spR K mg (xcF N.length ps.length xs)):=by
 obtain⟨oc,od,kV,doc,pm,an,e6,ct,v7,e,lk,n6⟩:=F.ex;subst e;refine DG lk n6 S (fun vs H Q E h=>?_) fun A outer s H vs Q E hr h=>?_
 ·obtain⟨T,ds,c,E0,e,_⟩:=h;unfold xcF at e;split at e
  case isFalse=>cases e
  rename_i q;have:=E0.len;simp at this;rw[this,q.1]
 ·obtain⟨T,ds,c,E0,e,kk⟩:=h;unfold xcF at e;split at e
  case isFalse=>cases e
  rename_i q;have hl:=E0.len;simp at hl;refine⟨_,m5 e6 A outer s H E hr,((ds.map fun d=>(d,false)).map some)++List.replicate (N.length-ps.length) none,T,c,?_,?_,e,fun H' C kp hm=>kk C H' kp hm⟩
  ·have:=E0.pad (m:=N.length-ps.length);unfold L2.kX;rw[show vs.length=ps.length by rw[hl,q.1]];exact this
  ·refine vh ?_ _;unfold wN;rw[vI];intro z hz;rcases pS.mp hz with hz|hz
   ·obtain⟨p,hp,rfl⟩:=D6.mp hz;obtain⟨d,_,rfl⟩:=D6.mp hp;rfl
   ·rw[(List.mem_replicate.mp hz).2]
end PX
namespace L2
open PySem PySem.Spec PyProof.Rows PySem.W
theorem Jj{CX:CXT}{P:gi}{w:gd}{K:Frag}{mg:iF}{base:fZ}{k:Nat}{f:fM}{name qual:Str}{params:Arguments}{body:List Stmt}{scope:gF}{dV kV doc pm e6 ct oc:fW}{an od:Option Addr}
  {v7:mf}{N ps:gf}{A:gc}{outer:List Env}{s:fQ}{H:Hp}{args:Args}{us:gJ}{vs:List V}{Q:VK}{E:XK}(lk:K.lookup f=some ⟨oc,od,.func (fnOf name qual params body scope dV kV doc pm an e6 ct),v7⟩)(n6:codeIn K e6 qual=true)(S:FnScope N ps scope)
  (hr:Room (k+1) A)(e0:Env0 P w K mg base A outer s H)(hb:BindsTo s (fnOf name qual params body scope dV kV doc pm an e6 ct) args (ps.zip us))(r:Vals vs us)(hl:vs.length=ps.length)
  (m5:Room k (A.deeper (envOfC qual scope s.heap.objs.size f e6))-> ∃t,PSs (kG CX P w K mg base N qual scope f e6 A outer s H E) body t/\t {nx:=fun _ H'=>Q .non H',rt:=Q} (kX N vs) H):
  codeAny (model P w) A (.call (.ref f) args) (CR CX outer P w H s Q E) s:=by
 have KX:K.In s.heap:=e0.mod.kin.keeps fun b o e=>(e0.bs b o e).1;have lim:s.heap.NoLimit:=e0.mod.nolimit.keeps fun b o e=>(e0.bs b o e).1
 have aT: ∀y∈ps.zip us,scope.names.lookup y.1=some .local\/(scope.names.lookup y.1=some .cell/\((cellsFrom (s.heap.objs.size+1) scope.names []).lookup y.1).isSome=true):=fun⟨n,v⟩ hy=>by
  rcases S.par n (uv hy).1 with q|q
  ·exact .inl q
  ·exact .inr ⟨q,cellsFrom_some _ _ _ (.inl q)⟩
 refine BR hr.depth (KX _ _ lk) rfl S.co S.gen rfl (codeRec_of KX n6) (hb _ _ _ _ ?_);refine BQ S.kind aT fun env he s1 x=>?_;subst he;refine⟨lim.keeps x.toInCall.keep,codeAny_func ?_⟩;obtain⟨t,ht,hq⟩:=m5 (hr.deeper _);have I:Inv (kG CX P w K mg base N qual scope f e6 A outer s H E) [] (kX N vs) H s1:=tw S hr.hd e0 hl r x;refine ky (ht [] s1 (kX N vs) H _ I hq) (fun fl s' hs=>?_) fun e s' hs=>hs
 have fin: ∀{σ':St} {H':Hp} {v:V} {u:fW},Inv (kG CX P w K mg base N qual scope f e6 A outer s H E) [] σ' H' s'->RelV v u->Q v H'->CE outer P w H s Q u s':=
  fun {σ' H' v u} J rv q=>⟨v,H',J.os,J.bare,J.base,J.hok,rv,q⟩
 cases fl with
 |ret u=>
  obtain⟨v,σ',H',J,rv,q⟩:=hs;exact fin J rv q
 |next=>
  obtain⟨σ',H',J,q⟩:=hs;exact fin (v:=V.non) (u:=Value.none) J rfl q
 |brk=>
  obtain⟨_,_,_,q⟩:=hs;exact False.elim q
 |cont=>
  obtain⟨_,_,_,q⟩:=hs;exact False.elim q
section
variable {fs:ic}{N:gf}{scope:gF}{b8:iw}{σ:St}{H H':Hp}{h h':fZ}{q:Str}{params:Arguments}{body:fV}{fl:fM}
theorem LamCells.keep(C:LamCells N scope b8 σ H h)(u:Un fs [] H H' h h')(n: ∀x c,b8.lookup x=some c->c∉fs):LamCells N scope b8 σ H' h':=by
 have kp: ∀{x c v},b8.lookup x=some c->h.IsCell c v->h'.IsCell c v:=fun {x c v} e z=>by
  obtain⟨o,e1,e2⟩:=z;exact⟨o,u.keep c o e1 (C.cell x c e).2 (n x c e) (by simp),e2⟩
 refine⟨C.inj,C.has,fun x c e=>?_,fun i x v h1 h2=>?_,C.len⟩
 ·obtain⟨⟨v,o,e1,e2⟩,hn⟩:=C.cell x c e;exact⟨⟨v,kp e ⟨o,e1,e2⟩⟩,u.free c o e1 hn (by simp)⟩
 ·obtain⟨hf,c,w,hc,j6,r⟩:=C.val i x v h1 h2;exact⟨hf,c,w,hc,kp hc j6,r⟩
theorem LamAt.keep(L:LamAt q params body scope b8 H h fl)(u:Un fs [] H H' h h')(n:fl∉fs):LamAt q params body scope b8 H' h' fl:=by
 obtain⟨pm,c',q9,e,ob,w,vs,t,h1,h2⟩:=L.fn;exact⟨⟨pm,c',q9,u.keep fl _ e L.un n (by simp),ob,w,vs,t,u.frzs _ _ _ h1,h2⟩,u.free fl _ e L.un (by simp)⟩
end
section
variable {X:Cx}{N:gf}{scope:gF}{b8:iw}{σl:St}{q:Str}{params:Arguments}{body:fV}{fl:fM}{k:Nat}{t:XK->TE}
structure LamIn(X:Cx)(N:gf)(scope:gF)(b8:iw)(σl:St)(q:Str)(params:Arguments)(body:fV)(fl:fM)(k:Nat)(t:XK->TE):Prop where
 sc:LamScope scope
 cel:LamCells N scope b8 σl X.H₀ X.s₀.heap
 lam:LamAt q params body scope b8 X.H₀ X.s₀.heap fl
 nfl:fl∉X.fs
 ncl: ∀x c,b8.lookup x=some c->c∉X.fs
 bnd: ∀pm c' q9,bindArgs (kla_fn "<lambda>" q params body scope b8 pm (.ref c') q9) ⟨[],[]⟩=pure []
 run: ∀(E:XK) (c':fM) (s:fQ) (H:Hp),Room k (X.A.deeper (rM q scope s.heap.objs.size fl (.ref c') b8))->PE (mJ (CXx X.prog X.w) X.prog X.w X.K X.mg X.base N q scope fl (.ref c') b8 X.A X.stack s H E) body (t E)
theorem G5{xc xr xx xn:Str}{CR:fM}{l i j:Nat}{p1 p2 p3 p4 p5 p6 p7 p8 p9:Pos}(L:LamIn X N scope b8 σl q params body fl k t)(x8:X.stack=X.env::X.outer)(du:X.env.frame=some X.env.locals)(hex:X.ex=[])(hr:Room (k+1) X.A)
  (hc:X.N[l]?=some xc)(vc:Vis X.env.scope xc)(cU:(xc==("__debug__":Str))=false)(dW:(xc==("__classdict__":Str))=false)
  (hsc:swapsWith (.Call (.Name xc p1) [] [] p2) none p3.line X.env=pure false)
  (hg:Gl X xr)(hm:X.mg xr=some (.ref CR))(j4:(xr==("__debug__":Str))=false)
  (hN:X.N.Nodup)(hi:X.N[i]?=some xx)(hj:X.N[j]?=some xn)(l8:i≠j)(lx:X.env.scope.names.lookup xx=some .local)(ln:X.env.scope.names.lookup xn=some .local)(fg:(xn==("__debug__":Str))=false)(fj:(xn==("__classdict__":Str))=false)
  (bA:swapsWith (.Name xn p6) (some (.Name xx p5)) p7.line X.env=pure false):
  PS X (.Try [.Expr (.Call (.Name xc p1) [] [] p2) p3] [.ExceptHandler (some (.Name xr p4)) (some xn) [.Assign [.Name xx p5] (.Name xn p6) p7] p8] [] [] p9)
   (fun D σ H=>σ[l]?=some (some (.ref fl))/\ ∃E:XK,t E σl H (fun _ H'=>D.nx σ H')/\(∀C H',E (.ref C) none H'->exmOne X.K (.ref C) (.ref CR)=some true)/\
    ∀C H' ea o,E (.ref C) none H'->H' ea=none->o.cls= .ref C->D.nx ((σ.set j none).set i (some (.ref ea))) (upd H' ea (.frz o (.own 0)))):=by
 intro pins s σ H D I h;obtain⟨hl,E,ht,cF,hk⟩:=h;have un:Un X.fs [] X.H₀ H X.s₀.heap s.heap:=by have:=I.base;rwa [hex] at this
 have C1:=L.cel.keep un L.ncl;have L1:=L.lam.keep un L.nfl;refine wpAny_Try_except ?_;refine wpAny_execs_cons (wpAny_Expr_any ?_ I.quiet hsc);refine qr ?_;refine ky (rd (X:=X.nox) hc vc cU dW pins s σ H (fun v H'=>v= .ref fl/\H'=H) (I.wish _) ⟨.ref fl,hl,rfl,rfl⟩) (fun f s1 hs=>?_) fun _ _ z=>False.elim z;obtain⟨v,H1,I1,rv,rfl,rfl⟩:=hs;cases rv;have I1:=I1.unwish;have un1:Un X.fs [] X.H₀ H1 X.s₀.heap s1.heap:=by have:=I1.base;rwa [hex] at this
 have C2:=L.cel.keep un1 L.ncl;have L2':=L.lam.keep un1 L.nfl;obtain⟨pm,c',q9,e,_⟩:=id L2'.fn;refine callWith_F0 ⟨_,_,_,_,e⟩ (uw (pA (Fm (CX:=CXx X.prog X.w) (E:=E) (t:=t E) (Q:=fun _ H'=>D.nx σ H') L.sc hr I1.env0 C2 L2' L.bnd (fun c' cP=>L.run E c' s1 H1 cP) ht) fun r s2 hq=>?_))
 cases r with
 |error e=>exact KO x8 du hex I1 hq hg hm j4 cF hN hi hj l8 lx ln fg fj bA hk
 |ok f=>
  cases f with
  |next=>exact False.elim hq
  |brk=>exact False.elim hq
  |cont=>exact False.elim hq
  |ret u=>
   obtain⟨v,H2,I2,_,qq⟩:=I1.after hq;exact uy (uy ⟨σ,H2,I2,qq⟩)
end
end L2
namespace PX
open PySem PySem.Spec PyProof.Rows L2 PySem.SeqAt PySem.W
def sim:D->Bool
 | .non| .bl _| .int _| .str _=>true
 |_=>false
theorem zL{K K':Frag}{H H':Hp}{O O':AP'}{d:D}{v:V}(h:sim d=true)(r:Rep K H O d v):Rep K' H' O' d v:=by
 cases d with
 |non=>rw[Rep] at r ⊢;exact r
 |bl b=>rw[Rep] at r ⊢;exact r
 |int b=>rw[Rep] at r ⊢;exact r
 |str b=>rw[Rep] at r ⊢;exact r
 |_=>cases h
def sT(n i:Nat)(fs:FS)(d:D):Option D:=match fs ((List.replicate n none).set i (some (d,false))) with
 |some (.rt (r,false) _)=>if sim r=true then some r else none
 |_=>none
def DK(caps:gx)(f:F)(x:XS)(n i:Nat)(fs:FS)(CI:Str->Option Nat):F:=fun δ=>(hZ δ (caps.map .slot)).bind fun args=>if(args.all fun a=>!a.2)=true then
  (match f (args.map some) with
   |some _=>sT n i fs .non
   |none=>(x (args.map some)).bind fun c=>(CI c).bind fun C=>sT n i fs (.oth (.exc C) [] [])).bind fun d=>some ((d,false),δ)
 else none
theorem qe{n i:Nat}{d:D}(σ:L2.St)(a:fM): ¬OwnA σ ((List.replicate n none).set i (some (d,false))) a:=fun⟨j,e,h1,_⟩=>by
 by_cases hj:j=i
 ·subst hj;rw[qA] at h1;split at h1
  ·split at h1<;>simp at h1
  ·rename_i z;exact z rfl
 ·rw[kz (ll hj),nY] at h1;split at h1<;>cases h1
theorem HP{K:Frag}{H:Hp}{σ:L2.St}{n i:Nat}{d:D}{v:V}(hl:σ.length=n)(hi:σ[i]?=some (some v))(r:Rep K H (fun _=>False) d v):ER K H (fun _=>False) σ ((List.replicate n none).set i (some (d,false))):=by
 have look: ∀{j:Nat} {e:D} {b:Bool},((List.replicate n none).set i (some (d,false)))[j]?=some (some (e,b))->j=i/\e=d/\b=false:=fun {j e b} h=>by
  by_cases hj:j=i
  ·subst hj;rw[jJ (by rw[BU,<-hl];exact(pR.mp hi).1)] at h;cases h;exact⟨rfl,rfl,rfl⟩
  ·rw[kz (ll hj),nY] at h;split at h<;>cases h
 refine⟨by simp[hl],fun j e h=>?_,fun j e h=>?_,fun j l e g a h=>?_,fun a z=>absurd z (qe σ a),fun _ z=>z.elim⟩
 ·obtain⟨rfl,rfl,_⟩:=look h;exact⟨v,hi,Rep.mono (fun _ _ e _=>e) (fun b _ z=>z.elim (qe σ b) id) r⟩
 ·obtain⟨_,_,z⟩:=look h;cases z
 ·obtain⟨_,_,z⟩:=look h;cases z
structure ClK(K:Frag)(C CR:fM):Prop where
 k:ExcK K C
 ty: ∀n∈["int","bool","str","tuple","list","dict"],kitOne K (.ref C) (.type n)=some false
 up:exmOne K (.ref C) (.ref CR)=some true
theorem Fu{args:List (D×Bool)}(h:(args.all fun a=>!a.2)=true): ∀a∈args,a=(a.1,false):=fun a ha=>by
 have:=vI.mp h a ha;obtain⟨d,f⟩:=a
 cases f with
 |false=>rfl
 |true=>cases this
theorem wO: ∀(os:List Opd) (as:List (D×Bool)),(∀a∈as,a=(a.1,false))->gn os as=[]
 |[],as,_=>by cases as<;>simp[gn]
 |o::os,[],_=>by simp[gn]
 |o::os,a::as,h=>by
  have h0:=h a jm;obtain⟨d,f⟩:=a;cases h0;cases o<;>simp[gn,wO os as fun a ha=>h a (iO _ ha)]
theorem HL{args:List (D×Bool)}(h: ∀a∈args,a=(a.1,false))(σ:L2.St)(a:fM): ¬OwnA σ (args.map some) a:=fun⟨i,d,h1,_⟩=>by
 rw[iN] at h1;obtain⟨p,hp,e⟩:=gD h1;cases e;have:=h _ (qo hp);simp at this
section
variable {X:Cx}
theorem PE.or{e:fV}{t u:TE}(h1:PE X e t)(h2:PE X e u):PE X e fun σ H Q=>t σ H Q\/u σ H Q:=fun pins s σ H Q I h=>h.elim (h1 pins s σ H Q I) (h2 pins s σ H Q I)
theorem DW{T:AP'}{σ:L2.St}{δ:Dn}{H:Hp}{caps:gx}{args:List (D×Bool)}{K:Frag}(E1:ER K H T σ δ)(ha:hZ δ (caps.map .slot)=some args):
  ∃vs:List V,wu caps 0 σ=vs.map some/\Ops K T σ δ H (caps.map Opd.slot) vs δ H T:=by
 obtain⟨hl,hg⟩:=jN ha
 have there: ∀(i j:Nat),caps[i]?=some j-> ∃v,σ[j]?=some (some v):=fun i j hj=>by
  have hi:i<args.length:=by have:=(pR.mp hj).1;simp at hl;omega
  obtain⟨o,q1,q2⟩:=hg i _ (gW hi);rw[iN,hj] at q1;cases q1;have q3:=lA q2;generalize args[i]=y at q3;obtain⟨x,b⟩:=y
  cases b with
  |false=>obtain⟨v,h,_⟩:=E1.val j x q3;exact⟨v,h⟩
  |true=>obtain⟨a,h,_⟩:=E1.own j x q3;exact⟨_,h⟩
 refine⟨caps.map fun j=>((σ[j]?).join).getD .non,?_,by simp,.refl,E1,fun _ z=>z,fun j x v hj=>?_,fun j x v hj=>?_,fun j i v hj hv=>?_⟩
 ·unfold wu;rw[List.replicate_zero,pB];apply qy;intro i;rw[iN,iN,iN]
  cases hj:caps[i]? with
  |none=>rfl
  |some j=>obtain⟨v,hv⟩:=there i j hj;simp[hv]
 ·rw[iN] at hj;obtain⟨_,_,z⟩:=gD hj;cases z
 ·rw[iN] at hj;obtain⟨_,_,z⟩:=gD hj;cases z
 ·rw[iN] at hj;obtain⟨c,hc,z⟩:=gD hj;cases z;obtain⟨v',q2⟩:=there j i hc;rw[iN,hc] at hv;simp[q2] at hv;rw[q2,hv]
end
section
variable {X:Cx}{Pt c:fM}{params:Arguments}{body:fV}{scope:gF}{pos af pf:Pos}{caps:gx}{N' NR:gf}{fB:F}{xB:XS}{aY:FS}{CI:Str->Option Nat}{asg:gx}{st:Stmt}{fr:fM}{cX:jq}{xf xc xr xx xn:Str}{CR:fM}{i j k:Nat}
structure RefBody(X:Cx)(st:Stmt)(NR:gf)(fr:fM)(xf xc xr xx xn:Str)(CR:fM)(i j k:Nat)(asg:gx)(aY:FS):Prop where
 sc:FnScope NR [xc] (fP st)
 as0:0∉asg
 hi:NR[i]?=some xx
 hj:NR[j]?=some xn
 ij:i≠j
 j0:j≠0
 lc:(fP st).names.lookup xc=some .local
 lx:(fP st).names.lookup xx=some .local
 ln:(fP st).names.lookup xn=some .local
 gl:(fP st).names.lookup xr=some .globalImplicit
 mg:X.mg xr=some (.ref CR)
 db:(xc==("__debug__":Str))=false/\(xc==("__classdict__":Str))=false/\(xn==("__debug__":Str))=false/\(xn==("__classdict__":Str))=false/\(xr==("__debug__":Str))=false
 body: ∃p1 p2 p3 p4 p5 p6 p7 p8 p9 S1 gE,iI st=S1:: .Try [.Expr (.Call (.Name xc p1) [] [] p2) p3] [.ExceptHandler (some (.Name xr p4)) (some xn) [.Assign [.Name xx p5] (.Name xn p6) p7] p8] [] [] p9::gE/\
  ∀(e6:fW) (A:gc) (outer:List Env) (s:fQ) (H:Hp) (L:gG),(∀i,L i->i<1)->Room k (A.deeper (envOfC xf (fP st) s.heap.objs.size fr e6))->
   swapsWith (.Call (.Name xc p1) [] [] p2) none p3.line (envOfC xf (fP st) s.heap.objs.size fr e6)=pure false/\swapsWith (.Name xn p6) (some (.Name xx p5)) p7.line (envOfC xf (fP st) s.heap.objs.size fr e6)=pure false/\
   PSX (kG CX0 X.prog X.w X.K X.mg X.base NR xf (fP st) fr e6 A outer s H L2.E0).nox (fun i=>i∈asg) L H S1 (jf i (fC .non))/\vH (kG CX0 X.prog X.w X.K X.mg X.base NR xf (fP st) fr e6 A outer s H L2.E0).nox (fun i=>i∈asg) L H gE aY
theorem GH{more:jR}(R:RefBody X st NR fr xf xc xr xx xn CR i j (k+1) asg aY)(F:Fun X.K xf xf st fr cX)(fm:Binds X.K cX [xc] [])(eO:Gl X xf)(hmf:X.mg xf=some (.ref fr))(cG:(xf==("__debug__":Str))=false)
  (cE: ∀x,X.fn x=true)(hr:Room (k+2) X.A)(hTb:X.H₀ Pt=some (.tbl (#[.str (X.env.qual++"<lambda>") 0]++more)))(n6:X.env.code= .ref c)(C:CodeHd X.base c Pt)(hB:X.base.BuiltinsAt X.mg Pt)(eQ:mainGlobals≠Pt)
  (CO:CompOk X N' scope caps 0)(LS:LamScope scope)(aW:defaultsOf params X.env=([],[]))(o9: ∀b8 pm c' q9,bindArgs (kla_fn "<lambda>" (X.env.qual++"<lambda>") params body scope b8 pm (.ref c') q9) ⟨[],[]⟩=pure [])
  (he:starEach [.Lambda params body scope af] X.env=(false,eval (.Lambda params body scope af) X.env)::starEach [] X.env)(i3:(backTo pos (starEach [] X.env)).any (·.1)=false)
  (fD: ∀z C0,CI z=some C0->X.mg z=some (.ref C0)/\ClK X.K C0 CR)
  (hb: ∀(fl:fM) (b8:iw) (c':fM) (A:gc) (outer:List Env) (s:fQ) (H:Hp) (E:XK),Room k (A.deeper (rM (X.env.qual++"<lambda>") scope s.heap.objs.size fl (.ref c') b8))->
   PX (mJ (CXx X.prog X.w) X.prog X.w X.K X.mg X.base N' (X.env.qual++"<lambda>") scope fl (.ref c') b8 A outer s H E) body fB/\PZE (mJ (CXx X.prog X.w) X.prog X.w X.K X.mg X.base N' (X.env.qual++"<lambda>") scope fl (.ref c') b8 A outer s H E) E body xB):
  PX X (.Call (.Name xf pf) [.Lambda params body scope af] [] pos) (DK caps fB xB NR.length i aY CI):=by
 intro pins s σ H Q I hw;obtain⟨δ,T,r,δ',E1,e,kq⟩:=hw;obtain⟨args,ha,e⟩:=fL e;split at e
 case isFalse=>cases e
 rename_i hfz;have cR:=Fu hfz;obtain⟨d,hd,e⟩:=fL e;obtain⟨rfl,rfl⟩:=fY e;obtain⟨vs,eH,B0⟩:=DW E1 ha;have nd0:=wO (caps.map Opd.slot) args cR;have Ec:=oK E1 B0 ha (by rw[nd0];exact si);obtain⟨aZ,hclo,k8,l6⟩:=nN X.env scope fun x hx hf=>I.ok.has x.1 (CO.free x hx hf);obtain⟨more2,hP⟩:=I.base.tbls Pt _ hTb;rw[uA] at hP;refine qr (mY I eO hmf ?_ cG);refine callWith_K (h₀:=X.base) I.ok.mod.kin F.kp ?_ he i3;rw[he];show wpAny _ _ (spliced ((false,eval (.Lambda params body scope af) X.env)::backTo pos (starEach [] X.env))) _ _ s;refine yi (Dv I hP n6 C hB eQ hclo aW fun s1 H1 fl I1 up L kp fr0 new=>?_);refine yj ⟨I1.kIn,?_⟩
 have nst: ∀x c,aZ.lookup x=some c->c∉frs X.stack:=fun x c e z=>by
  rcases jC.mp (I.stkSub c z) with q|q
  ·exact I.cne x c (k8 x c e) q
  ·obtain⟨_,o,ho,_⟩:=I.ok.funs.mem q;exact absurd (gZ ho) (FP.mpr (I.ok.cab x c (cE x) (k8 x c e)))
 have nfl:fl∉frs X.stack:=fun z=>by
  obtain⟨_,o,ho,_⟩:=I.stack.mem z;rw[new] at ho;cases ho
 have LC:LamCells N' scope aZ (vs.map some) H1 s1.heap:=by
  rw[<-eH];refine⟨fun x y c h1 h2=>I.ok.inj x y c (k8 x c h1) (k8 y c h2),fun x hx=>l6 x (lh hx),fun x c h=>⟨I1.cell x c (k8 x c h),I1.freeC x c (k8 x c h)⟩,fun l x v h1 h2=>?_,CO.sco.len σ⟩;obtain⟨hf,jj,hj,hv⟩:=CO.sco.pre σ l v x h2 h1;refine⟨hf,?_⟩;obtain⟨m,hn,hl⟩:=I1.loc;have n4:=CO.free (x,.free) (lh hf) rfl;obtain⟨u,r,q⟩:=hl jj x v hj hv (by rcases n4 with z|z;exact .inr (.inl z);exact .inr (.inr z));rcases q with⟨cQ,_⟩|⟨_,c,hc,j6⟩
  ·have dO:X.env.scope.names.lookup x=some .local:=cQ;rcases n4 with z|z<;>(have z':X.env.scope.names.lookup x=_:=z;rw[dO] at z';cases z')
  ·obtain⟨c',bU⟩:=l6 x (lh hf);have:=k8 x c' bU;rw[hc] at this;cases this;exact⟨c,u,bU,j6,r⟩
 have noT: ∀(σ:L2.St) (a:fM),¬OwnA σ (args.map some) a:=HL cR;obtain⟨oc,od,kV,doc,pm,an,e6,ct,v7,rfl,lkr,hcdr⟩:=F.ex;have hbt:=fm s1 [.ref fl] I1.kIn rfl;refine thn (uw (pA (Jj (CX:=CX0) (E:=L2.E0) (Q:=fun v H'=>Post X.K T σ δ H (d,false) δ v H') (vs:=[.ref fl]) lkr hcdr R.sc hr I1.env0 hbt (.cons rfl .nil) rfl fun cP=>?_) (R:=L2.CR CX0 X.stack X.prog X.w H1 s1 (fun v H'=>Post X.K T σ δ H (d,false) δ v H') L2.E0) fun rr s2 hq=>?_)) (Q:=EP X pins σ fun v H'=>Post X.K T σ δ H (d,false) δ v H') fun v s2 ⟨x,H2,I2,rx,q⟩=>⟨x,H2,I2,rx,kq x H2 q⟩
 ·obtain⟨p1,p2,p3,p4,p5,p6,p7,p8,p9,S1,gE,bK,hq⟩:=R.body;obtain⟨sw1,sw2,hS1,hRest⟩:=hq e6 X.A X.stack s1 H1 (fun _=>False) (fun _ z=>z.elim) cP
  have nl: ∀{n:Nat} {a:fM} {σ:L2.St},¬OwnA σ (List.replicate n none) a:=fun {n a σ} ⟨l,e,h1,_⟩=>by
   rw[nY] at h1;split at h1<;>cases h1
  have hlen:(L2.kX NR [V.ref fl]).length=NR.length:=by
   have:1<=NR.length:=by
    have:=lS List.length R.sc.pre;rw[qp] at this;simp at this;omega
   unfold L2.kX;simp;omega
  have fin: ∀(z:D) (H2:Hp) (σ2:L2.St) (v0:V),sT NR.length i aY z=some d->(∀a o,H1 a=some o->H2 a=some o)->(∀a,H1 a≠none->H2 a≠none)->σ2.length=NR.length->σ2[i]?=some (some v0)->Rep X.K H2 (fun _=>False) z v0->
    tS X.K (fun i=>i∈asg) (fun _=>False) H1 aY {nx:=fun _ H'=>Post X.K T σ δ H (d,false) δ .non H',rt:=fun v H'=>Post X.K T σ δ H (d,false) δ v H'} σ2 H2:=fun z H2 σ2 v0 ht aq dm2 aE bH rz=>by
   unfold sT at ht;split at ht
   case h_2=>cases ht
   rename_i rr δr hfs;obtain⟨hs,rfl⟩:=gy ht;refine⟨_,fun _=>False,_,HP aE bH rz,⟨fun l a ⟨d,h1,h2⟩=>absurd ⟨l,d,h1,h2⟩ (qe σ2 a),dm2⟩,hfs,fun v σ3 H3 S3 hrv=>?_⟩;have ext: ∀a o,H a=some o->H3 a=some o:=fun a o q=>S3.kp a o (aq a o (up a o q)) (qe σ2 a);exact⟨.ext ext,E1.mono (fun b o q _=>ext b o q) (fun _ _ z=>z) (fun a z=>(E1.dom a z).up (ext a)),zL hs hrv.2⟩
  rw[bK];have Xs:=(kG CX0 X.prog X.w X.K X.mg X.base NR xf (fP st) fr e6 X.A X.stack s1 H1 L2.E0).nox
  have run: ∀(E:XK) (c':fM) (s:fQ) (H:Hp),Room k ((X.A.deeper (envOfC xf (fP st) s1.heap.objs.size fr e6)).deeper (rM (X.env.qual++"<lambda>") scope s.heap.objs.size fl (.ref c') aZ))->
    PE (mJ (CXx X.prog X.w) X.prog X.w X.K X.mg X.base N' (X.env.qual++"<lambda>") scope fl (.ref c') aZ (X.A.deeper (envOfC xf (fP st) s1.heap.objs.size fr e6)) (envOfC xf (fP st) s1.heap.objs.size fr e6::X.stack) s H E) body (fun σ H Q=>tF X.K fB σ H Q\/tZ X.K X.mg E xB σ H):=fun E c' s H hr2=>
   let⟨h1,h2⟩:=hb fl aZ c' _ _ s H E hr2
   PE.or h1 h2
  have LI:LamIn (kG CX0 X.prog X.w X.K X.mg X.base NR xf (fP st) fr e6 X.A X.stack s1 H1 L2.E0).nox N' scope aZ (vs.map some) (X.env.qual++"<lambda>") params body fl k (fun E σ H Q=>tF X.K fB σ H Q\/tZ X.K X.mg E xB σ H):=⟨LS,LC,L,nfl,nst,o9 aZ,run⟩
  have h0:NR[0]?=some xc:=by
   have:=lS (fun l=>l[0]?) R.sc.pre;simpa using this
  have pt:=G5 (p4:=p4) (p8:=p8) (p9:=p9) LI rfl rfl rfl cP h0 (.inl R.lc) R.db.1 R.db.2.1 sw1 R.gl R.mg R.db.2.2.2.2 R.sc.nd R.hi R.hj R.ij R.lx R.ln R.db.2.2.1 R.db.2.2.2.1 sw2;refine⟨_,(lu hS1 (lu pt hRest)).nox,?_⟩;have eN:i<NR.length:=(pR.mp R.hi).1;refine⟨List.replicate NR.length none,fun _=>False,.nx ((List.replicate NR.length none).set i (some (.non,false))),⟨by simp[hlen],fun l d h=>?_,fun l d h=>?_,fun l m d e a h=>?_,fun a z=>absurd z nl,fun _ z=>z.elim⟩,⟨fun l a ⟨d,h1,h2⟩=>absurd ⟨l,d,h1,h2⟩ nl,fun _ z=>z⟩,?_,fun σ1 H2 K1 ER1=>?_⟩
  ·rw[nY] at h;split at h<;>cases h
  ·rw[nY] at h;split at h<;>cases h
  ·rw[nY] at h;split at h<;>cases h
  ·show(if i<(List.replicate NR.length (none:Sl)).length then some (Out.nx _) else none)=_;rw[gh (by simpa using eN)]
  ·have aq: ∀a o,H1 a=some o->H2 a=some o:=fun a o q=>K1.kp a o q nl;have bS:σ1.length=NR.length:=by have:=ER1.len;simpa using this
   have hs0:σ1[0]?=some (some (V.ref fl)):=by
    rw[K1.as 0 R.as0];unfold L2.kX;rfl
   have Ec2:ER X.K H2 (Tc T σ δ vs args) (vs.map some) (args.map some):=Ec.mono (fun b o q _=>aq b o (up b o q)) (fun _ _ z=>z) (fun a z=>(Ec.dom a z).up fun o q=>aq a o (up a o q));split at hd
   ·
    rename_i z hz;refine⟨hs0,fun _ _ _=>False,.inl ⟨_,_,z.1,z.2,Ec2,hz,fun v H3 P3=>?_⟩,fun _ _ z=>z.elim,fun _ _ _ _ z=>z.elim⟩;obtain⟨v0,hv0,cY⟩:=ER1.val i .non (by rw[jJ (by simpa using eN)]);refine fin .non H3 σ1 v0 hd (fun a o q=>P3.1.kp a o (aq a o q) (noT _ a)) (fun a q=>P3.1.dm a (K1.dm a q)) bS hv0 (zL rfl cY)
   ·
    obtain⟨cn,hx,hd⟩:=fL hd;obtain⟨C0,hC0,hd⟩:=fL hd;obtain⟨hmC,ck⟩:=fD cn C0 hC0;refine⟨hs0,fun cls _ H'=>cls= .ref C0/\ ∀a o,H2 a=some o->H' a=some o,.inr ⟨_,_,cn,Ec2,noT _,hx,fun H' C' dF hm'=>?_⟩,fun C' H' ⟨q,_⟩=>?_,fun C' H' ea o ⟨q,dF⟩ hn ho=>?_⟩
    ·rw[hmC] at hm';cases hm';exact⟨rfl,dF⟩
    ·cases q;exact ck.up
    ·cases q;have bX: ∀a o',H' a=some o'->upd H' ea (.frz o (.own 0)) a=some o':=fun a o' q=>by rw[gu (iC q hn)];exact q
     refine fin (.oth (.exc C0) [] []) _ _ (.ref ea) hd (fun a o' q=>bX a o' (dF a o' (aq a o' q))) (fun a q=>?_) (by simp[bS]) (by rw[jJ (by simpa[bS] using eN)]) (Rep.mkOth (us:=[]) (fun z=>z) ⟨⟨rfl,rfl,rfl⟩,o,gA,ho,fun a=>Dw ck.k ho,ck.ty⟩ RepL.nil)
     cases hh:H1 a with
     |none=>exact absurd hh q
     |some o'=>rw[bX a o' (dF a o' (aq a o' hh))];simp
 ·cases rr with
  |error e=>exact False.elim hq
  |ok f=>
   cases f with
   |ret u=>exact I1.after hq
   |_=>exact False.elim hq
end
def iD:D->Int
 | .int i=>i
 |_=>0
def HI:D->Option (D×Bool)
 | .lst l=>if l.all isI=true then some (.int (preSum (fun j=>iD (l.getD j .non)) l.length),false) else none
 |_=>none
theorem rF: ∀{vs:gJ} {ns:nQ},IntsAre vs ns-> ∃xs:List (Int×Tok),vs=xs.map (fun p=>Value.int p.1 p.2)/\ns=xs.map (·.1)
 |_,_,.nil=>⟨[],rfl,rfl⟩
 |_,_,.cons n t r=>let⟨xs,h1,h2⟩:=rF r;⟨(n,t)::xs,by rw[h1];rfl,by rw[h2];rfl⟩
theorem pI{f g:Nat->Int}: ∀n,(∀j,j<n->f j=g j)->preSum f n=preSum g n
 |0,_=>rfl
 |n+1,h=>by rw[preSum,preSum,pI n fun j hj=>h j (by omega),h n (by omega)]
section
variable {X:Cx}
theorem Bh(hc:X.calm=true):iP X (.builtin "sum") (rDn X.K (g1 HI)):=oZ fun pins s σ H x u Q O d z I ru np hd hg G=>by
 cases d with
 |lst l=>
  obtain⟨hI,rfl⟩:=gy hg;obtain⟨p,xs,rfl,q,r⟩:=jc hd;cases ru;obtain⟨b6,v,pl,_⟩:=I.list q;obtain⟨ns,hl,hn⟩:=IC hI r v;obtain⟨ys,e1,e2⟩:=rF hn;have hh:X.A.handled=none:=I.ok.hd hc
  have il:s.heap.IsList p (intItems ys.toArray):=by
   have:=pl.isList;rw[e1] at this;simpa[intItems] using this
  refine sum_intListG hh il fun h' tk t' kp=>?_;refine⟨.int (preSum (fun j=>iD (l.getD j .non)) l.length),H,I.kept (t':=tk) kp,⟨t',?_⟩,G.int⟩;have:l.length=ys.length:=by rw[hl,e2];simp
  rw[this,iA]
  congr 1
  refine pI _ fun j hj=>?_;rw[hl,e2];simp[numAt,iD,List.getD_eq_getElem?_getD,hj]
 |_=>cases hg
def HM(l:List D):Option Nat:=(kS l).bind fun bs=>bs.findIdx? id
def Fx(i:Nat):F:=fun δ=>match δ[i]? with
 |some (some (.lst l,true))=>(HM l).bind fun j=>if l.length<=1000 then some ((.int j,false),δ) else none
 |_=>none
def KN(x:V)(vs:List V)(H:Hp)(Q:VK):Prop:= ∃(l:fM) (xs:List V) (bs:List Bool) (j:Nat),x= .ref l/\vs=[.bl true]/\H l=some (.lst xs)/\xs=bs.map V.bl/\bs.findIdx? id=some j/\bs.length<=1000/\Q (.int j) H
theorem zB: ∀{bs:List Bool} {b6:gJ},Vals (bs.map V.bl) b6->b6=bs.map Value.bool
 |[],_,.nil=>rfl
 |b::bs,_,.cons r t=>by cases r;rw[zB t];rfl
theorem Ds:MtM X "list.index" KN:=by
 intro pins s σ H x vs v us Q I rx rv h;obtain⟨l,xs,bs,j,rfl,rfl,hH,rfl,hj,hl,q⟩:=h;cases rx;obtain⟨u,rfl,ru⟩:=rv.one;cases ru;obtain⟨z,b6,n,r,hlen,e⟩:=I.lstM hH;have hb:=zB r;subst hb;obtain⟨h1,h2,h3⟩:=List.findIdx?_eq_some_iff_getElem.mp hj
 refine call_meets F.slot_list_index ⟨_,e,rfl⟩ F.entry_list_index (F.args_list_index_2 _ _)
  (list_indexAt l (bs.map Value.bool).toArray n none #[] (.bool true) (fun y=>match y with| .bool b=>b|_=>false) j (by simpa using h1) (by omega) (by simpa using h2) (fun m hm y6=>?_)) ⟨e,fun y hy=>?_,⟨.int j,H,I.tok _,⟨_,rfl⟩,q⟩⟩
 ·have:=h3 m y6;simpa using this
 ·obtain⟨b,_,rfl⟩:=D6.mp (List.mem_toArray.mp hy);have:=EqAt.bool_bool (A:=X.A.in1) (s:=s) b true;cases b<;>simpa using this
variable {pos e9 apos g0 p2:Pos}{i:Nat}{x:Str}{kk:Nat}
theorem zS{K:fX}{H:Hp}{O:AP'}: ∀{l:List D} {bs:List Bool} {xs:List V},kS l=some bs->RepL K H O l xs->xs=bs.map V.bl
 |[],bs,xs,h,r=>by cases h;rw[RepL] at r;exact r
 | .bl b::l,bs,xs,h,r=>by
  obtain⟨bs',h1,rfl⟩:=gD h;rw[RepL] at r;obtain⟨v,r',rfl,q1,q2⟩:=r;rw[q1.bl,zS h1 q2];rfl
theorem tM: ∀{l:List D} {bs:List Bool},kS l=some bs->bs.length=l.length
 |[],_,h=>by cases h;rfl
 | .bl b::l,_,h=>by obtain⟨bs',h1,rfl⟩:=gD h;simp[tM h1]
theorem CH(hv:PO X (.Name x e9) (fR i))(m6:attributeBase (.Name x e9) "index" X.env (eval (.Name x e9) X.env)=eval (.Name x e9) X.env)
  (u5:((backTo g0 (starEach [.Constant (.bool true) kk p2] X.env)).all (fun x=>!x.1)&&(backToKw g0 (keywordEach [] X.env)).all (fun x=>x.1.isSome)&&decide ([Expr.Constant (.bool true) kk p2].length+([]:List Keyword).length+(if([]:List Keyword).isEmpty then 0 else 1)<30))=true)
  (m4:(apos.endLine==g0.line)=true)(hs:starEach [.Constant (.bool true) kk p2] X.env=(false,eval (.Constant (.bool true) kk p2) X.env)::starEach [] X.env)(k6:(backTo g0 (starEach [] X.env)).any (·.1)=false):
  PX X (.Call (.Attribute (.Name x e9) "index" apos) [.Constant (.bool true) kk p2] [] g0) (Fx i):=
 PX.imp (F6 BG PySem.F.slot_list_index PySem.F.type_list_index Ds hv (jg F3 lK hs) m6 u5 m4 hs k6) fun σ H Q hw=>by
 obtain⟨δ,T,rr,δ',E,e,k⟩:=hw;unfold Fx at e;split at e
 ·rename_i l h0;obtain⟨j,hj,e⟩:=fL e;obtain⟨bs,hb,hj⟩:=fL hj;obtain⟨hl,e⟩:=gy e;obtain⟨rfl,rfl⟩:=nU e;refine⟨δ,T,.slot i,δ,E,by unfold fR;rw[h0],fun v H1 P=>?_⟩;obtain⟨K1,E1,hσ⟩:=P;obtain⟨a,g1,ei,g2,g3⟩:=E1.own i _ h0;rw[hσ] at g1;cases g1;refine⟨.inl ⟨rfl,ei,SqL.of g2⟩,δ,T,_,δ,E1,rfl,fun y H2 P2=>?_⟩;obtain⟨E2,ry⟩:=P2.rep E1;have hy:=ry.bl;subst hy;obtain⟨a',q1,xs,q2,q3⟩:=E2.own i _ h0;rw[hσ] at q1;cases q1;refine⟨_,xs,bs,j,rfl,rfl,q2,zS hb q3,hj,by rw[tM hb];exact hl,?_⟩;exact k _ _ (Post.val (K1.trans P2.1) E2 Rep.mkInt)
 ·cases e
end
def pX(CL:gx)(D0:Nat):D->Option (D×Bool)
 | .oth (.exc C) _ _=>if CL.contains C=true then some (.bl (C==D0),false) else none
 |_=>none
def HJ(CL:gx):D->Option (D×Bool)
 | .oth (.exc C) _ _=>if CL.contains C=true then some (.bl true,false) else none
 |_=>none
section
variable {X:Cx}{e:fV}{fa:FO}{pos p p2:Pos}{z:Str}{CL:gx}{D0:Nat}
theorem HH{g:D->Option (D×Bool)}{u2:fW}{w2:V}(hw:RelV w2 u2)(hu: ∀u',RelV w2 u'->u'=u2)(hg: ∀d zz,g d=some zz-> ∃C b ks vs,d= .oth (.exc C) ks vs/\zz=(.bl b,false)/\kitOne X.K (.ref C) u2=some b):
  iP X (.builtin "isinstance") (fun xs H Q=> ∃(O:AP') (d:D) (x:V) (b:Bool),xs=[x,w2]/\ik X.K H O d x/\g d=some (.bl b,false)/\Q (.bl b) H):=by
 intro pins s σ H xs us Q I r h;obtain⟨O,d,x,b,rfl,hd,hgd,q⟩:=h;obtain⟨u,w',rfl,ru,aJ⟩:=pF r;have:=hu _ aJ;subst this;obtain⟨C,b',ks,vs,rfl,e1,hk⟩:=hg _ _ hgd;cases e1;obtain⟨a,us,rfl,oth,_⟩:=qO hd;cases ru;obtain⟨_,o,e,h1,h2,h3⟩:=oth;exact kia_one (h2 a) I.kIn (show ObjOk X.prog X.w H s.heap a (.frz o (.own 0)) from I.hok a _ e).1 hk (fun z=>nomatch z) fun tk=>⟨.bl _,H,I.tok _,rfl,q⟩
theorem zT{g:D->Option (D×Bool)}{w2:V}{u2:fW}{e2:fV}(ha:PO X e fa)(h2:PE X e2 (tC w2))(hw:RelV w2 u2)(hu: ∀u',RelV w2 u'->u'=u2)(hg: ∀d zz,g d=some zz-> ∃C b ks vs,d= .oth (.exc C) ks vs/\zz=(.bl b,false)/\kitOne X.K (.ref C) u2=some b)
  (dr:Gl X "isinstance")(hm:X.mg "isinstance"=none)(hv:bootBuiltins "isinstance"=some (.builtin "isinstance"))(s1:starEach [e,e2] X.env=(false,eval e X.env)::starEach [e2] X.env)(s2:starEach [e2] X.env=(false,eval e2 X.env)::starEach [] X.env)(i3:(backTo pos (starEach [e2] X.env)).any (·.1)=false):
  PX X (.Call (.Name "isinstance" p) [e,e2] [] pos) (iV g fa):=by
 refine PX.imp (ou (HH (X:=X) hw hu hg) dr hm hv (jg ha (jg h2 lK s2) s1) (by decide) (by decide) s1 i3) fun σ H Q hw=>?_;obtain⟨δ,T,rr,δ',E,e,k⟩:=hw;obtain⟨⟨o,δ1⟩,h1,e⟩:=fL e;obtain⟨x,h2,e⟩:=fL e;obtain⟨zz,h3,e⟩:=fL e;obtain⟨rfl,rfl⟩:=fY e;obtain⟨C,b,ks,vs,rfl,rfl,hk⟩:=hg _ _ h3;refine⟨δ,T,o,δ1,E,h1,fun v H1 P1=>?_⟩;have B:=Ops.cons E P1 (Ops.nil (P1.er E));exact⟨_,_,v,b,rfl,B.view (j:=0) rfl rfl h2,h3,(B.done k).bl⟩
structure ClT(K:Frag)(mg:iF)(CL:gx)(D0:Nat)(z:Str):Prop where
 mg:mg z=some (.ref D0)
 is: ∀C∈CL,kitOne K (.ref C) (.ref D0)=some (C==D0)
theorem xE(T:Tx X.mg)(c:ClT X.K X.mg CL D0 z)(ha:QO X e fa)(dr:Gl X "isinstance":=by rfl)(aU:Gl X z:=by rfl)(j4:DB z:=by decide)(s1:starEach [e,.Name z p2] X.env=(false,eval e X.env)::starEach [.Name z p2] X.env:=by rfl)(s2:SE X (.Name z p2) []:=by rfl)(i3:BA X pos [.Name z p2]:=by rfl):
  QX X (.Call (.Name "isinstance" p) [e,.Name z p2] [] pos) (iV (pX CL D0) fa):=⟨zT (w2:= .ref D0) ha.h (zZ aU c.mg rfl j4) rfl (fun u h=>by cases h;rfl) (fun d zz h=>by
 unfold pX at h;split at h
 ·rename_i C ks vs;obtain⟨hc,rfl⟩:=gy h;exact⟨C,_,ks,vs,rfl,rfl,c.is C (by simpa using hc)⟩
 ·cases h) dr T.n_isinstance jQ s1 s2 i3⟩
theorem xEV(T:Tx X.mg)(dq:X.mg "ValueError"=none)(hk: ∀C∈CL,kitOne X.K (.ref C) (.type "ValueError")=some true)(ha:QO X e fa)(dr:Gl X "isinstance":=by rfl)(aU:Gl X "ValueError":=by rfl)(s1:starEach [e,.Name "ValueError" p2] X.env=(false,eval e X.env)::starEach [.Name "ValueError" p2] X.env:=by rfl)(s2:SE X (.Name "ValueError" p2) []:=by rfl)(i3:BA X pos [.Name "ValueError" p2]:=by rfl):
  QX X (.Call (.Name "isinstance" p) [e,.Name "ValueError" p2] [] pos) (iV (HJ CL) fa):=⟨zT (w2:= .ty "ValueError") ha.h (qc (v:= .ty "ValueError") aU dq (by decide+kernel) rfl (by decide) (by decide)) rfl (fun u h=>by cases h;rfl) (fun d zz h=>by
 unfold HJ at h;split at h
 ·rename_i C ks vs;obtain⟨hc,rfl⟩:=gy h;exact⟨C,_,ks,vs,rfl,rfl,hk C (by simpa using hc)⟩
 ·cases h) dr T.n_isinstance jQ s1 s2 i3⟩
variable {x:Str}{i kk:Nat}{e9 apos:Pos}{a:fV}{f:F}
theorem JM(hv:QO X (.Name x e9) (fR i))(m6:attributeBase (.Name x e9) "index" X.env (eval (.Name x e9) X.env)=eval (.Name x e9) X.env:=by rfl)
  (u5:((backTo pos (starEach [.Constant (.bool true) kk p2] X.env)).all (fun x=>!x.1)&&(backToKw pos (keywordEach [] X.env)).all (fun x=>x.1.isSome)&&decide ([Expr.Constant (.bool true) kk p2].length+([]:List Keyword).length+(if([]:List Keyword).isEmpty then 0 else 1)<30))=true:=by rfl)
  (m4:(apos.endLine==pos.line)=true:=by rfl)(hs:SE X (.Constant (.bool true) kk p2) []:=by rfl)(k6:BA X pos []:=by rfl):QX X (.Call (.Attribute (.Name x e9) "index" apos) [.Constant (.bool true) kk p2] [] pos) (Fx i):=⟨CH hv.h m6 u5 m4 hs k6⟩
end
def Oy(Z:ZZ)(k:Nat)(x:Str)(ps:gf)(xc:List D->Option Str):Prop:= ∃f fd,FnOk Z.P Z.w Z.K Z.mg Z.base (CXx Z.P Z.w) k f fd ps (spR Z.K Z.mg xc)/\Z.mg x=some (.ref f)/\keepIn Z.K (.ref f)=true/\Binds Z.K fd ps []
theorem Oy.up{Z:ZZ}{k j:Nat}{x:Str}{ps:gf}{xc:List D->Option Str}(o:Oy Z k x ps xc)(h:k<=j:=by decide):Oy Z j x ps xc:=let⟨f,fd,a,b⟩:=o;⟨f,fd,a.mono h,b⟩
theorem oyB{Z:ZZ}{k:Nat}{x:Str}{st:Stmt}{N ps:gf}{xs:XS}(a:Fz Z.K Z.mg x st)(S:FnScope N ps (fP st))(b:BdA x st ps)
  (hb: ∀(f:fM) (e6:fW) (A:gc) (outer:List Env) (s:fQ) (H:Hp) (E:XK),Room k (A.deeper (envOfC x (fP st) s.heap.objs.size f e6))->un (A.deeper (envOfC x (fP st) s.heap.objs.size f e6)) 60->un (A.deeper (envOfC x (fP st) s.heap.objs.size f e6)) 1->un (A.deeper (envOfC x (fP st) s.heap.objs.size f e6)) 62->N.Nodup->
   PZs (kG (CXx Z.P Z.w) Z.P Z.w Z.K Z.mg Z.base N x (fP st) f e6 A outer s H E) E (iI st) xs):Oy Z (k+1) x ps (xcF N.length ps.length xs):=
 let⟨f,fd,m,F⟩:=a
 ⟨f,fd,Ft F S fun e6 A outer s H E hr=>by
  have:=hr.un;exact hb f e6 A outer s H E hr (by unfold un;omega) (by unfold un;omega) (by unfold un;omega) S.nd,m,F.kp,F.binds b⟩
def ClX(Z:ZZ)(z:Str):Prop:= ∃C,Z.mg z=some (.ref C)/\excIn Z.K C veB "ValueError.__new__"=true
section
variable {X:Cx}{P:gi}{w:gd}{outer:List Env}{H0:Hp}{s0:fQ}{E:XK}{A:gG}{st:Stmt}{v5 b:List Stmt}{x y:XS}{e:fV}{pos p g0:Pos}{f:FS}{z:Str}{a:fV}{fa:F}{k:Nat}{ps:gf}{xc:List D->Option Str}{es:gX}{fs:List FO}{ft:FT}{c:fV}
theorem zN(h1:QS X A (fun _=>True) (fun _=>none) st f)(h2:PZs X E v5 x):PZs X E (st::v5) (AF f x):=Gj h1.h h2
theorem zR(xk:XeOk X P w outer H0 s0 E)(c:ClX (zX X) z)(ha:QX X a fa)(hc:X.calm=true:=by rfl)(hg:Gl X z:=by rfl)(hd:DB z:=by decide)(hs:starEach [a] X.env=[(false,eval a X.env)]:=by rfl):PZ X E (.Raise (some (.Call (.Name z p) [a] [] g0)) none pos) (uC z fa):=
 let⟨_,hm,hK⟩:=c;D8 xk hc hK hm hg ha.h hd hs
theorem zI(hc:QT X c ft)(ha:PZs X E v5 x):PZ X E (.If c v5 b pos) (zIf ft x zNo):=JI hc.h ha JH
theorem zC(xk:XeOk X P w outer H0 s0 E)(O:Oy (zX X) k z ps xc)(hr:Room k X.A)(ha:QA X (e::es) fs)(hg:Gl X z:=by rfl)(j4:DB z:=by decide)(he:SE X e es:=by rfl)(i3:BA X pos es:=by rfl)(hp:X.prog=P:=by rfl)(hw:X.w=w:=by rfl):PZE X E (.Call (.Name z p) (e::es) [] pos) (pE xc fs):=by
 subst hp;subst hw;obtain⟨f,fd,F,hm,hk,hb⟩:=O;exact Gm xk F hr hg hm hk hb ha.h j4 he i3
theorem zE(h:PZE X E e x)(hs:swapsWith e none pos.line X.env=pure false:=by rfl):PZ X E (.Expr e pos) x:=Gk h hs
end
theorem Cc{P:gi}{w:gd}{K:Frag}{mg:iF}{base:fZ}{N:gf}{q:Str}{scope:gF}{fl:fM}{cd:fW}{b8:iw}{A:gc}{outer:List Env}{s:fQ}{H:Hp}{E:XK}:
  XeOk (mJ (CXx P w) P w K mg base N q scope fl cd b8 A outer s H E) P w outer H s E:=⟨rfl,rfl,rfl,rfl,rfl,rfl,rfl,rfl,fun _ _ h=>h⟩
def FL(q:Str)(Pt:fM)(H:Hp):Prop:= ∃more,H Pt=some (.tbl (#[.str q 0]++more))
def spT(TB:List (Addr×Str))(sp:Sp):Sp:=fun vs H Q E=>(∀p∈TB,FL p.2 p.1 H)/\sp vs H Q E
structure TabX(X:Cx)(Pt:fM):Prop where
 t:FL (X.env.qual++"<lambda>") Pt X.H₀
 c: ∃c,X.env.code= .ref c/\CodeHd X.base c Pt
 b:X.base.BuiltinsAt X.mg Pt
 g:mainGlobals≠Pt
def Rf(Z:ZZ)(st:Stmt)(NR:gf)(xf xc xr xx xn:Str)(i j k:Nat)(asg:gx)(aY:FS)(CI:Str->Option Nat):Prop:=
 ∃fr cX CR,Fun Z.K xf xf st fr cX/\Binds Z.K cX [xc] []/\Z.mg xf=some (.ref fr)/\(∀X:Cx,zX X=Z->RefBody X st NR fr xf xc xr xx xn CR i j (k+1) asg aY)/\ ∀z C0,CI z=some C0->Z.mg z=some (.ref C0)/\ClK Z.K C0 CR
def yU(scope:gF):Bool:=decide (scope.kind= .function)&&!scope.isCoroutine&&!scope.isGenerator&&(scope.names.all fun y=>y.2 != .cell)
theorem IZ{scope:gF}(h:yU scope=true):LamScope scope:=by
 unfold yU at h;simp only[kv,vI,decide_eq_true_eq,sx,bne_iff_ne] at h;exact⟨h.1.1.1,h.1.1.2,h.1.2,h.2⟩
theorem xRf{X:Cx}{Pt:fM}{params:Arguments}{body:fV}{scope:gF}{pos af pf:Pos}{caps:gx}{N' NR:gf}{fB:F}{xB:XS}{aY:FS}{CI:Str->Option Nat}{asg:gx}{st:Stmt}{xf xc xr xx xn:Str}{i j k:Nat}
  (R:Rf (zX X) st NR xf xc xr xx xn i j k asg aY CI)(tb:TabX X Pt)(hr:Room (k+2) X.A)(CO:CompOk X N' scope caps 0)(LS:yU scope=true)
  (hb: ∀(fl:fM) (b8:iw) (c':fM) (A:gc) (outer:List Env) (s:fQ) (H:Hp) (E:XK),Room k (A.deeper (rM (X.env.qual++"<lambda>") scope s.heap.objs.size fl (.ref c') b8))->
   QX (mJ (CXx X.prog X.w) X.prog X.w X.K X.mg X.base N' (X.env.qual++"<lambda>") scope fl (.ref c') b8 A outer s H E) body fB/\PZE (mJ (CXx X.prog X.w) X.prog X.w X.K X.mg X.base N' (X.env.qual++"<lambda>") scope fl (.ref c') b8 A outer s H E) E body xB)
  (eO:Gl X xf:=by rfl)(cG:DB xf:=by decide)(cE: ∀x,X.fn x=true:=by exact fun _=>rfl)(aW:defaultsOf params X.env=([],[]):=by rfl)(o9: ∀b8 pm c' q9,bindArgs (kla_fn "<lambda>" (X.env.qual++"<lambda>") params body scope b8 pm (.ref c') q9) ⟨[],[]⟩=pure []:=by exact fun _ _ _ _=>rfl)
  (he:SE X (.Lambda params body scope af) []:=by rfl)(i3:BA X pos []:=by rfl):
  QX X (.Call (.Name xf pf) [.Lambda params body scope af] [] pos) (DK caps fB xB NR.length i aY CI):=by
 obtain⟨fr,cX,CR,F,fm,hm,hR,fD⟩:=R;obtain⟨more,ht⟩:=tb.t;obtain⟨c,hc,hC⟩:=tb.c;exact⟨GH (hR X rfl) F fm eO hm cG cE hr ht hc hC tb.b tb.g CO (IZ LS) aW o9 he i3 fD fun fl b8 c' A outer s H E cP=>let⟨a,b⟩:=hb fl b8 c' A outer s H E cP;⟨a.h,b⟩⟩
theorem walkT{l:OpenLaw}{q:gi}{loose:gf}{XP:(Str->Option Value)->Heap->Prop}{YP:World->Heap->Prop}{d:DefRec}{K:Params->Frag}{LV:Nat}{x:Str}{ev:EvF}{TB:List (Addr×Str)}(hk:Room LV callerA)(hn:l.most=some 63)(cG:d.params.defaults=[])(hY: ∀(w:gd) (h:fZ),YP w h->(K w.params).In h)
  (hYT: ∀(w:gd) (h:fZ),YP w h-> ∀p∈TB,h.get? p.1=some (tabObj #[]))(dZ: ∀(w:gd),∀p∈TB,(K w.params).lookup p.1=none)(dw:(TB.map (·.1)).Nodup)
  (F: ∀(w:gd) (mg:iF) (fa:fM) (h:fZ),(K w.params).In h->h.Ns mainGlobals mg->mg d.name=some (.ref fa)-> ∃fd:FuncData,(∀(s:fQ) (u:fW),BindsTo s fd ⟨[u],[]⟩ [(x,u)])/\(∀p∈TB,∃c,codeHdIn (K w.params) c p.1=true)/\ ∀base:Heap,(K w.params).In base->base.Ns mainGlobals mg->(∀p∈TB,base.BuiltinsAt mg p.1)->FnOk l.prog w (K w.params) mg base CX0 LV fa fd [x] (spT TB (spF (K w.params) ev)))
  (M: ∀ns:List Int,ns.length<=63-> ∃o outs,ev [(.lst (ns.map .int),false)]=some ((.bl true,o),outs)):WalkO q loose XP YP l.row.toRowW d [] (fun f vs=>PySem.call f vs):=by
 refine Att.FH hn cG fun w s₀ s₁ mg mb fa o pm cd doc a vs ns G Y ho hd n6 hmg cz hints hlen hg=>?_;have KX:=hY w _ Y;obtain⟨fd,hb,dY,hF⟩:=F w mg fa _ KX G.T.g hmg;have hT:=hYT w _ Y;refine A7 (TB:=TB) KX G.T.g G.T.b G.T.builtins G.T.nolimit hg hT (dZ w) (fun p hp=>?_) dw (fun p hp=>?_) cz hints (lT hlen (by decide)) hk hF hb (fun H hO hS=>?_) fun H e s' z=>z
 ·obtain⟨c,hc⟩:=dY p hp;obtain⟨o,vs,_,_,_,_,_,_,_,e1,e2,e3,e4,_⟩:=codeHd_of_K KX hc;exact⟨c,o,vs,e1,e2,e3,e4⟩
 ·obtain⟨bm,ob,h1,h2,h3,h4,h5,h6⟩:=G.T.bmain;refine⟨bm,ob,h1,h2,fun z=>?_,fun z=>?_,h3,h4,h5,h6⟩
  ·obtain⟨o',es,ep,e,dd,_⟩:=G.T.g;rw[z,e] at h3;cases h3;rw[dd] at h6;cases h6
  ·rw[z,hT p hp] at h3;cases h3;cases h6
 ·obtain⟨o,outs,e⟩:=M ns hlen;exact⟨fun p hp=>⟨#[],by rw[hO.all p hp];rfl⟩,Fl hO.all hS e⟩
def HZ(TB:List (Addr×Str))(H:Hp):Prop:= ∀p∈TB,FL p.2 p.1 H
theorem fnU{Z:ZZ}{k:Nat}{x:Str}{st:Stmt}{N ps:gf}{asg:gx}{fs:FS}{f:fM}{fd:jq}{TB:List (Addr×Str)}(F:Fun Z.K x x st f fd)(S:FnScope N ps (fP st))
  (hb: ∀(e6:fW) (A:gc) (outer:List Env) (s:fQ) (H:Hp) (E:XK) (L:gG),(∀i,L i->i<ps.length)->Room k (A.deeper (envOfC x (fP st) s.heap.objs.size f e6))->
   un (A.deeper (envOfC x (fP st) s.heap.objs.size f e6)) 60->un (A.deeper (envOfC x (fP st) s.heap.objs.size f e6)) 1->un (A.deeper (envOfC x (fP st) s.heap.objs.size f e6)) 62->un (A.deeper (envOfC x (fP st) s.heap.objs.size f e6)) 90->N.Nodup->
   e6=fd.code->HZ TB H->QQ (kG CX0 Z.P Z.w Z.K Z.mg Z.base N x (fP st) f e6 A outer s H E).nox (fun i=>i∈asg) L H (iI st) fs):
  FnOk Z.P Z.w Z.K Z.mg Z.base CX0 (k+1) f fd ps (spT TB (spF Z.K (evF N.length ps.length asg fs))):=by
 obtain⟨oc,od,kV,doc,pm,an,e6,ct,v7,rfl,lk,n6⟩:=F.ex;refine DG lk n6 S (fun vs H Q E h=>zK h.2) fun A outer s H vs Q E hr h=>?_;obtain⟨L,h1,h2⟩:=Cu h.2;have:=hr.un;exact⟨_,((hb e6 A outer s H E L h1 hr (by unfold un;omega) (by unfold un;omega) (by unfold un;omega) (by unfold un;omega) S.nd rfl h.1).h).nox,h2⟩
def OzT(Z:ZZ)(TB:List (Addr×Str))(k:Nat)(x:Str)(ps:gf)(ev:EvF):Prop:= ∃f fd,FnOk Z.P Z.w Z.K Z.mg Z.base CX0 k f fd ps (spT TB (spF Z.K ev))/\Z.mg x=some (.ref f)/\keepIn Z.K (.ref f)=true/\Binds Z.K fd ps []
theorem OzT.up{Z:ZZ}{TB:List (Addr×Str)}{k j:Nat}{x:Str}{ps:gf}{ev:EvF}(o:OzT Z TB k x ps ev)(h:k<=j:=by decide):OzT Z TB j x ps ev:=let⟨f,fd,a,b⟩:=o;⟨f,fd,a.mono h,b⟩
def TbK(Z:ZZ)(TB:List (Addr×Str))(x:Str)(st:Stmt)(q:Str)(Pt:fM):Prop:= ∃f fd c,Z.mg x=some (.ref f)/\Fun Z.K x x st f fd/\fd.code= .ref c/\CodeHd Z.base c Pt/\Z.base.BuiltinsAt Z.mg Pt/\mainGlobals≠Pt/\(Pt,q)∈TB
theorem K0{Z:ZZ}{k:Nat}{x q:Str}{st:Stmt}{N ps:gf}{asg:gx}{fs:FS}{f c Pt:fM}{fd:jq}{TB:List (Addr×Str)}(F:Fun Z.K x x st f fd)(hc:fd.code= .ref c)(hC:CodeHd Z.base c Pt)(hB:Z.base.BuiltinsAt Z.mg Pt)(hg:mainGlobals≠Pt)(hm:(Pt,q)∈TB)(S:FnScope N ps (fP st))
  (hb: ∀(f:fM) (e6:fW) (A:gc) (outer:List Env) (s:fQ) (H:Hp) (E:XK) (L:gG),(∀i,L i->i<ps.length)->Room k (A.deeper (envOfC x (fP st) s.heap.objs.size f e6))->
   un (A.deeper (envOfC x (fP st) s.heap.objs.size f e6)) 60->un (A.deeper (envOfC x (fP st) s.heap.objs.size f e6)) 1->un (A.deeper (envOfC x (fP st) s.heap.objs.size f e6)) 62->un (A.deeper (envOfC x (fP st) s.heap.objs.size f e6)) 90->N.Nodup->
   TabX (kG CX0 Z.P Z.w Z.K Z.mg Z.base N x (fP st) f e6 A outer s H E).nox Pt->QQ (kG CX0 Z.P Z.w Z.K Z.mg Z.base N x (fP st) f e6 A outer s H E).nox (fun i=>i∈asg) L H (iI st) fs)
  (hq: ∀(L f:fM) (cd:fW),(envOfC x (fP st) L f cd).qual++"<lambda>"=q:=by exact fun _ _ _=>rfl):FnOk Z.P Z.w Z.K Z.mg Z.base CX0 (k+1) f fd ps (spT TB (spF Z.K (evF N.length ps.length asg fs))):=
 fnU F S fun e6 A outer s H E L hL hr h1 h2 h3 h4 nd he hT=>hb f e6 A outer s H E L hL hr h1 h2 h3 h4 nd ⟨by
  show FL ((envOfC x (fP st) s.heap.objs.size f e6).qual++"<lambda>") Pt H;rw[hq];exact hT _ hm,⟨c,he.trans hc,hC⟩,hB,hg⟩
def FzT(K:Frag)(mg:iF)(x:Str)(st:Stmt)(Pt:fM):Prop:= ∃f fd c,mg x=some (.ref f)/\Fun K x x st f fd/\fd.code= .ref c/\codeHdIn K c Pt=true
theorem fzT{K:Frag}{h:fZ}{mg:iF}{x:Str}{st:Stmt}{f c Pt:fM}{oc:fW}{od an:Option Addr}{v7:mf}{kV doc pm ct:fW}(X:K.In h)(G:h.Ns mainGlobals mg)(a:nsIn K mainGlobals x=some (some (.ref f)))
  (l:K.lookup f=some ⟨oc,od,.func (fnOf x x (lO st) (iI st) (fP st) .none kV doc pm an (.ref c) ct),v7⟩)(e:codeIn K (.ref c) x=true)(k:keepIn K (.ref f)=true)(hc:codeHdIn K c Pt=true):FzT K mg x st Pt:=⟨f,_,c,mg_of X G a,DF l e k,rfl,hc⟩
theorem FzT.tb{Z:ZZ}{x q:Str}{st:Stmt}{Pt:fM}{TB:List (Addr×Str)}(a:FzT Z.K Z.mg x st Pt)(X:Z.K.In Z.base)(B: ∀p∈TB,Z.base.BuiltinsAt Z.mg p.1)(m:(Pt,q)∈TB)(hg:mainGlobals≠Pt:=by decide):TbK Z TB x st q Pt:=
 let⟨f,fd,c,h1,h2,h3,h4⟩:=a
 ⟨f,fd,c,h1,h2,h3,codeHd_of_K X h4,B _ m,hg,m⟩
theorem FzT.cd{K:Frag}{mg:iF}{x:Str}{st:Stmt}{Pt:fM}(a:FzT K mg x st Pt): ∃c,codeHdIn K c Pt=true:=let⟨_,_,c,_,_,_,h⟩:=a;⟨c,h⟩
theorem ozT{Z:ZZ}{k:Nat}{x q:Str}{st:Stmt}{N ps:gf}{asg:gx}{fs:FS}{Pt:fM}{TB:List (Addr×Str)}(a:TbK Z TB x st q Pt)(S:FnScope N ps (fP st))(b:BdA x st ps)
  (hb: ∀(f:fM) (e6:fW) (A:gc) (outer:List Env) (s:fQ) (H:Hp) (E:XK) (L:gG),(∀i,L i->i<ps.length)->Room k (A.deeper (envOfC x (fP st) s.heap.objs.size f e6))->
   un (A.deeper (envOfC x (fP st) s.heap.objs.size f e6)) 60->un (A.deeper (envOfC x (fP st) s.heap.objs.size f e6)) 1->un (A.deeper (envOfC x (fP st) s.heap.objs.size f e6)) 62->un (A.deeper (envOfC x (fP st) s.heap.objs.size f e6)) 90->N.Nodup->
   TabX (kG CX0 Z.P Z.w Z.K Z.mg Z.base N x (fP st) f e6 A outer s H E).nox Pt->QQ (kG CX0 Z.P Z.w Z.K Z.mg Z.base N x (fP st) f e6 A outer s H E).nox (fun i=>i∈asg) L H (iI st) fs)
  (hq: ∀(L f:fM) (cd:fW),(envOfC x (fP st) L f cd).qual++"<lambda>"=q:=by exact fun _ _ _=>rfl):OzT Z TB (k+1) x ps (evF N.length ps.length asg fs):=
 let⟨f,fd,c,m,F,h1,h2,h3,h4,h5⟩:=a
 ⟨f,fd,K0 F h1 h2 h3 h4 h5 S hb hq,m,F.kp,F.binds b⟩
section
variable {X:Cx}{k:Nat}{f:fM}{fd:jq}{ps:gf}{x:Str}{p pos:Pos}{e a:fV}{es:gX}{ev:EvF}{fs:List FO}{fa:FO}{TB:List (Addr×Str)}
theorem Df{sp:Sp}{t:TA}(F:FnOk X.prog X.w X.K X.mg X.base CX0 k f fd ps (spT TB sp))(ht:HZ TB X.H₀)(hr:Room k X.A)(hg:Gl X x)(hm:X.mg x=some (.ref f))(hk:keepIn X.K (.ref f)=true)(hb:Binds X.K fd ps [])
  (ha:PA X (e::es) t)(j4:(x==("__debug__":Str))=false)(he:starEach (e::es) X.env=(false,eval e X.env)::starEach es X.env)(i3:(backTo pos (starEach es X.env)).any (·.1)=false):
  PE X (.Call (.Name x p) (e::es) [] pos) (F1 sp [] L2.E0 t):=by
 intro pins s σ H Q I h;refine qr (mY I hg hm ?_ j4);refine PySem.W.callWith_K (h₀:=X.base) I.ok.mod.kin hk (thn (ha pos pins s σ H _ I h) fun us s1 ⟨vs,H1,I1,r,q⟩=>⟨I1.kIn,?_⟩) he i3;exact CA F hr hb .nil F7 I1 r ⟨fun p hp=>let⟨m,e⟩:=ht p hp;let⟨m2,e2⟩:=I1.base.tbls _ _ e;⟨m++m2,by rw[e2,uA]⟩,q⟩
theorem xUT(O:OzT (zX X) TB k x ps ev)(ht:HZ TB X.H₀)(hr:Room k X.A)(ha:QA X (e::es) fs)(hg:Gl X x:=by rfl)(j4:DB x:=by decide)
  (he:SE X e es:=by rfl)(i3:BA X pos es:=by rfl):QX X (.Call (.Name x p) (e::es) [] pos) (gp ev fs):=
 let⟨_,_,ok,hm,kp,bi⟩:=O;⟨PX.imp (Df ok ht hr hg hm kp bi ha.h j4 he i3) fun σ H Q hw=>by
 obtain⟨δ,T,rr,δ',E,e,k⟩:=hw;obtain⟨⟨os,δ1⟩,h1,e⟩:=fL e;obtain⟨args,h2,e⟩:=fL e;dsimp only at e;split at e
 ·rename_i nd;obtain⟨⟨r,outs⟩,h3,e⟩:=fL e;obtain⟨rfl,rfl⟩:=fY e;refine⟨δ,T,os,δ1,E,h1,fun vs H1 T1 B=>?_⟩;show spF X.K ev (vs++[]) H1 Q L2.E0;rw[pB];exact⟨Tc T σ δ1 vs args,args,r,outs,oK E B h2 nd,h3,fun v H' P=>k v H' (rO E B h2 nd P)⟩
 ·cases e⟩
theorem sP{A L:gG}{H0:Hp}{b:fV}{y:Str}{px py pt aK:Pos}{kt k2:Nat}{i j:Nat}{gs:List F}(hN:X.N.Nodup)(h:QA X [a,b] (gs.map fS))(hc:X.calm=true:=by rfl)(hi:X.N[i]?=some x:=by rfl)(hj:X.N[j]?=some y:=by rfl)(l8:i≠j:=by decide)(hx:X.env.scope.names.lookup x=some .local:=by rfl)(hy:X.env.scope.names.lookup y=some .local:=by rfl)
  (hw:swappedStores [.Tuple [.Name x px,.Name y py] kt pt] (.Tuple [a,b] k2 aK) X.env=pure (some [x,y]):=by rfl)(hs:swapsWithSole [.Tuple [.Name x px,.Name y py] kt pt] (.Tuple [a,b] k2 aK) pos.line X.env=pure false:=by rfl)(hA:A i:=by decide)(hB:A j:=by decide):
  QS X A L H0 (.Assign [.Tuple [.Name x px,.Name y py] kt pt] (.Tuple [a,b] k2 aK) pos) (Cy i j gs):=⟨EK hc hN hi hj l8 hx hy h.h hw hs hA hB⟩
theorem JJ(hm:X.mg "sum"=none)(ha:QA X [a] [fa])(hc:X.calm=true:=by rfl)(hg:Gl X "sum":=by rfl)(he:SE X a []:=by rfl)(i3:BA X pos []:=by rfl):QX X (.Call (.Name "sum" p) [a] [] pos) (hV (g1 HI) [fa]):=
 ⟨zU (Bh hc) hg hm (by decide+kernel) ha.h (by decide) (by decide) he i3⟩
end
structure ClsK(K:Frag)(mg:iF)(ct rs:List (Str×Nat))(CR:Nat):Prop where
 m: ∀p∈ct,mg p.1=some (.ref p.2)
 mr: ∀p∈rs,mg p.1=some (.ref p.2)
 is: ∀p∈rs,∀r∈ct,kitOne K (.ref p.2) (.ref r.2)=some (p.2==r.2)
 ve: ∀p∈rs,kitOne K (.ref p.2) (.type "ValueError")=some true
 ck: ∀p∈rs,ClK K p.2 CR
 ex: ∀p∈rs,excIn K p.2 veB "ValueError.__new__"=true
 su:mg "sum"=none
 vm:mg "ValueError"=none
 re:mg "RiddleError"=some (.ref CR)
theorem aN{α:Type}{P:α->Prop}: ∀p∈([]:List α),P p:=fun _ h=>nomatch h
theorem aC{α:Type}{P:α->Prop}{a:α}{l:List α}(h:P a)(r: ∀p∈l,P p): ∀p∈a::l,P p:=List.forall_mem_cons.mpr ⟨h,r⟩
def ctD(ct:List (Str×Nat))(z:Str):Nat:=(ct.lookup z).getD 0
section
variable {Z:ZZ}{ct rs:List (Str×Nat)}{CR:Nat}
theorem lkM{z:Str}{C:Nat}(h:ct.lookup z=some C):(z,C)∈ct:=lh h
theorem ClsK.x(c:ClsK Z.K Z.mg ct rs CR)(z:Str)(h:(rs.lookup z).isSome=true:=by decide):ClX Z z:=by
 obtain⟨C,hC⟩:=FQ.mp h;exact⟨C,c.mr _ (lkM hC),c.ex _ (lkM hC)⟩
theorem ClsK.t(c:ClsK Z.K Z.mg ct rs CR)(z:Str)(h:(ct.lookup z).isSome=true:=by decide):ClT Z.K Z.mg (rs.map (·.2)) (ctD ct z) z:=by
 obtain⟨C,hC⟩:=FQ.mp h;have:ctD ct z=C:=by unfold ctD;rw[hC];rfl
 rw[this];refine⟨c.m _ (lkM hC),fun D hD=>?_⟩;obtain⟨p,hp,rfl⟩:=D6.mp hD;exact c.is p hp _ (lkM hC)
theorem ClsK.v(c:ClsK Z.K Z.mg ct rs CR): ∀C∈rs.map (·.2),kitOne Z.K (.ref C) (.type "ValueError")=some true:=fun D hD=>by
 obtain⟨p,hp,rfl⟩:=D6.mp hD;exact c.ve p hp
theorem ClsK.ci(c:ClsK Z.K Z.mg ct rs CR): ∀z C0,rs.lookup z=some C0->Z.mg z=some (.ref C0)/\ClK Z.K C0 CR:=fun z C h=>⟨c.mr _ (lkM h),c.ck _ (lkM h)⟩
end
def Fy(a b c:Str)(fa fb:FO):F:=fun δ=>(fa δ).bind fun p=>(fb p.2).bind fun q=>match res p.2 p.1,res q.2 q.1 with
 |some (.int i),some (.int j)=>if i.natAbs.log2<1920/\j.natAbs.log2<1920 then some ((.str (((((Str.empty++a)++Str.ofString (toString i))++b)++Str.ofString (toString j))++c),false),q.2) else none
 |_,_=>none
def lN(op j8 ar:CmpOp)(fa fb fc fd:FO):FT:=fun δ=>(fa δ).bind fun p=>(fb p.2).bind fun q=>match res q.2 p.1,res q.2 q.1 with
 |some (.int i),some (.int j)=>if gS op i j=true then(fc q.2).bind fun r=>match res r.2 r.1 with
   |some (.int k)=>if gS j8 j k=true then(fd r.2).bind fun t=>match res t.2 t.1 with
     |some (.int l)=>some (gS ar k l,t.2)
     |_=>none
    else some (false,r.2)
   |_=>none
  else some (false,q.2)
 |_,_=>none
section
variable {X:Cx}{x y a b c d:fV}{u v z:Str}{fa fb fc fd:FO}{pos p1 p2 p3 p4 p5:Pos}{j1 j2 j3:Nat}{op j8 ar:CmpOp}
theorem GR(ha:PO X x fa)(hb:PO X y fb)(la:u.length<=1000)(lb:v.length<=1000)(lz:z.length<=1000):PX X (.JoinedStr [.Constant (.str u) j1 p1,.FormattedValue x (-1) none p2,.Constant (.str v) j2 p3,.FormattedValue y (-1) none p4,.Constant (.str z) j3 p5] pos) (Fy u v z fa fb):=by
 intro pins s σ H Q I hw;obtain⟨δ,T,rr,δ',E,e,k⟩:=hw;obtain⟨⟨o1,δ1⟩,h1,e⟩:=fL e;obtain⟨⟨o2,δ2⟩,h2,e⟩:=fL e;dsimp only at e;split at e
 case h_2=>cases e
 rename_i i j hi hj;obtain⟨⟨l1,l2⟩,e⟩:=gy e;obtain⟨rfl,rfl⟩:=nU e;have z1:=int_text_length_le (k:=1920) (by decide) l1;have z2:=int_text_length_le (k:=1920) (by decide) l2;have z0:Str.empty.length=0:=rfl;have sz:=ml;rw[<-PySem.ofString_length] at z1 z2;refine JoinedStr_many (qu (uz ⟨by rw[jA];lia,?_⟩));refine qu (Bo (thn (ha pins _ σ H (fun v H1=>PostO X.K T σ δ H o1 δ1 v H1) (I.tok _) ⟨δ,T,o1,δ1,E,h1,fun _ _ P=>P⟩) fun w s1 ⟨x',H1,I1,r1,q1⟩=>?_));have E1:=q1.er E;cases gg ((Ops.cons E q1 (Ops.nil E1)).view (j:=0) rfl rfl hi);obtain⟨t,rfl⟩:=r1;refine Bn l1 ⟨by rw[jA,jA];lia,?_⟩;refine qu (uz ⟨by rw[jA,jA,jA];lia,?_⟩);refine qu (Bo (thn (hb pins _ σ H1 (fun v H2=>PostO X.K (nj T o1 (.int i)) σ δ1 H1 o2 δ2 v H2) ((I1.tok _).tok _) ⟨δ1,_,o2,δ2,E1,h2,fun _ _ P=>P⟩) fun w s2 ⟨y',H2,I2,r2,q2⟩=>?_));have B:=Ops.cons E q1 (Ops.cons E1 q2 (Ops.nil (q2.er E1)));cases gg (B.view (j:=1) rfl rfl hj);obtain⟨t',rfl⟩:=r2;refine Bn l2 ⟨by rw[jA,jA,jA,jA];lia,?_⟩;refine qu (uz ⟨by rw[jA,jA,jA,jA,jA];lia,?_⟩);exact joinParts_nil ⟨.str _,H2,((I2.tok _).tok _).tok _,⟨_,rfl⟩,(B.done k) _ H2 (fun _ _ e=>e) Rep.mkStr⟩ (by rw[jA,jA,jA,jA,jA];lia)
theorem yF(o1:jX op)(o2:jX j8)(o3:jX ar)(ha:PO X a fa)(hb:PO X b fb)(hc:PO X c fc)(hd:PO X d fd)(hm:lastMarks [op,j8,ar] [b,c,d]=false):PTX X (.Compare a [op,j8,ar] [b,c,d] pos) (lN op j8 ar fa fb fc fd):=by
 intro pins s σ H Q I hw;obtain⟨δ,T,rr,δ',E,e,k⟩:=hw;obtain⟨⟨q1,δ1⟩,h1,e⟩:=fL e;obtain⟨⟨q2,δ2⟩,h2,e⟩:=fL e;dsimp only at e;split at e
 case h_2=>cases e
 rename_i i j hi hj
 have ask: ∀{op:CmpOp} (ho:jX op) {i j:Int} {s:fQ} {H:Hp} {v u:fW} (_:Inv X pins σ H s) (_:L2.RelV (.int i) v) (_:L2.RelV (.int j) u) {R:gw},(∀s',Inv X pins σ H s'->R (.bool (gS op i j)) s')->wpAny (model X.prog X.w) X.A (compareOp op v u) R X.xe s:=fun {op} ho {i j s H v u} I r1 r2 {R} hR=>
  thn (oy ho pins s σ H (.int i) (.int j) v u (fun z H'=>z= .bl (gS op i j)/\H'=H) I r1 r2 ⟨i,j,rfl,rfl,rfl,rfl⟩) fun w s' ⟨z,H',I',rz,e1,e2⟩=>by subst e1;subst e2;cases rz;exact hR s' I'
 refine isTrue_chain (thn (ha pins s σ H (fun v H1=>PostO X.K T σ δ H q1 δ1 v H1) I ⟨δ,T,q1,δ1,E,h1,fun _ _ P=>P⟩) fun v s1 ⟨x',H1,I1,r1,P1⟩=>test_link (thn (hb pins s1 σ H1 (fun v H2=>PostO X.K (nj T q1 x') σ δ1 H1 q2 δ2 v H2) I1 ⟨δ1,_,q2,δ2,P1.er E,h2,fun _ _ P=>P⟩) fun u s2 ⟨y',H2,I2,r2,P2⟩=>?_)) hm;have E1:=P1.er E;have B:=Ops.cons E P1 (Ops.cons E1 P2 (Ops.nil (P2.er E1)));have eb: ∀{H':Hp} {T':AP'} {δ':Dn} {os:List Opd} {vs:List V},Ops X.K T σ δ H os vs δ' H' T'->ER X.K H' T σ δ':=fun B=>B.er.mono (fun _ _ e _=>e) (fun b _ z=>B.tt b z) (fun a z=>B.er.dom a (B.tt a z));cases gg (B.view (j:=0) rfl rfl hi);cases gg (B.view (j:=1) rfl rfl hj);refine ask o1 I2 r1 r2 fun s3 I3=>mm ?_;by_cases c1:gS op i j=true
 case neg=>
  rw[gk c1] at e;cases e;rw[show gS op i j=false by simpa using c1];exact ite_ff ⟨H2,I3,k H2 B.keep (eb B)⟩
 rw[gh c1] at e;rw[c1];obtain⟨⟨q3,δ3⟩,h3,e⟩:=fL e;dsimp only at e;split at e
 case h_2=>cases e
 rename_i k' hk;refine ite_tt (test_link (thn (hc pins s3 σ H2 (fun v H3=>PostO X.K (nj (nj T q1 (.int i)) q2 (.int j)) σ δ2 H2 q3 δ3 v H3) I3 ⟨δ2,_,q3,δ3,P2.er E1,h3,fun _ _ P=>P⟩) fun w s4 ⟨z',H3,I4,r3,P3⟩=>?_));have E2:=P2.er E1;have B:=Ops.cons E P1 (Ops.cons E1 P2 (Ops.cons E2 P3 (Ops.nil (P3.er E2))));cases gg (B.view (j:=2) rfl rfl hk);refine ask o2 I4 r2 r3 fun s5 I5=>mm ?_;by_cases c2:gS j8 j k'=true
 case neg=>
  rw[gk c2] at e;cases e;rw[show gS j8 j k'=false by simpa using c2];exact ite_ff ⟨H3,I5,k H3 B.keep (eb B)⟩
 rw[gh c2] at e;rw[c2];obtain⟨⟨q4,δ4⟩,h4,e⟩:=fL e;dsimp only at e;split at e
 case h_2=>cases e
 rename_i l hl;obtain⟨rfl,rfl⟩:=fY e;refine ite_tt (test_last (thn (hd pins s5 σ H3 (fun v H4=>PostO X.K (nj (nj (nj T q1 (.int i)) q2 (.int j)) q3 (.int k')) σ δ3 H3 q4 δ4 v H4) I5 ⟨δ3,_,q4,δ4,P3.er E2,h4,fun _ _ P=>P⟩) fun w' s6 ⟨z2,H4,I6,r4,P4⟩=>?_));have E3:=P3.er E2;have B:=Ops.cons E P1 (Ops.cons E1 P2 (Ops.cons E2 P3 (Ops.cons E3 P4 (Ops.nil (P4.er E3)))));cases gg (B.view (j:=3) rfl rfl hl);exact ask o3 I6 r3 r4 fun s7 I7=>mm ⟨H4,I7,k H4 B.keep (eb B)⟩
theorem xFm(ha:QO X x fa)(hb:QO X y fb)(la:u.length<=1000:=by decide+kernel)(lb:v.length<=1000:=by decide+kernel)(lz:z.length<=1000:=by decide+kernel):QX X (.JoinedStr [.Constant (.str u) j1 p1,.FormattedValue x (-1) none p2,.Constant (.str v) j2 p3,.FormattedValue y (-1) none p4,.Constant (.str z) j3 p5] pos) (Fy u v z fa fb):=⟨GR ha.h hb.h la lb lz⟩
theorem tC3(ha:QO X a fa)(hb:QO X b fb)(hc:QO X c fc)(hd:QO X d fd)(hm:lastMarks [.LtE,.LtE,.LtE] [b,c,d]=false:=by with_unfolding_all rfl):QT X (.Compare a [.LtE,.LtE,.LtE] [b,c,d] pos) (lN .LtE .LtE .LtE fa fb fc fd):=⟨yF (.inr (.inl rfl)) (.inr (.inl rfl)) (.inr (.inl rfl)) ha.h hb.h hc.h hd.h hm⟩
end
end PX
namespace PV
open PySem PySem.Spec PyProof.Rows L2 PX
abbrev RD:Nat:=6
def mG:FS:=(gm (jt (wU (iV (ni [.int]) (fR 0)) (DL (iV (ni [.bool]) (fR 0))))) gR)
def kR:EvF:=evF 1 1 [] mG
def kn:FS:=(gm (jt (wU (gp kR [(fR 0)]) (kE .LtE .LtE (fR 1) (fR 0) (fR 2)))) gR)
def iT:EvF:=evF 3 3 [] kn
def jH:FS:=(gm (sIf (fT (gj (oX .Lt) (fR 1) (fS (hV (g1 wL) [(fR 0)])))) (gm (jt (gj gIx (fR 0) (fR 1))) gR) gR) (gm (jt (fC (.int 0))) gR))
def je:EvF:=evF 2 2 [] jH
def km:FS:=(gm (jf 2 (gp je [(fR 0),(fR 1)])) (gm (sIf (fT (gj (oX .GtE) (fR 2) (fS (gj vg (fS (fC (.int 10))) (fS (fC (.int 18))))))) (gm (jt (lZ [(gj gSub (fR 2) (fS (gj vg (fS (fC (.int 10))) (fS (fC (.int 18)))))),(fC (.bl true))])) gR) gR) (gm (jt (lZ [(gj se (fR 2) (fS (fC (.int 2147483647)))),(fC (.bl false))])) gR)))
def jl:EvF:=evF 3 2 [2] km
def kQ:FS:=(gm (sIf (fT (gj gIx (fR 0) (fS (fC (.int 1))))) (gm (jf 2 (gj se (fS (gj gIx (fR 0) (fS (fC (.int 0))))) (fR 1))) (gm (oR 0 (gj DE (fS (gj gIx (fR 0) (fS (fC (.int 0))))) (fR 1)) (fS (fC (.int 0)))) (gm (lJ 2) gR))) gR) (gm (oR 0 (gj se (fS (gj jY (fS (gj wK (fS (gj gIx (fR 0) (fS (fC (.int 0))))) (fS (fC (.int 48271))))) (fS (fC (.int 29))))) (fS (fC (.int 2147483647)))) (fS (fC (.int 0)))) (gm (jf 3 (gj se (fS (gj jY (fS (gj jY (fS (gj wK (fS (gj gIx (fR 0) (fS (fC (.int 0))))) (fS (gj gIx (fR 0) (fS (fC (.int 0))))))) (fS (gj wK (fS (fC (.int 39373))) (fS (gj gIx (fR 0) (fS (fC (.int 0))))))))) (fS (fC (.int 7))))) (fS (fC (.int 2147483629))))) (gm (jf 3 (gj se (fS (gj jY (fS (gj wK (fR 3) (fR 3))) (fS (gj wK (fS (fC (.int 16807))) (fR 3))))) (fS (fC (.int 2147483587))))) (gm (jt (gj se (fS (gj DE (fR 3) (fS (fC (.int 8))))) (fR 1))) gR)))))
def gz:EvF:=evF 4 2 [2,3] kQ
def jL:FS:=(gm (jt (wU (iV (ni [.int]) (fR 0)) (DL (iV (ni [.bool]) (fR 0))))) gR)
def ie:EvF:=evF 1 1 [] jL
def jy:FS:=(gm (sIf (iZ (fT (gp iT [(fR 0),(fR 1),(fR 2)]))) (gm yB gR) gR) gR)
def gB:EvF:=evF 3 3 [] jy
def ir:XS:=(zIf (iZ (fT (gp iT [(fR 0),(fR 1),(fR 2)]))) (uC "NoNumber" (Fy "a whole number from " " to " " is wanted there" (fR 1) (fR 2))) zNo)
def iu:List D->Option Str:=xcF 3 3 ir
def rG(ev:EvF):FS:=(gm (sIf (fT (gj gEq (fR 1) (fS (fC (.int 0))))) (gm (jt (lZ [(kD [])])) gR) gR) (gm (jt (jB [0,1] 3 (vb 0 (hJ 0)) (zD [(gP 2),(gP 3)]) ki (HY (jW (gp ev [(fS (Ao (fR 0) (fS (gj jY (fR 2) (fS (fC (.int 1))))))),(fS (gj gSub (fR 1) (fS (fC (.int 1)))))])) (gP 4) ki (jK (gj jY (fS (kD [(hJ 3)])) (fR 4)))))) gR))
def mH:Nat->EvF
 |0=>fun _=>none
 |m+1=>evF 2 2 [] (rG (mH m))
def oB:FS:=(gm (kM (gp gB [(fR 0),(fS (fC (.int 0))),(fS (fC (.int 5)))])) (gm (kM (gp gB [(fR 1),(fS (fC (.int 0))),(fR 0)])) (gm (kM (gp gB [(fR 2),(fR 1),(fR 0)])) (gm (jf 3 (hV (gRg .lst true) [(fS (fC (.int 1))),(fS (gj jY (fR 0) (fS (fC (.int 1)))))])) (gm (jf 4 (gp (mH RD) [(fR 3),(fS (gj jY (fS (gj gSub (fR 0) (fR 1))) (fS (fC (.int 1)))))])) (gm (jf 5 (jB [] 1 (jW (gp (mH RD) [(fR 3),(fS (gj jY (fR 2) (fS (fC (.int 1)))))])) (gP 0) ki (jK (hV (g1 mE) [(fS (jB [] 1 (jW (hJ 0)) (gP 0) ki (jK (iV wI (fR 0)))))])))) (gm (jt (kD [(hJ 0),(hV (g1 mE) [(fS (hV (g1 vf) [(fS (gj jY (fR 4) (fR 5)))]))])])) gR)))))))
def oH:EvF:=evF 6 3 [3,4,5] oB
def nZ:XS:=(zOr (pE iu [(fR 0),(fS (fC (.int 0))),(fS (fC (.int 5)))]) (AF (kM (gp gB [(fR 0),(fS (fC (.int 0))),(fS (fC (.int 5)))])) (zOr (pE iu [(fR 1),(fS (fC (.int 0))),(fR 0)]) (AF (kM (gp gB [(fR 1),(fS (fC (.int 0))),(fR 0)])) (pE iu [(fR 2),(fR 1),(fR 0)])))))
def qH:List D->Option Str:=xcF 6 3 nZ
def kb(ev:EvF):FS:=(gm (sIf (fT (iV (ni [.tuple,.list]) (fR 1))) (gm (sIf (oF (fT (gj gNe (fS (iV (ni [.tuple]) (fR 0))) (fS (iV (ni [.tuple]) (fR 1))))) (fT (gj gNe (fS (iV (ni [.list]) (fR 0))) (fS (iV (ni [.list]) (fR 1)))))) (gm (jt (fC (.bl false))) gR) gR) (gm (jt (wU (gj gEq (fS (hV (g1 wL) [(fR 0)])) (fS (hV (g1 wL) [(fR 1)]))) (hV (g1 wM) [(fS (jB [] 2 (yW (fR 0) (fR 1)) (zD [(gP 0),(gP 1)]) ki (jK (gp ev [(fR 0),(fR 1)]))))]))) gR)) gR) (gm (jt (wU (gj gEq (fR 0) (fR 1)) (gj gEq (fS (iV (ni [.bool]) (fR 0))) (fS (iV (ni [.bool]) (fR 1)))))) gR))
def jz:Nat->EvF
 |0=>fun _=>none
 |m+1=>evF 2 2 [] (kb (jz m))
def CT:List (Str×Nat):=[("NoName",37),("NoBit",49),("NoTurning",61),("NoAnswer",73),("NoNumber",85),("NoClause",97),("NoPutting",109),("TooMany",121),("NoRiddle",133),("BadNote",145)]
def tV:List (Str×Nat):=[("NoNumber",85)]
def iR(ct rs:List (Str×Nat)):FS:=(gm (sIf (fT (gj gIs (fR 1) (fS (fC .non)))) (gm (jt (fC .non)) gR) gR) (gm (jf 3 (lZ [(iV (pX (rs.map (·.2)) (ctD ct "NoName")) (fR 1)),(iV (pX (rs.map (·.2)) (ctD ct "NoBit")) (fR 1)),(iV (pX (rs.map (·.2)) (ctD ct "NoTurning")) (fR 1))])) (gm (jf 3 (gj jY (fR 3) (fS (lZ [(iV (pX (rs.map (·.2)) (ctD ct "NoAnswer")) (fR 1)),(iV (pX (rs.map (·.2)) (ctD ct "NoNumber")) (fR 1)),(iV (pX (rs.map (·.2)) (ctD ct "NoClause")) (fR 1))])))) (gm (jf 3 (gj jY (fR 3) (fS (lZ [(iV (pX (rs.map (·.2)) (ctD ct "NoPutting")) (fR 1)),(iV (pX (rs.map (·.2)) (ctD ct "TooMany")) (fR 1)),(iV (pX (rs.map (·.2)) (ctD ct "NoRiddle")) (fR 1))])))) (gm (kM (oG 3 (iV (pX (rs.map (·.2)) (ctD ct "BadNote")) (fR 1)))) (gm (sIf (oF (iZ (fT (iV (HJ (rs.map (·.2))) (fR 1)))) (fT (gj gNe (fS (hV (g1 HI) [(fS (jB [] 1 (rC (fR 3)) (gP 0) ki (jK (hV (g1 Fs) [(fR 0)]))))])) (fS (fC (.int 1)))))) (gm (jt (fC (.str "none of these"))) gR) gR) (gm (jf 4 (lZ [(fC (.str "name")),(fC (.str "bit")),(fC (.str "turning")),(fC (.str "answer")),(fC (.str "number")),(fC (.str "clause")),(fC (.str "putting")),(fC (.str "many")),(fC (.str "riddle")),(fC (.str "note"))])) (gm (jt (gj gIx (fR 4) (fS (Fx 3)))) gR))))))))
def lX:FS:=(gm (jf 2 (lZ [])) (gm (uN (A9 (fS (gj Jh (fS (fC (.int 1))) (fR 0)))) (gP 3) (gm (jf 4 (hV (g1 mE) [(fS (jB [3] 1 (HG (fS (fC (.int 1))) (fS (gj jY (fR 0) (fS (fC (.int 1)))))) (gP 1) (fT (gj gEq (fS (gj Ge (fS (gj Jg (fR 0) (fS (gj gSub (fR 1) (fS (fC (.int 1))))))) (fS (fC (.int 1))))) (fS (fC (.int 1))))) (jK (hJ 1))))])) (gm (sIf (fT (gj gEq (fS (hV (g1 wL) [(fR 4)])) (fR 1))) (gm (kM (oG 2 (hJ 4))) gR) gR) gR))) (gm (lJ 2) gR)))
def kc:EvF:=evF 5 2 [2,3,4] lX
def mF:FS:=(gm (sIf (oF (iZ (fT (hV (g1 wM) [(fS (jB [] 1 (jW (kD [(hJ 0),(hJ 1),(hJ 2)])) (gP 0) ki (jK (gp ie [(fR 0)]))))]))) (iZ (fT (kE .LtE .LtE (fS (fC (.int 0))) (fR 0) (fS (fC (.int 5))))))) (gm (jt (fC .non)) gR) gR) (gm (sIf (iZ (lN .LtE .LtE .LtE (fS (fC (.int 0))) (fR 1) (fR 2) (fR 0))) (gm (jt (fC .non)) gR) gR) (gm (jf 3 (jB [] 1 (jW (gp kc [(fR 0),(fS (gj jY (fR 2) (fS (fC (.int 1)))))])) (gP 0) ki (jK (hV (g1 mE) [(fS (jB [] 1 (jW (hJ 0)) (gP 0) ki (jK (iV wI (fR 0)))))])))) (gm (sIf (fT (gj (oX .Gt) (fR 1) (fS (fC (.int 0))))) (gm (jf 3 (gj jY (fR 3) (fS (gp kc [(fR 0),(fS (gj jY (fS (gj gSub (fR 0) (fR 1))) (fS (fC (.int 1)))))])))) gR) gR) (gm (jt (kD [(hJ 0),(hV (g1 mE) [(fS (hV (g1 vf) [(fR 3)]))])])) gR)))))
def kF:EvF:=evF 4 3 [3] mF
def lB:FS:=(gm (jf 3 (gp kF [(fR 0),(fR 1),(fR 2)])) (gm (sIf (fT (gj gIs (fR 3) (fS (fC .non)))) (gm (jt (gj gEq (fS (DK [0,1,2] (gp oH [(fR 0),(fR 1),(fR 2)]) (pE qH [(fR 0),(fR 1),(fR 2)]) 5 1 (iR CT tV) (fun z=>tV.lookup z))) (fS (fC (.str "number"))))) gR) gR) (gm (jt (gp (jz RD) [(fS (gp oH [(fR 0),(fR 1),(fR 2)])),(fR 3)])) gR)))
def gr:EvF:=evF 4 3 [3] lB
def rH:FS:=(gm (uN (A9 (fS (hV (g2 DD) [(fS (fC (.int 1))),(fS (hV (g2 DC) [(fS (hV (g1 wL) [(fR 0)])),(fS (fC (.int 8)))]))]))) (gP 1) (gm (jf 2 (gp jl [(fR 0),(fR 1)])) (gm (jf 3 (gp gz [(fR 2),(fS (fC (.int 6)))])) (gm (jf 4 (gp gz [(fR 2),(fS (gj jY (fR 3) (fS (fC (.int 1)))))])) (gm (jf 5 (gj jY (fR 4) (fS (gp gz [(fR 2),(fS (gj jY (fS (gj gSub (fR 3) (fR 4))) (fS (fC (.int 1)))))])))) (gm (sIf (oF (iZ (fT (gp gr [(fR 3),(fR 4),(fR 5)]))) (oF (iZ (fT (gp gr [(fR 3),(fS (fC (.int 0))),(fR 3)]))) (iZ (fT (gp gr [(fR 3),(fR 5),(fR 4)]))))) (gm (jt (fC (.bl false))) gR) gR) (gm (jf 6 (lZ [(fC (.int 6)),(iV wI (fS (fC (.int 1)))),(fC (.bl true)),(fC (.bl false)),(fC .non),(fC (.str "1")),(kD [(fC (.int 1))]),(lZ []),(gj jY (fR 3) (fS (fC (.int 1)))),(gj vg (fS (fC (.int 10))) (fS (fC (.int 29)))),(fC (.int 0)),(fC (.int 5))])) (gm (Cy 7 8 [(gj gIx (fR 6) (fS (gp gz [(fR 2),(fS (fC (.int 12)))]))),(gj gIx (fR 6) (fS (gp gz [(fR 2),(fS (fC (.int 12)))])))]) (gm (uN (jW (lZ [(kD [(hJ 7),(hJ 4),(hJ 5)]),(kD [(hJ 3),(hJ 7),(hJ 5)]),(kD [(hJ 3),(hJ 4),(hJ 7)]),(kD [(hJ 7),(hJ 8),(hJ 5)]),(kD [(hJ 7),(hJ 8),(hJ 7)])])) (gP 9) (gm (sIf (iZ (fT (gp gr [(fS (gj gIx (fR 9) (fS (fC (.int 0))))),(fS (gj gIx (fR 9) (fS (fC (.int 1))))),(fS (gj gIx (fR 9) (fS (fC (.int 2)))))]))) (gm (jt (fC (.bl false))) gR) gR) gR)) gR))))))))) (gm (jt (fC (.bl true))) gR))
def nE:EvF:=evF 10 1 [1,2,3,4,5,6,7,8,9] rH
end PV
namespace K81
open PySem PySem.Spec PyProof.Rows L2 PX PV
def top(i:Nat):Stmt:=PySem.Challenge.pw_twinriddles_k81_crowds.main.body.getD i (.Pass ⟨0,0,0,0⟩)
abbrev TB81:List (Addr×Str):=[(228,"_law_right.<locals>.<lambda>")]
section
variable {Z:ZZ}{k:Nat}
abbrev lI:Stmt:=top 14
theorem we:FnScope ["thing"] ["thing"] (fP lI):=scM
abbrev rm(Z:ZZ)(k:Nat):Prop:=Oz Z k "is_whole" ["thing"] kR
theorem xt:BdA "is_whole" lI ["thing"]:=fun _ _ _ _ _ _=>us1 fun _=>us0 rfl
theorem wD(a:Fz Z.K Z.mg "is_whole" lI)(T:Tx Z.mg):rm Z (k+1):=by
 have S:=we;refine ozB (asg:=[]) (fs:=mG) a S xt fun f e6 A outer s H E L hL hr hu v8 x6 au nd=>?_;exact(s1 (sR (Cd (xI T rfl xV) (xBo (Il (xI T rfl xV))))) s0)
abbrev kL:Stmt:=top 15
theorem uM:FnScope ["thing","least","most"] ["thing","least","most"] (fP kL):=scM
abbrev mC(Z:ZZ)(k:Nat):Prop:=Oz Z k "is_number" ["thing","least","most"] iT
theorem vE:BdA "is_number" kL ["thing","least","most"]:=fun _ _ _ _ _ _=>us1 fun _=>us1 fun _=>us1 fun _=>us0 rfl
theorem uX(a:Fz Z.K Z.mg "is_number" kL)(T:Tx Z.mg)(O_is_whole:rm Z k):mC Z (k+1):=by
 have S:=uM;refine ozB (asg:=[]) (fs:=kn) a S vE fun f e6 A outer s H E L hL hr hu v8 x6 au nd=>?_;exact(s1 (sR (Cd (xU O_is_whole hr (xA xV xA0)) (xBo (xCh xV xV xV)))) s0)
abbrev jd:Stmt:=top 16
theorem lW:FnScope ["thing","least","most"] ["thing","least","most"] (fP jd):=scM
abbrev kB(Z:ZZ)(k:Nat):Prop:=Oz Z k "check_number" ["thing","least","most"] gB
theorem lY:BdA "check_number" jd ["thing","least","most"]:=fun _ _ _ _ _ _=>us1 fun _=>us1 fun _=>us1 fun _=>us0 rfl
abbrev mq(Z:ZZ)(k:Nat):Prop:=Oy Z k "check_number" ["thing","least","most"] iu
theorem pT{CR:Nat}(a:Fz Z.K Z.mg "check_number" jd)(T:Tx Z.mg)(CK:ClsK Z.K Z.mg CT tV CR)(l4:mC Z k):mq Z (k+1):=by
 have S:=lW;have xk:= @ko;refine oyB (xs:=ir) a S lY fun f e6 A outer s H E hr hu v8 x6 nd=>?_;exact(qG (zI (tNot (rX (xU l4 hr (xA xV (xA xV (xA xV xA0)))))) (qG (zR ko (CK.x "NoNumber") (xFm xV xV)))))
theorem pV(a:Fz Z.K Z.mg "check_number" jd)(T:Tx Z.mg)(l4:mC Z k):kB Z (k+1):=by
 have S:=lW;refine ozB (asg:=[]) (fs:=jy) a S lY fun f e6 A outer s H E L hL hr hu v8 x6 au nd=>?_;exact(s1 (sI (tNot (rX (xU l4 hr (xA xV (xA xV (xA xV xA0)))))) (s1 sX s0) s0) s0)
abbrev oo:Stmt:=top 18
theorem Cw:FnScope ["things","many"] ["things","many"] (fP oo):=scM
abbrev Ad(Z:ZZ)(k:Nat):Prop:=Oz Z k "picks" ["things","many"] (mH RD)
theorem xo:BdA "picks" oo ["things","many"]:=fun _ _ _ _ _ _=>us1 fun _=>us1 fun _=>us0 rfl
theorem A2{ev:EvF}(a:Fz Z.K Z.mg "picks" oo)(T:Tx Z.mg)(m8:Oz Z k "picks" ["things","many"] ev):Oz Z (k+1) "picks" ["things","many"] (evF 2 2 [] (rG ev)):=by
 have S:=Cw;refine ozB (asg:=[]) (fs:=rG ev) a S xo fun f e6 A outer s H E L hL hr hu v8 x6 au nd=>?_;exact(s1 (sI (tCmp ⟨(nJ hu)⟩ xV (xO x3)) (s1 (sR (qJ (xL (qI xL0) xL0))) s0) s0) (s1 (sR (by exact xC (N':=["things","many","at","thing","rest"]) (cOk S) (by decide+kernel) (iE T xW) fun _ _ _ _ _ _ nd=>⟨(gT (gN nd) (gN nd)),f0,fun _=>bF rfl (iS (xU m8 hr (xA (xO (JK xV (xO (iq ⟨hU⟩ xV (xO x3))))) (xA (xO (iq ⟨mU⟩ xV (xO x3))) xA0)))) (gN nd) f0 (bE (iq ⟨hU⟩ (xO (qI (xL xW xL0))) xV))⟩)) s0))
theorem wA(a:Fz Z.K Z.mg "picks" oo)(T:Tx Z.mg): ∀m,Oz Z m "picks" ["things","many"] (mH m)
 |0=>oz0 a xo
 |m+1=>A2 a T (wA a T m)
abbrev oq:Stmt:=top 19
theorem wg:FnScope ["names","least","most","all_names","some_so","some_not"] ["names","least","most"] (fP oq):=scM
abbrev Ae(Z:ZZ)(k:Nat):Prop:=Oz Z k "crowd" ["names","least","most"] oH
theorem xu:BdA "crowd" oq ["names","least","most"]:=fun _ _ _ _ _ _=>us1 fun _=>us1 fun _=>us1 fun _=>us0 rfl
abbrev zu(Z:ZZ)(k:Nat):Prop:=Oy Z k "crowd" ["names","least","most"] qH
theorem B9{CR:Nat}(a:Fz Z.K Z.mg "crowd" oq)(T:Tx Z.mg)(CK:ClsK Z.K Z.mg CT tV CR)(f9: ∃t,Z.mg "MOST_NAMES"=some (.int 5 t))(f6:kB Z k)(m8:Ad Z k)(i7:mq Z k):zu Z (k+1):=by
 have S:=wg;have xk:= @ko;refine oyB (xs:=nZ) a S xu fun f e6 A outer s H E hr hu v8 x6 nd=>?_;exact(Ii (qG (zE (zC ko i7 hr (xA xV (xA (xO x3) (xA (xO (x5 f9)) xA0)))))) (zN (A:=fun i=>i<40) (sE (xU f6 hr (xA xV (xA (xO x3) (xA (xO (x5 f9)) xA0))))) (Ii (qG (zE (zC ko i7 hr (xA xV (xA (xO x3) (xA xV xA0)))))) (zN (A:=fun i=>i<40) (sE (xU f6 hr (xA xV (xA (xO x3) (xA xV xA0))))) (qG (zE (zC ko i7 hr (xA xV (xA xV (xA xV xA0))))))))))
theorem Dp(a:Fz Z.K Z.mg "crowd" oq)(T:Tx Z.mg)(f9: ∃t,Z.mg "MOST_NAMES"=some (.int 5 t))(f6:kB Z k)(m8:Ad Z k):Ae Z (k+1):=by
 have S:=wg;refine ozB (asg:=[3,4,5]) (fs:=oB) a S xu fun f e6 A outer s H E L hL hr hu v8 x6 au nd=>?_;exact(s1 (sE (xU f6 hr (xA xV (xA (xO x3) (xA (xO (x5 f9)) xA0))))) (s1 (sE (xU f6 hr (xA xV (xA (xO x3) (xA xV xA0))))) (s1 (sE (xU f6 hr (xA xV (xA xV (xA xV xA0))))) (s1 (sS nd (JL T rfl (xA (xO x3) (xA (xO (iq ⟨hU⟩ xV (xO x3))) xA0)))) (s1 (sS nd (xU m8 hr (xA xV (xA (xO (iq ⟨hU⟩ (xO (iq ⟨mU⟩ xV xV)) (xO x3))) xA0)))) (s1 (sC (N':=["some"]) nd (cOk S) (by decide+kernel) (iS (xU m8 hr (xA xV (xA (xO (iq ⟨hU⟩ xV (xO x3))) xA0)))) fun _ _ _ _ _ _ nd=>⟨(gN nd),f0,fun _=>bE (xT T rfl ⟨jZ⟩ (xA (xO (by exact xC (N':=["name"]) (zg rfl rfl (by with_unfolding_all rfl)) (by decide+kernel) (iS xW) fun _ _ _ _ _ _ nd=>⟨(gN nd),f0,fun _=>bE (Gn xV)⟩)) xA0))⟩) (s1 (sR (qI (xL xW (xL (xT T rfl ⟨jZ⟩ (xA (xO (xB T rfl ⟨(oI x6)⟩ (xA (xO (iq ⟨hU⟩ xV xV)) xA0))) xA0)) xL0)))) s0)))))))
abbrev jP:Stmt:=top 21
theorem qV:FnScope ["_law_script","_law_k"] ["_law_script","_law_k"] (fP jP):=scM
abbrev nC(Z:ZZ)(k:Nat):Prop:=Oz Z k "_law_cell_at" ["_law_script","_law_k"] je
theorem rQ:BdA "_law_cell_at" jP ["_law_script","_law_k"]:=fun _ _ _ _ _ _=>us1 fun _=>us1 fun _=>us0 rfl
theorem rh(a:Fz Z.K Z.mg "_law_cell_at" jP)(T:Tx Z.mg):nC Z (k+1):=by
 have S:=qV;refine ozB (asg:=[]) (fs:=jH) a S rQ fun f e6 A outer s H E L hL hr hu v8 x6 au nd=>?_;exact(s1 (sI (tCmp ⟨(uS (.inl rfl) hu)⟩ xV (xO (xB T rfl ⟨lD⟩ (xA xV xA0)))) (s1 (sR (xIx xV xV)) s0) s0) (s1 (sR x3) s0))
abbrev kJ:Stmt:=top 22
theorem uK:FnScope ["_law_script","_law_k","_law_cell"] ["_law_script","_law_k"] (fP kJ):=scM
abbrev pL(Z:ZZ)(k:Nat):Prop:=Oz Z k "_law_state" ["_law_script","_law_k"] jl
theorem vC:BdA "_law_state" kJ ["_law_script","_law_k"]:=fun _ _ _ _ _ _=>us1 fun _=>us1 fun _=>us0 rfl
theorem uV(a:Fz Z.K Z.mg "_law_state" kJ)(T:Tx Z.mg)(O_law_cell_at:nC Z k):pL Z (k+1):=by
 have S:=uK;refine ozB (asg:=[2]) (fs:=km) a S vC fun f e6 A outer s H E L hL hr hu v8 x6 au nd=>?_;exact(s1 (sS nd (xU O_law_cell_at hr (xA xV (xA xV xA0)))) (s1 (sI (tCmp ⟨(uS (.inr (.inr (.inr rfl))) hu)⟩ xV (xO (iq ⟨uR⟩ (xO x3) (xO x3)))) (s1 (sR (qJ (xL (iq ⟨mU⟩ xV (xO (iq ⟨uR⟩ (xO x3) (xO x3)))) (xL x2 xL0)))) s0) s0) (s1 (sR (qJ (xL (iq ⟨mV⟩ xV (xO x3)) (xL x2 xL0)))) s0)))
abbrev lG:Stmt:=top 23
theorem wa:FnScope ["_law_state_here","_law_many","_law_found","_law_mixed"] ["_law_state_here","_law_many"] (fP lG):=scM
abbrev rk(Z:ZZ)(k:Nat):Prop:=Oz Z k "_law_take" ["_law_state_here","_law_many"] gz
theorem xp:BdA "_law_take" lG ["_law_state_here","_law_many"]:=fun _ _ _ _ _ _=>us1 fun _=>us1 fun _=>us0 rfl
theorem wB(a:Fz Z.K Z.mg "_law_take" lG)(T:Tx Z.mg):rk Z (k+1):=by
 have S:=wa;refine ozB (asg:=[2,3]) (fs:=kQ) a S xp fun f e6 A outer s H E L hL hr hu v8 x6 au nd=>?_;exact(s1 (sI (rX (xIx xV (xO x3))) (s1 (sS nd (iq ⟨mV⟩ (xO (xIx xV (xO x3))) xV)) (s1 (sIx xV (iq ⟨Ac⟩ (xO (xIx xV (xO x3))) xV) (xO x3)) (s1 (sRV (fun h=>absurd (hL _ h) (by decide))) s0))) s0) (s1 (sIx xV (iq ⟨mV⟩ (xO (iq ⟨hU⟩ (xO (iq ⟨ox⟩ (xO (xIx xV (xO x3))) (xO x3))) (xO x3))) (xO x3)) (xO x3)) (s1 (sS nd (iq ⟨mV⟩ (xO (iq ⟨hU⟩ (xO (iq ⟨hU⟩ (xO (iq ⟨ox⟩ (xO (xIx xV (xO x3))) (xO (xIx xV (xO x3))))) (xO (iq ⟨ox⟩ (xO x3) (xO (xIx xV (xO x3))))))) (xO x3))) (xO x3))) (s1 (sS nd (iq ⟨mV⟩ (xO (iq ⟨hU⟩ (xO (iq ⟨ox⟩ xV xV)) (xO (iq ⟨ox⟩ (xO x3) xV)))) (xO x3))) (s1 (sR (iq ⟨mV⟩ (xO (iq ⟨Ac⟩ xV (xO x3))) xV)) s0)))))
abbrev kI:Stmt:=top 24
theorem uJ:FnScope ["_law_thing"] ["_law_thing"] (fP kI):=scM
abbrev pK(Z:ZZ)(k:Nat):Prop:=Oz Z k "_law_whole" ["_law_thing"] ie
theorem vB:BdA "_law_whole" kI ["_law_thing"]:=fun _ _ _ _ _ _=>us1 fun _=>us0 rfl
theorem uU(a:Fz Z.K Z.mg "_law_whole" kI)(T:Tx Z.mg):pK Z (k+1):=by
 have S:=uJ;refine ozB (asg:=[]) (fs:=jL) a S vB fun f e6 A outer s H E L hL hr hu v8 x6 au nd=>?_;exact(s1 (sR (Cd (xI T rfl xV) (xBo (Il (xI T rfl xV))))) s0)
abbrev kA:Stmt:=top 25
theorem wc:FnScope ["_law_found","_law_due_here"] ["_law_found","_law_due_here"] (fP kA):=scM
abbrev yN(Z:ZZ)(k:Nat):Prop:=Oz Z k "_law_same" ["_law_found","_law_due_here"] (jz RD)
theorem pO:BdA "_law_same" kA ["_law_found","_law_due_here"]:=fun _ _ _ _ _ _=>us1 fun _=>us1 fun _=>us0 rfl
theorem uT{ev:EvF}(a:Fz Z.K Z.mg "_law_same" kA)(T:Tx Z.mg)(l7:Oz Z k "_law_same" ["_law_found","_law_due_here"] ev):Oz Z (k+1) "_law_same" ["_law_found","_law_due_here"] (evF 2 2 [] (kb ev)):=by
 have S:=wc;refine ozB (asg:=[]) (fs:=kb ev) a S pO fun f e6 A outer s H E L hL hr hu v8 x6 au nd=>?_;exact(s1 (sI (rX (xI2 T rfl rfl xV)) (s1 (sI (tW (wOr (tCmp ⟨(yK hu)⟩ (xO (xI T rfl xV)) (xO (xI T rfl xV))) (Ed (tCmp ⟨(yK hu)⟩ (xO (xI T rfl xV)) (xO (xI T rfl xV)))))) (s1 (sR x2) s0) s0) (s1 (sR (Cd (D9 ⟨(nJ hu)⟩ (xO (xB T rfl ⟨lD⟩ (xA xV xA0))) (xO (xB T rfl ⟨lD⟩ (xA xV xA0)))) (xBo (xB T rfl ⟨(tK rfl)⟩ (xA (xO (by exact xC (N':=["_law_one","_law_other"]) (cOk S) (by decide+kernel) (iZV T xV xV) fun _ _ _ _ _ _ nd=>⟨(gT (gN nd) (gN nd)),f0,fun _=>bE (xU l7 hr (xA xV (xA xV xA0)))⟩)) xA0))))) s0)) s0) (s1 (sR (Cd (D9 ⟨(nJ hu)⟩ xV xV) (xBo (D9 ⟨(nJ hu)⟩ (xO (xI T rfl xV)) (xO (xI T rfl xV)))))) s0))
theorem pJ(a:Fz Z.K Z.mg "_law_same" kA)(T:Tx Z.mg): ∀m,Oz Z m "_law_same" ["_law_found","_law_due_here"] (jz m)
 |0=>oz0 a pO
 |m+1=>uT a T (pJ a T m)
abbrev iX:Stmt:=top 26
theorem qU:FnScope ["_law_call","_law_error","e","_law_sorts","_law_words"] ["_law_call"] (fP iX):=scM
theorem rP:BdA "_law_refused" iX ["_law_call"]:=fun _ _ _ _ _ _=>us1 fun _=>us0 rfl
abbrev nB(Z:ZZ)(k:Nat):Prop:=Rf Z iX ["_law_call","_law_error","e","_law_sorts","_law_words"] "_law_refused" "_law_call" "RiddleError" "_law_error" "e" 1 2 k [1,2,3,4] (iR CT tV) (fun z=>tV.lookup z)
theorem rf{CR:Nat}(a:Fz Z.K Z.mg "_law_refused" iX)(T:Tx Z.mg)(CK:ClsK Z.K Z.mg CT tV CR):nB Z k:=by
 have S:=qU;obtain⟨f,fd,m,F⟩:=a;refine⟨f,fd,CR,F,F.binds rP,m,fun X hX=>?_,CK.ci⟩;subst hX;refine⟨S,by decide,rfl,rfl,by decide,by decide,rfl,rfl,rfl,rfl,CK.re,by decide,_,_,_,_,_,_,_,_,_,_,_,rfl,fun e6 A outer s H L hL hr=>?_⟩;have nd:=S.nd;have hq:=hr.un;have hu:un (A.deeper (envOfC "_law_refused" (fP iX) s.heap.objs.size f e6)) 60:=by unfold un;omega
 refine⟨rfl,rfl,QS.h (show QS _ _ _ _ _ _ from(sS nd x1)),QQ.h (show QQ _ _ _ _ _ (iR CT tV) from(s1 (sI (tCmp ⟨Dk⟩ xV (xO x1)) (s1 (sR x1) s0) s0) (s1 (sS nd (qJ (xL (xE T (CK.t "NoName") xV) (xL (xE T (CK.t "NoBit") xV) (xL (xE T (CK.t "NoTurning") xV) xL0))))) (s1 (sS nd (iq ⟨hU⟩ xV (xO (qJ (xL (xE T (CK.t "NoAnswer") xV) (xL (xE T (CK.t "NoNumber") xV) (xL (xE T (CK.t "NoClause") xV) xL0))))))) (s1 (sS nd (iq ⟨hU⟩ xV (xO (qJ (xL (xE T (CK.t "NoPutting") xV) (xL (xE T (CK.t "TooMany") xV) (xL (xE T (CK.t "NoRiddle") xV) xL0))))))) (s1 (sE (Im xV (xE T (CK.t "BadNote") xV))) (s1 (sI (tW (wOr (tNot (rX (xEV T CK.vm CK.v xV))) (Ed (tCmp ⟨(yK hu)⟩ (xO (JJ CK.su (xA (xO (by exact xC (N':=["_law_kind"]) (cOk S) (by decide+kernel) (iSV xV) fun _ _ _ _ _ _ nd=>⟨(gN nd),f0,fun _=>bE (xT T rfl ⟨Bk⟩ (xA xV xA0))⟩)) xA0))) (xO x3))))) (s1 (sR x4) s0) s0) (s1 (sS nd (qJ (xL x4 (xL x4 (xL x4 (xL x4 (xL x4 (xL x4 (xL x4 (xL x4 (xL x4 (xL x4 xL0)))))))))))) (s1 (sR (xIx xV (xO (JM xV)))) s0)))))))))⟩
abbrev lH:Stmt:=top 27
theorem wd:FnScope ["_law_names","_law_many","_law_found","_law_number","_law_lot"] ["_law_names","_law_many"] (fP lH):=scM
abbrev rl(Z:ZZ)(k:Nat):Prop:=Oz Z k "_law_lots" ["_law_names","_law_many"] kc
theorem xq:BdA "_law_lots" lH ["_law_names","_law_many"]:=fun _ _ _ _ _ _=>us1 fun _=>us1 fun _=>us0 rfl
theorem wC(a:Fz Z.K Z.mg "_law_lots" lH)(T:Tx Z.mg):rl Z (k+1):=by
 have S:=wd;refine ozB (asg:=[2,3,4]) (fs:=lX) a S xq fun f e6 A outer s H E L hL hr hu v8 x6 au nd=>?_;exact(s1 (sS nd (qJ xL0)) (s1 (sF (iR1 T (xA (xO (iq ⟨E9⟩ (xO x3) xV)) xA0)) (gN nd) (s1 (sS nd (xT T rfl ⟨jZ⟩ (xA (xO (by exact xC (N':=["_law_number","_law_name"]) (cOk S) (by decide+kernel) (iR2 T (xA (xO x3) (xA (xO (iq ⟨hU⟩ xV (xO x3))) xA0))) fun _ _ _ _ _ _ nd=>⟨(gN nd),(f1 (tCmp ⟨(nJ hu)⟩ (xO (iq ⟨Fb⟩ (xO (iq ⟨E8⟩ xV (xO (iq ⟨mU⟩ xV (xO x3))))) (xO x3))) (xO x3))),fun _=>bE xW⟩)) xA0))) (s1 (sI (tCmp ⟨(nJ hu)⟩ (xO (xB T rfl ⟨lD⟩ (xA xV xA0))) xV) (s1 (sE (Im xV xW)) s0) s0) s0))) (s1 (sRV (fun h=>absurd (hL _ h) (by decide))) s0)))
abbrev mS:Stmt:=top 28
theorem yA:FnScope ["_law_names","_law_least","_law_most","_law_clauses"] ["_law_names","_law_least","_law_most"] (fP mS):=scM
abbrev tj(Z:ZZ)(k:Nat):Prop:=Oz Z k "_law_due" ["_law_names","_law_least","_law_most"] kF
theorem zm:BdA "_law_due" mS ["_law_names","_law_least","_law_most"]:=fun _ _ _ _ _ _=>us1 fun _=>us1 fun _=>us1 fun _=>us0 rfl
theorem yM(a:Fz Z.K Z.mg "_law_due" mS)(T:Tx Z.mg)(O_law_whole:pK Z k)(O_law_lots:rl Z k):tj Z (k+1):=by
 have S:=yA;refine ozB (asg:=[3]) (fs:=mF) a S zm fun f e6 A outer s H E L hL hr hu v8 x6 au nd=>?_;exact(s1 (sI (tW (wOr (tNot (rX (xB T rfl ⟨(tK rfl)⟩ (xA (xO (by exact xC (N':=["_law_number"]) (cOk S) (by decide+kernel) (iS (qI (xL xW (xL xW (xL xW xL0))))) fun _ _ _ _ _ _ nd=>⟨(gN nd),f0,fun _=>bE (xU O_law_whole hr (xA xV xA0))⟩)) xA0)))) (Ed (tNot (tCh (xO x3) xV (xO x3)))))) (s1 (sR x1) s0) s0) (s1 (sI (tNot (tC3 (xO x3) xV xV xV)) (s1 (sR x1) s0) s0) (s1 (sC (N':=["_law_lot"]) nd (cOk S) (by decide+kernel) (iS (xU O_law_lots hr (xA xV (xA (xO (iq ⟨hU⟩ xV (xO x3))) xA0)))) fun _ _ _ _ _ _ nd=>⟨(gN nd),f0,fun _=>bE (xT T rfl ⟨jZ⟩ (xA (xO (by exact xC (N':=["_law_name"]) (zg rfl rfl (by with_unfolding_all rfl)) (by decide+kernel) (iS xW) fun _ _ _ _ _ _ nd=>⟨(gN nd),f0,fun _=>bE (Gn xV)⟩)) xA0))⟩) (s1 (sI (tCmp ⟨(uS (.inr (.inr (.inl rfl))) hu)⟩ xV (xO x3)) (s1 (sS nd (iq ⟨hU⟩ xV (xO (xU O_law_lots hr (xA xV (xA (xO (iq ⟨hU⟩ (xO (iq ⟨mU⟩ xV xV)) (xO x3))) xA0)))))) s0) s0) (s1 (sR (qI (xL xW (xL (xT T rfl ⟨jZ⟩ (xA (xO (xB T rfl ⟨(oI x6)⟩ (xA xV xA0))) xA0)) xL0)))) s0)))))
abbrev kK:Stmt:=top 29
theorem uL:FnScope ["_law_names","_law_least","_law_most","_law_due_here"] ["_law_names","_law_least","_law_most"] (fP kK):=scM
theorem vD:BdA "_law_right" kK ["_law_names","_law_least","_law_most"]:=fun _ _ _ _ _ _=>us1 fun _=>us1 fun _=>us1 fun _=>us0 rfl
abbrev pH(Z:ZZ)(k:Nat):Prop:=OzT Z TB81 k "_law_right" ["_law_names","_law_least","_law_most"] gr
theorem uW(a:TbK Z TB81 "_law_right" kK "_law_right.<locals>.<lambda>" 228)(T:Tx Z.mg)(P_law_due:tj Z k)(R_law_refused:nB Z k)(P_crowd:Ae Z k)(P_law_same:yN Z k)(Y_crowd:zu Z k):pH Z (k+3):=by
 have S:=uL;have O_law_due:=P_law_due.up (j:=k+2) (by omega);have O_crowd:=P_crowd.up (j:=k+2) (by omega);have l7:=P_law_same.up (j:=k+2) (by omega);refine ozT (asg:=[3]) (fs:=lB) a S vD fun f e6 A outer s H E L hL hr hu v8 x6 au nd tb=>?_;exact(s1 (sS nd (xU O_law_due hr (xA xV (xA xV (xA xV xA0))))) (s1 (sI (tCmp ⟨Dk⟩ xV (xO x1)) (s1 (sR (D9 ⟨(nJ hu)⟩ (xO (xRf (N':=["_law_names","_law_least","_law_most"]) R_law_refused tb hr (cOk S) (by decide+kernel) fun _ _ _ _ _ _ _ _ hr=>⟨xU P_crowd hr (xA xV (xA xV (xA xV xA0))),zC Cc Y_crowd hr (xA xV (xA xV (xA xV xA0)))⟩)) (xO x4))) s0) s0) (s1 (sR (xU l7 hr (xA (xO (xU O_crowd hr (xA xV (xA xV (xA xV xA0))))) (xA xV xA0)))) s0)))
abbrev zM:Stmt:=top 30
theorem Gy:FnScope ["_law_script","_law_k","_law_state_here","_law_names","_law_least","_law_most","_law_odd","_law_one","_law_other","_law_row"] ["_law_script"] (fP zM):=scM
theorem HX:BdA "law" zM ["_law_script"]:=fun _ _ _ _ _ _=>us1 fun _=>us0 rfl
theorem Hz{f:fM}{fd:jq}(F:Fun Z.K "law" "law" zM f fd)(T:Tx Z.mg)(O_law_state:pL Z k)(i8:rk Z k)(j5:pH Z k):FnOk Z.P Z.w Z.K Z.mg Z.base CX0 (k+1) f fd ["_law_script"] (spT TB81 (spF Z.K nE)):=by
 have S:=Gy;refine fnU (asg:=[1,2,3,4,5,6,7,8,9]) (fs:=rH) F S fun e6 A outer s H E L hL hr hu v8 x6 au nd _ tT=>?_;exact(s1 (sF (iR1 T (xA (xO (xB T rfl ⟨(zj rfl)⟩ (xA (xO x3) (xA (xO (xB T rfl ⟨(zi rfl)⟩ (xA (xO (xB T rfl ⟨lD⟩ (xA xV xA0))) (xA (xO x3) xA0)))) xA0)))) xA0)) (gN nd) (s1 (sS nd (xU O_law_state hr (xA xV (xA xV xA0)))) (s1 (sS nd (xU i8 hr (xA xV (xA (xO x3) xA0)))) (s1 (sS nd (xU i8 hr (xA xV (xA (xO (iq ⟨hU⟩ xV (xO x3))) xA0)))) (s1 (sS nd (iq ⟨hU⟩ xV (xO (xU i8 hr (xA xV (xA (xO (iq ⟨hU⟩ (xO (iq ⟨mU⟩ xV xV)) (xO x3))) xA0)))))) (s1 (sI (tW (wOr (tNot (rX (xUT j5 tT hr (xA xV (xA xV (xA xV xA0)))))) (wOr (tNot (rX (xUT j5 tT hr (xA xV (xA (xO x3) (xA xV xA0)))))) (Ed (tNot (rX (xUT j5 tT hr (xA xV (xA xV (xA xV xA0)))))))))) (s1 (sR x2) s0) s0) (s1 (sS nd (qJ (xL x3 (xL (Gn (xO x3)) (xL x2 (xL x2 (xL x1 (xL x4 (xL (qI (xL x3 xL0)) (xL (qJ xL0) (xL (iq ⟨hU⟩ xV (xO x3)) (xL (iq ⟨uR⟩ (xO x3) (xO x3)) (xL x3 (xL x3 xL0)))))))))))))) (s1 (sP nd (xA (xO (xIx xV (xO (xU i8 hr (xA xV (xA (xO x3) xA0)))))) (xA (xO (xIx xV (xO (xU i8 hr (xA xV (xA (xO x3) xA0)))))) xA0))) (s1 (sF (iS (qJ (xL (qI (xL xW (xL xW (xL xW xL0)))) (xL (qI (xL xW (xL xW (xL xW xL0)))) (xL (qI (xL xW (xL xW (xL xW xL0)))) (xL (qI (xL xW (xL xW (xL xW xL0)))) (xL (qI (xL xW (xL xW (xL xW xL0)))) xL0))))))) (gN nd) (s1 (sI (tNot (rX (xUT j5 tT hr (xA (xO (xIx xV (xO x3))) (xA (xO (xIx xV (xO x3))) (xA (xO (xIx xV (xO x3))) xA0)))))) (s1 (sR x2) s0) s0) s0)) s0))))))))) (s1 (sR x2) s0))
end
theorem all_mk{l:PySem.W.OpenLaw}{w:gd}{K:fX}{mg:iF}{fa:fM}(cR:mg "law"=some (.ref fa))(T:Tx mg)
  (a0:Fz K mg "is_whole" lI)
  (a1:Fz K mg "is_number" kL)
  (a2:Fz K mg "check_number" jd)
  (a3:Fz K mg "picks" oo)
  (a4:Fz K mg "crowd" oq)
  (a5:Fz K mg "_law_cell_at" jP)
  (a6:Fz K mg "_law_state" kJ)
  (a7:Fz K mg "_law_take" lG)
  (a8:Fz K mg "_law_whole" kI)
  (a9:Fz K mg "_law_same" kA)
  (a10:Fz K mg "_law_refused" iX)
  (a11:Fz K mg "_law_lots" lH)
  (a12:Fz K mg "_law_due" mS)
  (a13:FzT K mg "_law_right" kK 228)
  (a14:Fz K mg "law" zM)
  (CK:ClsK K mg CT tV 24)
  (f9: ∃t,mg "MOST_NAMES"=some (.int 5 t))
  : ∃fd:FuncData,(∀(s:fQ) (v:fW),BindsTo s fd ⟨[v],[]⟩ [("_law_script",v)])/\(∀p∈TB81,∃c,PySem.W.codeHdIn K c p.1=true)/\ ∀base:Heap,K.In base->base.Ns mainGlobals mg->(∀p∈TB81,base.BuiltinsAt mg p.1)->FnOk l.prog w K mg base CX0 13 fa fd ["_law_script"] (spT TB81 (spF K nE)):=by
 obtain⟨fd,F,hb⟩:=fzL a14 cR HX;refine⟨fd,hb,aC a13.cd (aN),fun base KB _ BB=>?_⟩;have O0:=wD (Z:=⟨l.prog,w,K,mg,base⟩) (k:=0) a0 T;have O1:=uX (Z:=⟨l.prog,w,K,mg,base⟩) (k:=1) a1 T O0.up;have O2:=pV (Z:=⟨l.prog,w,K,mg,base⟩) (k:=2) a2 T O1.up;have Y2:=pT (Z:=⟨l.prog,w,K,mg,base⟩) (k:=2) a2 T CK O1.up;have O3:=wA (Z:=⟨l.prog,w,K,mg,base⟩) a3 T RD;have O4:=Dp (Z:=⟨l.prog,w,K,mg,base⟩) (k:=8) a4 T f9 O2.up O3.up;have Y4:=B9 (Z:=⟨l.prog,w,K,mg,base⟩) (k:=8) a4 T CK f9 O2.up O3.up Y2.up;have O5:=rh (Z:=⟨l.prog,w,K,mg,base⟩) (k:=0) a5 T;have O6:=uV (Z:=⟨l.prog,w,K,mg,base⟩) (k:=1) a6 T O5.up;have O7:=wB (Z:=⟨l.prog,w,K,mg,base⟩) (k:=0) a7 T;have O8:=uU (Z:=⟨l.prog,w,K,mg,base⟩) (k:=0) a8 T;have O9:=pJ (Z:=⟨l.prog,w,K,mg,base⟩) a9 T RD;have O10:=rf (Z:=⟨l.prog,w,K,mg,base⟩) (k:=9) a10 T CK;have O11:=wC (Z:=⟨l.prog,w,K,mg,base⟩) (k:=0) a11 T;have O12:=yM (Z:=⟨l.prog,w,K,mg,base⟩) (k:=1) a12 T O8.up O11.up;have O13:=uW (Z:=⟨l.prog,w,K,mg,base⟩) (k:=9) (a13.tb KB BB (by decide)) T O12.up O10 O4.up O9.up Y4.up;exact Hz (Z:=⟨l.prog,w,K,mg,base⟩) (k:=12) F T O6.up O7.up O13.up
end K81
namespace PV
open PySem PySem.Spec PyProof.Rows L2 PX
@[simp] theorem Lw(d:D)(δ:Dn):fC d δ=some ((d,false),δ):=rfl
@[simp] theorem Kk(f:F)(δ:Dn):fS f δ=(f δ).bind fun p=>some (.val p.1,p.2):=rfl
@[simp] theorem JA(x:D×Bool)(δ:Dn):fR 0 (some x::δ)=some (.slot 0,some x::δ):=rfl
@[simp] theorem Jz(a:Sl)(x:D×Bool)(δ:Dn):fR 1 (a::some x::δ)=some (.slot 1,a::some x::δ):=rfl
@[simp] theorem Jy(a b:Sl)(x:D×Bool)(δ:Dn):fR 2 (a::b::some x::δ)=some (.slot 2,a::b::some x::δ):=rfl
@[simp] theorem Jx(a b c:Sl)(x:D×Bool)(δ:Dn):fR 3 (a::b::c::some x::δ)=some (.slot 3,a::b::c::some x::δ):=rfl
@[simp] theorem Jw(a b c d:Sl)(x:D×Bool)(δ:Dn):fR 4 (a::b::c::d::some x::δ)=some (.slot 4,a::b::c::d::some x::δ):=rfl
@[simp] theorem Jv(a b c d e:Sl)(x:D×Bool)(δ:Dn):fR 5 (a::b::c::d::e::some x::δ)=some (.slot 5,a::b::c::d::e::some x::δ):=rfl
@[simp] theorem Ju(a b c d e f:Sl)(x:D×Bool)(δ:Dn):fR 6 (a::b::c::d::e::f::some x::δ)=some (.slot 6,a::b::c::d::e::f::some x::δ):=rfl
@[simp] theorem Jt(a b c d e f g:Sl)(x:D×Bool)(δ:Dn):fR 7 (a::b::c::d::e::f::g::some x::δ)=some (.slot 7,a::b::c::d::e::f::g::some x::δ):=rfl
@[simp] theorem Js(a b c d e f g h:Sl)(x:D×Bool)(δ:Dn):fR 8 (a::b::c::d::e::f::g::h::some x::δ)=some (.slot 8,a::b::c::d::e::f::g::h::some x::δ):=rfl
@[simp] theorem J9(δ:Dn)(r:D×Bool):res δ (.val r)=some r.1:=rfl
@[simp] theorem Kj(x:D×Bool)(δ:Dn):res (some x::δ) (.slot 0)=some x.1:=rfl
@[simp] theorem Ki(a:Sl)(x:D×Bool)(δ:Dn):res (a::some x::δ) (.slot 1)=some x.1:=rfl
@[simp] theorem Kh(a b:Sl)(x:D×Bool)(δ:Dn):res (a::b::some x::δ) (.slot 2)=some x.1:=rfl
@[simp] theorem Kg(a b c:Sl)(x:D×Bool)(δ:Dn):res (a::b::c::some x::δ) (.slot 3)=some x.1:=rfl
@[simp] theorem Kf(a b c d:Sl)(x:D×Bool)(δ:Dn):res (a::b::c::d::some x::δ) (.slot 4)=some x.1:=rfl
@[simp] theorem Ke(a b c d e:Sl)(x:D×Bool)(δ:Dn):res (a::b::c::d::e::some x::δ) (.slot 5)=some x.1:=rfl
@[simp] theorem Kd(a b c d e f:Sl)(x:D×Bool)(δ:Dn):res (a::b::c::d::e::f::some x::δ) (.slot 6)=some x.1:=rfl
@[simp] theorem Kc(a b c d e f g:Sl)(x:D×Bool)(δ:Dn):res (a::b::c::d::e::f::g::some x::δ) (.slot 7)=some x.1:=rfl
@[simp] theorem Kb(a b c d e f g h:Sl)(x:D×Bool)(δ:Dn):res (a::b::c::d::e::f::g::h::some x::δ) (.slot 8)=some x.1:=rfl
@[simp] theorem Kw(g:D->Option (D×Bool))(fa:FO)(δ:Dn):iV g fa δ=(fa δ).bind fun p=>(res p.2 p.1).bind fun x=>(g x).bind fun z=>some (z,p.2):=rfl
@[simp] theorem Kv(g:D->D->Option (D×Bool))(fa fb:FO)(δ:Dn):gj g fa fb δ=(fa δ).bind fun p=>(fb p.2).bind fun q=>(res q.2 p.1).bind fun x=>(res q.2 q.1).bind fun y=>(g x y).bind fun z=>some (z,q.2):=rfl
@[simp] theorem ID(δ:Dn):gY [] δ=some ([],δ):=rfl
@[simp] theorem JF(f:FO)(fs:List FO)(δ:Dn):gY (f::fs) δ=(f δ).bind fun p=>(gY fs p.2).bind fun q=>some (p.1::q.1,q.2):=rfl
@[simp] theorem Jr(δ:Dn):nI δ []=some []:=rfl
@[simp] theorem Ka(δ:Dn)(o:Opd)(os:List Opd):nI δ (o::os)=(res δ o).bind fun d=>(nI δ os).bind fun l=>some (d::l):=rfl
@[simp] theorem JE(g:List D->Option (D×Bool))(fs:List FO)(δ:Dn):hV g fs δ=(gY fs δ).bind fun p=>(nI p.2 p.1).bind fun ds=>(g ds).bind fun z=>some (z,p.2):=rfl
@[simp] theorem Jq:kT []=some []:=rfl
@[simp] theorem JZ(r:D×Bool)(os:List Opd):kT (.val r::os)=(kT os).map (r.1:: ·):=rfl
@[simp] theorem Kt(fs:List F)(δ:Dn):kD fs δ=(gY (fs.map fS) δ).bind fun p=>(kT p.1).bind fun ds=>if ds.length<=sizeLine then some ((.tup ds,false),p.2) else none:=rfl
@[simp] theorem Ky(fs:List F)(δ:Dn):lZ fs δ=(gY (fs.map fS) δ).bind fun p=>(kT p.1).bind fun ds=>if ds.length<=sizeLine then some ((.lst ds,true),p.2) else none:=rfl
@[simp] theorem Lm(b o:Bool)(δ:Dn):asB ((.bl b,o),δ)=some (b,δ):=rfl
@[simp] theorem Lv(f:F)(δ:Dn):fT f δ=(f δ).bind asB:=rfl
@[simp] theorem JG(f g:FT)(δ:Dn):Jk f g δ=(f δ).bind fun p=>if p.1=true then g p.2 else some (false,p.2):=rfl
@[simp] theorem Ku(f g:FT)(δ:Dn):oF f g δ=(f δ).bind fun p=>if p.1=true then some (true,p.2) else g p.2:=rfl
@[simp] theorem JD(f:FT)(δ:Dn):iZ f δ=(f δ).bind fun p=>some (!p.1,p.2):=rfl
@[simp] theorem Kz(f g:F)(δ:Dn):wU f g δ=(f δ).bind fun p=>(asB p).bind fun q=>if q.1=true then g q.2 else some ((.bl false,false),q.2):=rfl
@[simp] theorem Li(f g:F)(δ:Dn):fOr f g δ=(f δ).bind fun p=>(asB p).bind fun q=>if q.1=true then some ((.bl true,false),q.2) else g q.2:=rfl
@[simp] theorem Kx(f:F)(δ:Dn):DL f δ=(f δ).bind fun p=>(asB p).bind fun q=>some ((.bl (!q.1),false),q.2):=rfl
@[simp] theorem Lj(t:FT)(f g:F)(δ:Dn):fIf t f g δ=(t δ).bind fun p=>if p.1=true then f p.2 else g p.2:=rfl
@[simp] theorem J7(δ:Dn):gR δ=some (.nx δ):=rfl
def nxt(g:FS):Out->Option Out
 | .nx δ1=>g δ1
 |o=>some o
@[simp] theorem Km(g:FS)(δ:Dn):nxt g (.nx δ)=g δ:=rfl
@[simp] theorem Kl(g:FS)(r:D×Bool)(δ:Dn):nxt g (.rt r δ)=some (.rt r δ):=rfl
@[simp] theorem uO(f g:FS)(δ:Dn):gm f g δ=(f δ).bind (nxt g):=by
 unfold gm
 cases f δ with
 |none=>rfl
 |some o=>cases o<;>rfl
@[simp] theorem uP(f:F)(δ:Dn):kM f δ=(f δ).bind fun p=>some (.nx p.2):=rfl
@[simp] theorem J6(f:F)(δ:Dn):jt f δ=(f δ).bind fun p=>some (.rt p.1 p.2):=rfl
@[simp] theorem Lb(t:FT)(f g:FS)(δ:Dn):sIf t f g δ=(t δ).bind fun p=>if p.1=true then f p.2 else g p.2:=rfl
@[simp] theorem J5(i:Nat)(f:F)(δ:Dn):jf i f δ=(f δ).bind fun p=>if i<p.2.length then some (.nx (p.2.set i (some p.1))) else none:=rfl
@[simp] theorem J3(tg:Tg)(f:F)(δ:Dn):JX tg f δ=(f δ).bind fun p=>(tg p.1.1 p.2).bind fun δ1=>some (.nx δ1):=rfl
@[simp] theorem Lu(g:D->Option (D×Bool))(d:D):g1 g [d]=g d:=rfl
@[simp] theorem Ls(g:D->D->Option (D×Bool))(d e:D):g2 g [d,e]=g d e:=rfl
@[simp] theorem IF(i j:Int):jY (.int i) (.int j)=some (.int (i+j),false):=rfl
@[simp] theorem La(i j:Int):PX.gSub (.int i) (.int j)=some (.int (i-j),false):=rfl
@[simp] theorem Lc(i:Int):wI (.int i)=some (.int (-i),false):=rfl
@[simp] theorem Ln(i:Int):KZ (.int i)=some (.int (if i<0 then -i else i),false):=rfl
@[simp] theorem Kp(l:List D):wL (.tup l)=some (.int l.length,false):=rfl
@[simp] theorem Kq(l:List D):wL (.lst l)=some (.int l.length,false):=rfl
@[simp] theorem J2(l:List D):mE (.lst l)=some (.tup l,false):=rfl
@[simp] theorem J1(l:List D):mE (.tup l)=some (.tup l,false):=rfl
@[simp] theorem Kn(l:List D):Gd (.tup l)=some (.lst l,true):=rfl
@[simp] theorem Ko(l:List D):Gd (.lst l)=some (.lst l,true):=rfl
@[simp] theorem Ks(b:Bool):Fs (.bl b)=some (.int (if b then 1 else 0),false):=rfl
@[simp] theorem Kr(b:Int):Fs (.int b)=some (.int b,false):=rfl
@[simp] theorem Lg(i j:Int):DD (.int i) (.int j)=some (.int (if j>i then j else i),false):=rfl
@[simp] theorem Lf(i j:Int):DC (.int i) (.int j)=some (.int (if j<i then j else i),false):=rfl
@[simp] theorem Lh(ts:List Ty)(d:D):ni ts d=some (.bl (ts.any (isT d)),false):=rfl
@[simp] theorem Lk(i j:Int):gEq (.int i) (.int j)=some (.bl (i==j),false):=by unfold gEq;rw[gh (by simp[D.dep])];simp[D.eqb]
@[simp] theorem Ld(i j:Int):gNe (.int i) (.int j)=some (.bl (!(i==j)),false):=by unfold gNe;rw[gh (by simp[D.dep])];simp[D.eqb]
@[simp] theorem Ll(i j:Bool):gEq (.bl i) (.bl j)=some (.bl (i==j),false):=by unfold gEq;rw[gh (by simp[D.dep])];simp[D.eqb]
@[simp] theorem Le(i j:Bool):gNe (.bl i) (.bl j)=some (.bl (!(i==j)),false):=by unfold gNe;rw[gh (by simp[D.dep])];simp[D.eqb]
@[simp] theorem Lo(i j:Int):oX .Lt (.int i) (.int j)=some (.bl (decide (i<j)),false):=by simp[oX,kd,gS,D.dep]
@[simp] theorem Lp(i j:Int):oX .LtE (.int i) (.int j)=some (.bl (decide (i<=j)),false):=by simp[oX,kd,gS,D.dep]
@[simp] theorem Lq(i j:Int):oX .Gt (.int i) (.int j)=some (.bl (decide (i>j)),false):=by simp[oX,kd,gS,D.dep]
@[simp] theorem Lr(i j:Int):oX .GtE (.int i) (.int j)=some (.bl (decide (i>=j)),false):=by simp[oX,kd,gS,D.dep]
@[simp] theorem JB(f:F)(δ:Dn):jW f δ=(f δ).bind fun p=>match p.1.1 with| .lst l=>some (l,p.2)| .tup l=>some (l,p.2)|_=>none:=rfl
@[simp] theorem J8(fi:FIt)(tg:Tg)(fb:FS)(δ:Dn):uN fi tg fb δ=(fi δ).bind fun p=>vo tg fb p.1 p.2:=rfl
@[simp] theorem JC(δ:Dn):ki δ=some (true,δ):=rfl
@[simp] theorem Eo(f:F)(acc:List D)(δ:Dn):jK f acc δ=(f δ).bind fun p=>if acc.length<sizeLine then some (acc++[p.1.1],p.2) else none:=rfl
abbrev stt(a:Int)(b:Bool):Sl:=some (.lst [.int a,.bl b],true)
@[simp] theorem En(ev:EvF)(fs:List FO)(δ:Dn):gp ev fs δ=(gY fs δ).bind fun p=>(hZ p.2 p.1).bind fun args=>if(gn p.1 args).Nodup then(ev args).bind fun q=>some (q.1,wb p.1 args q.2 p.2) else none:=rfl
@[simp] theorem Ic(δ:Dn):hZ δ []=some []:=rfl
@[simp] theorem IE(δ:Dn)(o:Opd)(os:List Opd):hZ δ (o::os)=(rS δ o).bind fun a=>(hZ δ os).bind fun l=>some (a::l):=rfl
@[simp] theorem KA(δ:Dn)(r:D×Bool):rS δ (.val r)=some (r.1,false):=rfl
@[simp] theorem KC(δ:Dn)(i:Nat):rS δ (.slot i)=(δ[i]?).join:=rfl
theorem AL(a:Int)(b:Bool)(m:Int)(hm:0<m)(cB:m<1073741824):
  ∃v a',0<=v/\v<m/\gz [(.lst [.int a,.bl b],true),(.int m,false)]=some ((.int v,false),[some (.lst [.int a',.bl b],true),some (.int m,false)]):=by
 cases b
 ·have h1: ∀x:Int, -18446744073709551616<x%2147483647/\x%2147483647<18446744073709551616:=fun x=>by omega
  have h2: ∀x:Int, -18446744073709551616<x%2147483629/\x%2147483629<18446744073709551616:=fun x=>by omega
  simp only[gz,kQ];simp[evF,gIx,atI,ixN,se,gI,DE,wK,vg,oR,lJ,gU,gn,wb,Bl,oO,CMul,hm,cB,h1,h2];exact⟨Int.emod_nonneg _ (by omega),Int.emod_lt_of_pos _ hm⟩
 ·simp only[gz,kQ];simp[evF,gIx,atI,ixN,se,gI,DE,wK,vg,oR,lJ,gU,gn,wb,Bl,oO,CMul,hm,cB];exact⟨Int.emod_nonneg _ (by omega),Int.emod_lt_of_pos _ hm⟩
theorem FG(x y:Int):(x==y)=decide (x=y):=rfl
theorem DM{g:List D->Option (D×Bool)}{fs:List FO}{δ δ':Dn}{os:List Opd}{ds:List D}{z:D×Bool}(h1:gY fs δ=some (os,δ'))(h2:nI δ' os=some ds)(h3:g ds=some z):hV g fs δ=some (z,δ'):=by
 unfold hV;rw[h1];simp only[iM];rw[h2];simp only[iM];rw[h3];rfl
theorem zd(h1:args.length=np/\np<=n/\(args.zipIdx.all fun p=>!(p.1.2&&asg.contains p.2))=true)(h2:f (args.map some++List.replicate (n-np) none)=some (.rt r δ)):evF n np asg f args=some (r,gU args δ):=by
 unfold evF;rw[gh h1,h2]
theorem jx(h:f δ=some (.nx δ1)):gm f g δ=g δ1:=by unfold gm;rw[h];rfl
theorem kj{r}(h:f δ=some (.rt r δ1)):gm f g δ=some (.rt r δ1):=by unfold gm;rw[h];rfl
theorem Ek{r}(h:f δ=some (r,δ1)):jt f δ=some (.rt r δ1):=by unfold jt;rw[h];rfl
theorem ot{r}(h:f δ=some (r,δ1))(hi:i<δ1.length):jf i f δ=some (.nx (δ1.set i (some r))):=by unfold jf;rw[h];simp only[iM];rw[gh hi]
theorem wR(h:f δ=some ((.bl b,o),δ1)):fT f δ=some (b,δ1):=by unfold fT;rw[h];rfl
theorem kN{r}(h:f δ=some (r,δ1)):fS f δ=some (.val r,δ1):=by unfold fS;rw[h];rfl
theorem qg(h1:fa δ=some (o1,δ1))(h2:fb δ1=some (o2,δ2))(h3:res δ2 o1=some x)(h4:res δ2 o2=some y)(h5:g x y=some z):gj g fa fb δ=some (z,δ2):=by
 unfold gj;rw[h1];simp only[iM];rw[h2];simp only[iM];rw[h3,h4];simp only[iM];rw[h5];rfl
theorem oE{ev:EvF}{fs:List FO}{δ δ1:Dn}{os:List Opd}{args:List (D×Bool)}{r:D×Bool}{outs:Dn}(h1:gY fs δ=some (os,δ1))(h2:hZ δ1 os=some args)(h3:(gn os args).Nodup)(h4:ev args=some (r,outs)):gp ev fs δ=some (r,wb os args outs δ1):=by
 unfold gp;rw[h1];simp only[iM];rw[h2];simp only[iM];rw[gh h3,h4];rfl
theorem vp(h:f δ=some (false,δ1)):oF f g δ=g δ1:=by unfold oF;rw[h];rfl
theorem HN(h:f δ=some (true,δ1)):oF f g δ=some (true,δ1):=by unfold oF;rw[h];rfl
theorem lC(h:f δ=some (b,δ1)):iZ f δ=some (!b,δ1):=by unfold iZ;rw[h];rfl
theorem IB(h:t δ=some (false,δ1)):sIf t f g δ=g δ1:=by unfold sIf;rw[h];rfl
theorem wj(h:t δ=some (true,δ1)):sIf t f g δ=f δ1:=by unfold sIf;rw[h];rfl
theorem oY{fa fb:FO}{δ δ1 δ2:Dn}{o1 o2:Opd}(h1:fa δ=some (o1,δ1))(h2:fb δ1=some (o2,δ2)):gY [fa,fb] δ=some ([o1,o2],δ2):=by
 simp only[gY];rw[h1];simp only[iM];rw[h2];rfl
theorem DN{fa:FO}{δ δ1:Dn}{o1:Opd}(h1:fa δ=some (o1,δ1)):gY [fa] δ=some ([o1],δ1):=by
 simp only[gY];rw[h1];rfl
theorem zO(h:fi δ=some (ds,δ1)):uN fi tg fb δ=vo tg fb ds δ1:=by unfold uN;rw[h];rfl
theorem nL{os}(h1:fa δ=some (o1,δ1))(h2:gY fs δ1=some (os,δ2)):gY (fa::fs) δ=some (o1::os,δ2):=by
 simp only[gY];rw[h1];simp only[iM];rw[h2];rfl
theorem FE(ns:nQ)(k:Nat): ∃c,je [(.lst (ns.map .int),false),(.int k,false)]=some ((.int c,false),[some (.lst (ns.map .int),false),some (.int k,false)]):=by
 by_cases hk:k<ns.length
 ·refine⟨ns[k],?_⟩;simp[je,jH,evF,gIx,atI,ixN,gU,hk]
 ·refine⟨0,?_⟩;simp[je,jH,evF,gU,hk]
theorem F5:vg (.int 10) (.int 18)=some (.int 1000000000000000000,false):=by
 have:oO 10 18:=by unfold oO;decide+kernel
 show((if oO 10 18 then some (D.int (10^(18:Int).toNat)) else none).map fun z=>(z,false))=_;rw[gh this];rfl
theorem IL:vg (.int 10) (.int 29)=some (.int 100000000000000000000000000000,false):=by
 have:oO 10 29:=by unfold oO;decide+kernel
 show((if oO 10 29 then some (D.int (10^(29:Int).toNat)) else none).map fun z=>(z,false))=_;rw[gh this];rfl
theorem Ct(ns:nQ)(k:Nat): ∃a b,jl [(.lst (ns.map .int),false),(.int k,false)]=some ((.lst [.int a,.bl b],true),[some (.lst (ns.map .int),false),some (.int k,false)]):=by
 obtain⟨c,hc⟩:=FE ns k;by_cases h:c>=1000000000000000000
 ·refine⟨c-1000000000000000000,true,?_⟩;simp[jl,km,evF,hc,gn,wb,F5,h,ml,gU]
 ·refine⟨c%2147483647,false,?_⟩;simp[jl,km,evF,hc,gn,wb,F5,h,ml,gU,se,gI]
theorem wk{r}(h:f δ=some (r,δ1)):kM f δ=some (.nx δ1):=by unfold kM;rw[h];rfl
theorem Fp{f:FO}{δ δ1:Dn}{o:Opd}{n:Nat}(h1:f δ=some (o,δ1))(h2:res δ1 o=some (.int n))(hn:n<=63):A9 f δ=some (ji 0 n,δ1):=by
 have hb:(-(2^62)<=(n:Int)/\(n:Int)<2^62):=⟨by omega,by omega⟩
 have h3:gY [f] δ=some ([o],δ1):=by simp[gY,h1]
 have h4:nI δ1 [o]=some [.int n]:=by simp[nI,h2]
 unfold A9;rw[h3];simp only[iM];rw[h4];simp only[];rw[gh hb];rfl
theorem wZ: ∀t:List Int,D.depL (t.map .int)=0
 |[]=>by simp[D.depL]
 |s::t=>by simp[D.depL,D.dep,wZ t]
theorem wW: ∀a b:List Int,D.eqbL (a.map .int) (b.map .int)=decide (a=b)
 |[],[]=>by simp[D.eqbL]
 |[],_::_=>by simp[D.eqbL]
 |_::_,[]=>by simp[D.eqbL]
 |x::a,y::b=>by simp[D.eqbL,D.eqb,wW a b,Bool.decide_and,FG]
@[simp] theorem Ig(a b:nQ):gEq (.lst (a.map .int)) (.lst (b.map .int))=some (.bl (decide (a=b)),false):=by unfold gEq;rw[gh (by simp[D.dep,wZ])];simp[D.eqb,wW]
theorem Eg(pre:Dn)(x:Sl)(d:D):gP pre.length d (pre++[x])=some (pre++[some (d,false)]):=by
 unfold gP;rw[gh (by simp)];simp[List.set_append]
theorem tL(p:D->Bool): ∀l:List D,kS (l.map fun d=> .bl (p d))=some (l.map p)
 |[]=>rfl
 |d::l=>by simp[kS,tL p l]
theorem DY(p:D->Bool)(l:List D):wM (.lst (l.map fun d=> .bl (p d)))=some (.bl (l.all p),false):=by
 simp[wM,tL,List.all_map,Function.comp_def]
def wh:D->Bool
 | .int _=>true
 |_=>false
def iOf:D->Int
 | .int s=>s
 |_=>0
theorem vP(d:D):kR [(d,false)]=some ((.bl (wh d),false),[some (d,false)]):=by
 cases d<;>simp[kR,mG,evF,gU,wh,isT]
theorem A6(d:D):ie [(d,false)]=some ((.bl (wh d),false),[some (d,false)]):=by
 cases d<;>simp[ie,jL,evF,gU,wh,isT]
theorem A4(d:D)(lo hi:Int):iT [(d,false),(.int lo,false),(.int hi,false)]=some ((.bl (match d with| .int s=>decide (lo<=s)&&decide (s<=hi)|_=>false),false),[some (d,false),some (.int lo,false),some (.int hi,false)]):=by
 cases d with
 |int s=>by_cases h:lo<=s<;>simp[iT,kn,evF,gU,vP,wh,gn,wb,kE,gS,h]
 |_=>simp[iT,kn,evF,gU,vP,wh,gn,wb]
theorem yp(h:wh d=true):d= .int (iOf d):=by cases d<;>simp_all [wh,iOf]
theorem ixl(h0:0<=v)(h:v<L.length):gIx (.lst L) (.int v)=some (L.getD v.toNat .non,false):=by
 have h1:v.toNat<L.length:=by omega
 simp[gIx,atI,ixN,h0,h,h1]
theorem mw(a:Int)(b:Bool)(m:Int)(hm:0<m)(cB:m<1073741824): ∃v a',0<=v/\v<m/\ ∀(fo:FO) (c0 c1:Sl) (δ:Dn) (o:Opd),fo (c0::c1::stt a b::δ)=some (o,c0::c1::stt a b::δ)->rS (c0::c1::stt a b::δ) o=some (.int m,false)->gp gz [fR 2,fo] (c0::c1::stt a b::δ)=some ((.int v,false),c0::c1::stt a' b::δ):=by
 obtain⟨v,a',h0,h1,e⟩:=AL a b m hm cB;refine⟨v,a',h0,h1,fun fo c0 c1 δ o h2 h3=>?_⟩;refine(oE (os:=[.slot 2,o]) (args:=[(.lst [.int a,.bl b],true),(.int m,false)]) (oY rfl h2) ?_ ?_ e).trans ?_
 ·simp[h3]
 ·cases o<;>simp[gn]
 ·cases o<;>simp[wb]
theorem A8(h:f δ=some ((.lst l,o),δ1)):jW f δ=some (l,δ1):=by unfold jW;rw[h];rfl
abbrev ii(n:Int):Sl:=some (.int n,false)
abbrev frz(ds:List D):Dn:=ds.map fun d=>some (d,false)
theorem mD: ∀(os:List Opd) (ds:List D),gn os (ds.map fun d=>(d,false))=[]
 |[],_=>by simp[gn]
 |_::_,[]=>by simp[gn]
 |o::os,d::ds=>by cases o<;>simp[gn,mD os ds]
theorem vQ: ∀(os:List Opd) (ds:List D) (outs δ:Dn),wb os (ds.map fun d=>(d,false)) outs δ=δ
 |[],_,_,_=>by simp[wb]
 |_::_,[],_,_=>by simp[wb]
 |_::_,_::_,[],_=>by simp[wb]
 |o::os,d::ds,x::xs,δ=>by cases o<;>simp[wb,vQ os ds xs]
theorem HV{f:F}{ti:FT}{g:D->D}{p:D->Bool}{pre:Dn}: ∀(l acc:List D) (x:Sl),(∀d∈l,ti (pre++[some (d,false)])=some (p d,pre++[some (d,false)])/\(p d=true-> ∃o,f (pre++[some (d,false)])=some ((g d,o),pre++[some (d,false)])))->acc.length+l.length<=sizeLine->
  ∃x',pP (gP pre.length) ti (jK f) l acc (pre++[x])=some (acc++(l.filter p).map g,pre++[x'])
 |[],acc,x,_,_=>⟨x,by simp[pP]⟩
 |d::l,acc,x,h,hl=>by
  obtain⟨h1,h2⟩:=h d jm;have hs:acc.length<sizeLine:=by simp at hl;omega
  rw[pP,Eg];simp only[iM];rw[h1]
  cases hp:p d with
  |false=>
   obtain⟨x',e⟩:=HV l acc (some (d,false)) (fun d' h'=>h d' (iO _ h')) (by simp at hl ⊢;omega);exact⟨x',by simp[e,hp]⟩
  |true=>
   obtain⟨o,hd⟩:=h2 hp;obtain⟨x',e⟩:=HV l (acc++[g d]) (some (d,false)) (fun d' h'=>h d' (iO _ h')) (by simp at hl ⊢;omega);refine⟨x',?_⟩;simp only[iM,gQ,Eo];rw[hd];simp only[iM];rw[gh hs];simp only[iM];rw[e];simp[hp]
theorem HS{caps:gx}{fi:FIt}{f:F}{ti:FT}{δ δ1:Dn}{l args:List D}(g:D->D)(p:D->Bool)(h1:fi δ=some (l,δ1))(h2:hZ δ1 (caps.map .slot)=some (args.map fun d=>(d,false)))(hc:args.length=caps.length)
  (h: ∀d∈l,ti (frz args++[some (d,false)])=some (p d,frz args++[some (d,false)])/\(p d=true-> ∃o,f (frz args++[some (d,false)])=some ((g d,o),frz args++[some (d,false)])))(hl:l.length<=10000):
  jB caps 1 fi (gP caps.length) ti (jK f) δ=some ((.lst ((l.filter p).map g),true),δ1):=by
 obtain⟨x',e⟩:=HV (f:=f) (ti:=ti) (g:=g) (p:=p) (pre:=frz args) l [] none h (by rw[ml];simp;omega);unfold jB;rw[h1];simp only[iM];rw[h2];simp only[iM,mD,si,gQ,List.map_map,vQ];rw[show gP caps.length=gP (frz args).length from by rw[nv,hc]];rw[show((args.map (some∘fun d=>(d,false)))++List.replicate 1 none:Dn)=frz args++[none] from rfl,e];simp
theorem HR{caps:gx}{fi:FIt}{f:F}{δ δ1:Dn}{l args:List D}(g:D->D)(h1:fi δ=some (l,δ1))(h2:hZ δ1 (caps.map .slot)=some (args.map fun d=>(d,false)))(hc:args.length=caps.length)
  (h: ∀d∈l,∃o,f (frz args++[some (d,false)])=some ((g d,o),frz args++[some (d,false)]))(hl:l.length<=10000):
  jB caps 1 fi (gP caps.length) ki (jK f) δ=some ((.lst (l.map g),true),δ1):=by
 rw[HS g (fun _=>true) h1 h2 hc (fun d hd=>⟨rfl,fun _=>h d hd⟩) hl,List.filter_eq_self.mpr fun _ _=>rfl]
theorem DT{caps:gx}{fi:FIt}{f:F}{δ δ1:Dn}{l args:List D}(p:D->Bool)(h1:fi δ=some (l,δ1))(h2:hZ δ1 (caps.map .slot)=some (args.map fun d=>(d,false)))(hc:args.length=caps.length)
  (h: ∀d∈l,∃o,f (frz args++[some (d,false)])=some ((.bl (p d),o),frz args++[some (d,false)]))(hl:l.length<=10000):
  hV (g1 wM) [fS (jB caps 1 fi (gP caps.length) ki (jK f))] δ=some ((.bl (l.all p),false),δ1):=
 DM (DN (kN (HR (fun d=> .bl (p d)) h1 h2 hc h hl))) rfl (DY p l)
theorem vn{tg:Tg}{fb:FS}(I:List D->Dn->Prop)(step: ∀d ds δ,I (d::ds) δ-> ∃δ1 δ2,tg d δ=some δ1/\fb δ1=some (.nx δ2)/\I ds δ2): ∀(ds:List D) (δ:Dn),I ds δ-> ∃δ',I [] δ'/\vo tg fb ds δ=some (.nx δ')
 |[],δ,h=>⟨δ,h,rfl⟩
 |d::ds,δ,h=>by
  obtain⟨δ1,δ2,h1,h2,h3⟩:=step d ds δ h;obtain⟨δ',h4,h5⟩:=vn I step ds δ2 h3;refine⟨δ',h4,?_⟩;unfold vo;rw[h1];simp only[iM];rw[h2];exact h5
def RJ(fo:FO)(δ:Dn)(d:D):Prop:= ∃o,fo δ=some (o,δ)/\res δ o=some d
def FJ(fo:FO)(δ:Dn)(d:D):Prop:= ∃o,fo δ=some (o,δ)/\res δ o=some d/\rS δ o=some (d,false)
theorem FJ.r{fo:FO}{δ:Dn}{d:D}(h:FJ fo δ d):RJ fo δ d:=let⟨o,a,b,_⟩:=h;⟨o,a,b⟩
theorem jV{i:Nat}{δ:Dn}{d:D}(h:δ[i]?=some (some (d,false))):FJ (fR i) δ d:=⟨.slot i,by unfold fR;rw[h],by unfold res;simp[h],by simp[h]⟩
theorem jE{f:F}{δ:Dn}{d:D}{b:Bool}(h:f δ=some ((d,b),δ)):FJ (fS f) δ d:=⟨.val (d,b),kN h,rfl,rfl⟩
theorem jU1{ev:EvF}{fa:FO}{δ:Dn}{a:D}{r:D×Bool}{outs:Dn}(h:ev [(a,false)]=some (r,outs))(ha:FJ fa δ a):gp ev [fa] δ=some (r,δ):=by
 obtain⟨o,h1,_,h3⟩:=ha;refine(oE (DN h1) (args:=[a].map fun d=>(d,false)) (by simp[h3]) (by rw[mD];exact si) h).trans ?_;rw[vQ]
theorem jU2{ev:EvF}{fa fb:FO}{δ:Dn}{a b:D}{r:D×Bool}{outs:Dn}(h:ev [(a,false),(b,false)]=some (r,outs))(ha:FJ fa δ a)(hb:FJ fb δ b):gp ev [fa,fb] δ=some (r,δ):=by
 obtain⟨o,h1,_,h3⟩:=ha;obtain⟨o',k1,_,k3⟩:=hb;refine(oE (oY h1 k1) (args:=[a,b].map fun d=>(d,false)) (by simp[h3,k3]) (by rw[mD];exact si) h).trans ?_;rw[vQ]
theorem jO{g:D->D->Option (D×Bool)}{fa fb:FO}{δ:Dn}{a b:D}{r:D×Bool}(h:g a b=some r)(ha:RJ fa δ a)(hb:RJ fb δ b):gj g fa fb δ=some (r,δ):=by
 obtain⟨o,h1,h2⟩:=ha;obtain⟨o',k1,k2⟩:=hb;exact qg h1 k1 h2 k2 h
theorem no{t:FT}{f:FS}{δ:Dn}(g:FS)(h:t δ=some (false,δ)):gm (sIf t f gR) g δ=g δ:=(jx ((IB h).trans rfl))
theorem zr{f:FS}{x:XS}{δ δ1:Dn}(h:f δ=some (.nx δ1))(hf:wN δ1=true):AF f x δ=x δ1:=by unfold AF;rw[h];simp only[iM];rw[gh hf]
theorem Ij{t:FT}{x y:XS}{δ:Dn}(h:t δ=some (true,δ))(hf:wN δ=true):zIf t x y δ=x δ:=by unfold zIf;rw[h];simp only[iM];rw[gh hf];rfl
theorem Ik{t:FT}{x y:XS}{δ:Dn}(h:t δ=some (false,δ))(hf:wN δ=true):zIf t x y δ=y δ:=by unfold zIf;rw[h];simp only[iM];rw[gh hf];rfl
theorem wV{n np:Nat}{asg:gx}{f:FS}{args:List (D×Bool)}(h:f (args.map some++List.replicate (n-np) none)=none):evF n np asg f args=none:=by
 unfold evF;split
 ·rw[h]
 ·rfl
theorem Fw{caps:gx}{f:F}{x:XS}{n i:Nat}{fs:FS}{CI:Str->Option Nat}{δ:Dn}{args:List (D×Bool)}{c:Str}{C:Nat}{d:D}(h1:hZ δ (caps.map .slot)=some args)(h2:(args.all fun a=>!a.2)=true)(h3:f (args.map some)=none)(h4:x (args.map some)=some c)(h5:CI c=some C)(h6:sT n i fs (.oth (.exc C) [] [])=some d):DK caps f x n i fs CI δ=some ((d,false),δ):=by
 unfold DK;rw[h1];simp only[iM];rw[gh h2,h3];simp only[];rw[h4];simp only[iM];rw[h5];simp only[iM];rw[h6];rfl
theorem zc{ev:EvF}{fs:List FO}{δ δ1:Dn}{os:List Opd}{args:List (D×Bool)}(h1:gY fs δ=some (os,δ1))(h2:hZ δ1 os=some args)(h3:ev args=none):gp ev fs δ=none:=by
 rw[En,h1];simp only[iM];rw[h2];simp only[iM];rw[h3];split<;>rfl
theorem AK:sT 5 1 (iR CT tV) (.oth (.exc 85) [] [])=some (.str "number"):=by kernel_rfl
theorem JY:(fun z=>tV.lookup z) ("NoNumber":Str)=some 85:=by kernel_rfl
def CB(n l m:Nat):Bool:=match gr [(.int n,false),(.int l,false),(.int m,false)] with
 |some ((.bl true,false),_)=>true
 |_=>false
theorem rg0: ∀n,n<4-> ∀l,l<n+1-> ∀m,m<n+1->l<=m->CB n l m=true:=by decide+kernel
theorem rg4: ∀l,l<5-> ∀m,m<5->l<=m->CB 4 l m=true:=by decide+kernel
theorem rg5: ∀l,l<6-> ∀m,m<6->l<=m->CB 5 l m=true:=by decide+kernel
theorem GA{n l m:Nat}(h1:n<=5)(h2:l<=m)(h3:m<=n):CB n l m=true:=by
 rcases(show n<4\/n=4\/n=5 by lia) with h|rfl|rfl
 ·exact rg0 n h l (by lia) m (by lia) h2
 ·exact rg4 l (by lia) m (by lia) h2
 ·exact rg5 l (by lia) m (by lia) h2
theorem jU3{ev:EvF}{fa fb fc:FO}{δ:Dn}{a b c:D}{r:D×Bool}{outs:Dn}(h:ev [(a,false),(b,false),(c,false)]=some (r,outs))(ha:FJ fa δ a)(hb:FJ fb δ b)(hc:FJ fc δ c):gp ev [fa,fb,fc] δ=some (r,δ):=by
 obtain⟨o,h1,_,h3⟩:=ha;obtain⟨o',k1,_,k3⟩:=hb;obtain⟨o2,m1,_,m3⟩:=hc;refine(oE (nL h1 (oY k1 m1)) (args:=[a,b,c].map fun d=>(d,false)) (by simp[h3,k3,m3]) (by rw[mD];exact si) h).trans ?_;rw[vQ]
def nb(d:D)(lo hi:Int):Bool:=match d with| .int s=>decide (lo<=s)&&decide (s<=hi)|_=>false
theorem Dr{d:D}{lo hi:Int}(h:nb d lo hi=true): ∃s,d= .int s/\lo<=s/\s<=hi:=by
 cases d<;>simp_all [nb]
section
variable {d:D}{lo hi:Int}
theorem Jl:iZ (fT (gp iT [(fR 0),(fR 1),(fR 2)])) [some (d,false),ii lo,ii hi]=some (!nb d lo hi,[some (d,false),ii lo,ii hi]):=
 lC (wR (jU3 (A4 d lo hi) (jV rfl) (jV rfl) (jV rfl)))
theorem DU(h:nb d lo hi=true):gB [(d,false),(.int lo,false),(.int hi,false)]=some ((.non,false),[some (d,false),ii lo,ii hi]):=by
 have e:jy [some (d,false),ii lo,ii hi]=some (.nx [some (d,false),ii lo,ii hi]):=(no _ (Jl.trans (by rw[h];rfl))).trans rfl;simp only[gB,evF];rw[gh ⟨rfl,by decide,rfl⟩];show(match jy [some (d,false),ii lo,ii hi] with|some (.rt r δ)=>some (r,gU _ δ)|some (.nx δ)=>some ((D.non,false),gU _ δ)|_=>none)=_;rw[e];rfl
theorem DV(h:nb d lo hi=false):gB [(d,false),(.int lo,false),(.int hi,false)]=none:=by
 refine wV ?_;show gm _ _ [some (d,false),ii lo,ii hi]=none;rw[uO,wj (Jl.trans (by rw[h];rfl))];rfl
theorem Cb(h:nb d lo hi=false)(l1:lo.natAbs<=5)(l2:hi.natAbs<=5):iu [d,.int lo,.int hi]=some "NoNumber":=by
 show ir [some (d,false),ii lo,ii hi]=_;unfold ir;rw[Ij (Jl.trans (by rw[h];rfl)) rfl];have z: ∀n:Nat,n<=5->n.log2<1920:=fun n hn=>ub (Nat.log2_le_self n) (by lia)
 have e:Fy "a whole number from " " to " " is wanted there" (fR 1) (fR 2) [some (d,false),ii lo,ii hi]=some ((.str (((((Str.empty++"a whole number from ")++Str.ofString (toString lo))++" to ")++Str.ofString (toString hi))++" is wanted there"),false),[some (d,false),ii lo,ii hi]):=by
  show(if lo.natAbs.log2<1920/\hi.natAbs.log2<1920 then _ else none)=_;rw[gh ⟨z _ l1,z _ l2⟩]
 unfold uC;rw[e];rfl
theorem Ca(h:nb d lo hi=true):iu [d,.int lo,.int hi]=none:=by
 show ir [some (d,false),ii lo,ii hi]=_;unfold ir;rw[Ik (Jl.trans (by rw[h];rfl)) rfl];rfl
end
def ok3(a b c:D):Bool:=match a,b,c with
 | .int n,.int l,.int m=>decide (0<=n)&&decide (n<=5)&&(decide (0<=l)&&decide (l<=n))&&(decide (l<=m)&&decide (m<=n))
 |_,_,_=>false
theorem FY{x y:XS}{δ:Dn}{c:Str}(h:x δ=some c):zOr x y δ=some c:=by unfold zOr;rw[h]
theorem FX{x y:XS}{δ:Dn}(h:x δ=none):zOr x y δ=y δ:=by unfold zOr;rw[h]
section
variable {a b c:D}
theorem zU3{xc:List D->Option Str}{fa fb fc:FO}{δ:Dn}{a b c:D}(ha:FJ fa δ a)(hb:FJ fb δ b)(hc:FJ fc δ c):pE xc [fa,fb,fc] δ=xc [a,b,c]:=by
 obtain⟨o,h1,_,h3⟩:=ha;obtain⟨o',k1,_,k3⟩:=hb;obtain⟨o2,m1,_,m3⟩:=hc;unfold pE;rw[nL h1 (oY k1 m1)];simp[h3,k3,m3]
theorem uN3{ev:EvF}{fa fb fc:FO}{δ:Dn}{a b c:D}(h:ev [(a,false),(b,false),(c,false)]=none)(ha:FJ fa δ a)(hb:FJ fb δ b)(hc:FJ fc δ c):gp ev [fa,fb,fc] δ=none:=by
 obtain⟨o,h1,_,h3⟩:=ha;obtain⟨o',k1,_,k3⟩:=hb;obtain⟨o2,m1,_,m3⟩:=hc;exact zc (nL h1 (oY k1 m1)) (args:=[(a,false),(b,false),(c,false)]) (by simp[h3,k3,m3]) h
theorem DS(h:ok3 a b c=false):oH [(a,false),(b,false),(c,false)]=none/\qH [a,b,c]=some "NoNumber":=by
 let δ:Dn:=[some (a,false),some (b,false),some (c,false),none,none,none]
 have go:oB δ=none/\nZ δ=some "NoNumber":=by
  unfold oB nZ;have k1:FJ (fS (fC (.int 0))) δ (.int 0):=jE rfl;have k2:FJ (fS (fC (.int 5))) δ (.int 5):=jE rfl;have v0:FJ (fR 0) δ a:=jV rfl;have v1:FJ (fR 1) δ b:=jV rfl;have v2:FJ (fR 2) δ c:=jV rfl
  cases h1:nb a 0 5 with
  |false=>
   refine⟨?_,FY ((zU3 v0 k1 k2).trans (Cb h1 (by decide) (by decide)))⟩;rw[uO,uP,uN3 (DV h1) v0 k1 k2];rfl
  |true=>
   obtain⟨n,rfl,n0,n5⟩:=Dr h1;have s1:kM (gp gB [(fR 0),(fS (fC (.int 0))),(fS (fC (.int 5)))]) δ=some (.nx δ):=wk (jU3 (DU h1) v0 k1 k2);rw[jx s1,FX ((zU3 v0 k1 k2).trans (Ca h1)),zr s1 rfl]
   cases h2:nb b 0 n with
   |false=>
    refine⟨?_,FY ((zU3 v1 k1 v0).trans (Cb h2 (by decide) (by lia)))⟩;rw[uO,uP,uN3 (DV h2) v1 k1 v0];rfl
   |true=>
    obtain⟨l,rfl,l0,l5⟩:=Dr h2;have s2:kM (gp gB [(fR 1),(fS (fC (.int 0))),(fR 0)]) δ=some (.nx δ):=wk (jU3 (DU h2) v1 k1 v0);rw[jx s2,FX ((zU3 v1 k1 v0).trans (Ca h2)),zr s2 rfl]
    have h3:nb c l n=false:=by
     cases c<;>first|rfl|(rename_i m;simp only[ok3,nb] at h ⊢;simpa[n0,n5,l0,l5] using h)
    refine⟨?_,(zU3 v2 v1 v0).trans (Cb h3 (by lia) (by lia))⟩;rw[uO,uP,uN3 (DV h3) v2 v1 v0];rfl
 exact⟨wV go.1,go.2⟩
theorem HQ(h:ok3 a b c=false):kF [(a,false),(b,false),(c,false)]=some ((.non,false),[some (a,false),some (b,false),some (c,false)]):=by
 let δ:Dn:=[some (a,false),some (b,false),some (c,false),none]
 have e1:hV (g1 wM) [(fS (jB [] 1 (jW (kD [(hJ 0),(hJ 1),(hJ 2)])) (gP 0) ki (jK (gp ie [(fR 0)]))))] δ=some ((.bl ([a,b,c].all wh),false),δ):=
  DT (caps:=[]) (args:=[]) (l:=[a,b,c]) (δ1:=δ) wh (by simp[δ,hJ,ml]) rfl rfl (fun d _=>⟨false,jU1 (A6 d) (jV rfl)⟩) (by simp)
 refine zd (δ:=δ) ⟨rfl,by decide,rfl⟩ ?_;by_cases hw:[a,b,c].all wh=true
 ·simp only[List.all_cons,List.all_nil,Bool.and_true,kv] at hw;obtain⟨n,rfl⟩: ∃n,a= .int n:=⟨_,yp hw.1⟩
  obtain⟨l,rfl⟩: ∃n,b= .int n:=⟨_,yp hw.2.1⟩
  obtain⟨m,rfl⟩: ∃n,c= .int n:=⟨_,yp hw.2.2⟩
  have e2:iZ (fT (hV (g1 wM) [(fS (jB [] 1 (jW (kD [(hJ 0),(hJ 1),(hJ 2)])) (gP 0) ki (jK (gp ie [(fR 0)]))))])) δ=some (false,δ):=lC (b:=true) (wR (o:=false) (e1.trans (by simp[wh])))
  have e3:iZ (fT (kE .LtE .LtE (fS (fC (.int 0))) (fR 0) (fS (fC (.int 5))))) δ=some (!(decide (0<=n)&&decide (n<=5)),δ):=by
   refine lC (wR (o:=false) ?_);by_cases q:0<=n<;>simp[kE,δ,gS,q]
  by_cases h5:0<=n/\n<=5
  ·have e4:iZ (lN .LtE .LtE .LtE (fS (fC (.int 0))) (fR 1) (fR 2) (fR 0)) δ=some (true,δ):=by
    refine lC (b:=false) ?_;simp only[ok3] at h;by_cases q1:0<=l
    ·by_cases q2:l<=m
     ·have q3: ¬m<=n:=fun q3=>by
       rw[qm h5.1,qm h5.2,qm q1,qm q2,qm q3,qm (show l<=n by lia)] at h;cases h
      simp[lN,δ,gS,q1,q2,q3]
     ·simp[lN,δ,gS,q1,q2]
    ·simp[lN,δ,gS,q1]
   refine(no (δ:=δ) _ ((vp e2).trans (e3.trans (by simp[h5])))).trans (kj ((wj e4).trans (kj rfl)))
  ·refine kj ((wj (δ1:=δ) ((vp e2).trans (e3.trans ?_))).trans (kj rfl))
   congr 2
   simp only[sx,Bool.and_eq_false_iff,decide_eq_false_iff_not]
   lia
 ·refine kj ((wj (δ1:=δ) (HN (lC (b:=false) (wR (o:=false) (e1.trans ?_))))).trans (kj rfl));rw[show[a,b,c].all wh=false by simpa using hw]
theorem El(a b c:D): ∃outs,gr [(a,false),(b,false),(c,false)]=some ((.bl true,false),outs):=by
 cases h:ok3 a b c with
 |true=>
  obtain⟨n,l,m,rfl,rfl,rfl,h1,h2,h3⟩: ∃n l m:Nat,a= .int n/\b= .int l/\c= .int m/\n<=5/\l<=m/\m<=n:=by
   cases a<;>cases b<;>cases c<;>simp only[ok3] at h<;>first|cases h|skip
   rename_i n l m;simp only[kv,decide_eq_true_eq] at h;exact⟨n.toNat,l.toNat,m.toNat,lS D.int (by lia),lS D.int (by lia),lS D.int (by lia),by lia,by lia,by lia⟩
  have:=GA h1 h2 h3;unfold CB at this;split at this
  ·rename_i outs e;exact⟨outs,e⟩
  ·cases this
 |false=>
  let δ:Sl->Dn:=fun x=>[some (a,false),some (b,false),some (c,false),x]
  have v0: ∀δ',FJ (fR 0) (some (a,false)::δ') a:=fun _=>jV rfl;obtain⟨c1,c2⟩:=DS h;refine⟨_,zd (δ:=δ (some (.non,false))) ⟨rfl,by decide,rfl⟩ ((jx (δ1:=δ (some (.non,false))) (ot (i:=3) (δ1:=δ none) (jU3 (HQ h) (jV rfl) (jV rfl) (jV rfl)) (show 3<4 by decide))).trans (kj ((wj (δ1:=δ (some (.non,false))) rfl).trans (kj (Ek (jO (a:= .str "number") (b:= .str "number") ?_ (jE (b:=false) (Fw (args:=[(a,false),(b,false),(c,false)]) rfl rfl (uN3 c1 (jV rfl) (jV rfl) (jV rfl)) ((zU3 (jV rfl) (jV rfl) (jV rfl)).trans c2) JY AK)).r (jE rfl).r))))))⟩;unfold gEq;rw[gh (by simp[D.dep])];simp[D.eqb]
end
theorem zt{fa fb fc:FO}{δ:Dn}{a b c:D}(ha:FJ fa δ a)(hb:FJ fb δ b)(hc:FJ fc δ c):iZ (fT (gp gr [fa,fb,fc])) δ=some (false,δ):=by
 obtain⟨outs,e⟩:=El a b c;exact lC (b:=true) (wR (jU3 e ha hb hc))
abbrev Gg:FS:=(gm (sIf (iZ (fT (gp gr [(fS (gj gIx (fR 9) (fS (fC (.int 0))))),(fS (gj gIx (fR 9) (fS (fC (.int 1))))),(fS (gj gIx (fR 9) (fS (fC (.int 2)))))]))) (gm (jt (fC (.bl false))) gR) gR) gR)
def tf(n:Int):List D:=[.int 6,.int (-1),.bl true,.bl false,.non,.str "1",.tup [.int 1],.lst [],.int (n+1),.int 100000000000000000000000000000,.int 0,.int 5]
abbrev Gh:FS:=(gm (jf 2 (gp jl [(fR 0),(fR 1)])) (gm (jf 3 (gp gz [(fR 2),(fS (fC (.int 6)))])) (gm (jf 4 (gp gz [(fR 2),(fS (gj jY (fR 3) (fS (fC (.int 1)))))])) (gm (jf 5 (gj jY (fR 4) (fS (gp gz [(fR 2),(fS (gj jY (fS (gj gSub (fR 3) (fR 4))) (fS (fC (.int 1)))))])))) (gm (sIf (oF (iZ (fT (gp gr [(fR 3),(fR 4),(fR 5)]))) (oF (iZ (fT (gp gr [(fR 3),(fS (fC (.int 0))),(fR 3)]))) (iZ (fT (gp gr [(fR 3),(fR 5),(fR 4)]))))) (gm (jt (fC (.bl false))) gR) gR) (gm (jf 6 (lZ [(fC (.int 6)),(iV wI (fS (fC (.int 1)))),(fC (.bl true)),(fC (.bl false)),(fC .non),(fC (.str "1")),(kD [(fC (.int 1))]),(lZ []),(gj jY (fR 3) (fS (fC (.int 1)))),(gj vg (fS (fC (.int 10))) (fS (fC (.int 29)))),(fC (.int 0)),(fC (.int 5))])) (gm (Cy 7 8 [(gj gIx (fR 6) (fS (gp gz [(fR 2),(fS (fC (.int 12)))]))),(gj gIx (fR 6) (fS (gp gz [(fR 2),(fS (fC (.int 12)))])))]) (gm (uN (jW (lZ [(kD [(hJ 7),(hJ 4),(hJ 5)]),(kD [(hJ 3),(hJ 7),(hJ 5)]),(kD [(hJ 3),(hJ 4),(hJ 7)]),(kD [(hJ 7),(hJ 8),(hJ 5)]),(kD [(hJ 7),(hJ 8),(hJ 7)])])) (gP 9) Gg) gR))))))))
theorem DJ(ns:nQ)(k:Nat)(c2 c3 c4 c5 c6 c7 c8 c9:Sl): ∃d2 d3 d4 d5 d6 d7 d8 d9,Gh [some (.lst (ns.map .int),false),ii k,c2,c3,c4,c5,c6,c7,c8,c9]=some (.nx [some (.lst (ns.map .int),false),ii k,d2,d3,d4,d5,d6,d7,d8,d9]):=by
 let z0:Sl:=some (.lst (ns.map .int),false)
 obtain⟨a,b,e0⟩:=Ct ns k;obtain⟨n,a1,n0,n1,e1⟩:=mw a b 6 (by lia) (by lia);obtain⟨l,a2,l0,l1,e2⟩:=mw a1 b (n+1) (by lia) (by lia);obtain⟨m,a3,m0,m1,e3⟩:=mw a2 b (n-l+1) (by lia) (by lia);obtain⟨p,a4,p0,p1,e4⟩:=mw a3 b 12 (by lia) (by lia);obtain⟨q,a5,q0,q1,e5⟩:=mw a4 b 12 (by lia) (by lia)
 let x:=(tf n).getD p.toNat .non
 let y:=(tf n).getD q.toNat .non
 let O:Sl:=some (.lst (tf n),true)
 let δ0:Sl->Dn:=fun z=>[z0,ii k,stt a5 b,ii n,ii l,ii (l+m),O,some (x,false),some (y,false),z]
 obtain⟨_,⟨x9,_,rfl⟩,ef⟩:=vn (tg:=gP 9) (fb:=Gg) (fun ds δ=> ∃z,(∀d∈ds,∃u v w,d= .tup [u,v,w])/\δ=δ0 z) (fun d ds δ ⟨z,h1,h⟩=>by
  subst h;obtain⟨u,v,w,rfl⟩:=h1 d jm;refine⟨_,_,rfl,(no (δ:=δ0 (some (.tup [u,v,w],false))) _ (zt (a:=u) (b:=v) (c:=w) (jE (b:=false) (jO rfl (jV rfl).r (jE rfl).r)) (jE (b:=false) (jO rfl (jV rfl).r (jE rfl).r)) (jE (b:=false) (jO rfl (jV rfl).r (jE rfl).r)))).trans rfl,_,fun x hx=>h1 x (iO _ hx),rfl⟩)
  [.tup [x,.int l,.int (l+m)],.tup [.int n,x,.int (l+m)],.tup [.int n,.int l,x],.tup [x,y,.int (l+m)],.tup [x,y,x]] (δ0 c9) ⟨c9,fun d hd=>by
   simp only[jC,jF,lR] at hd;rcases hd with rfl|rfl|rfl|rfl|rfl<;>exact⟨_,_,_,rfl⟩,rfl⟩
 refine⟨stt a5 b,ii n,ii l,ii (l+m),O,some (x,false),some (y,false),x9,?_⟩;refine(jx (ot (i:=2) (δ1:=[z0,ii k,c2,c3,c4,c5,c6,c7,c8,c9]) (jU2 e0 (jV rfl) (jV rfl)) (show 2<10 by decide))).trans ?_;refine(jx (ot (i:=3) (δ1:=[z0,ii k,stt a1 b,c3,c4,c5,c6,c7,c8,c9]) (e1 _ z0 (ii k) [c3,c4,c5,c6,c7,c8,c9] (.val (.int 6,false)) rfl rfl) (show 3<10 by decide))).trans ?_;refine(jx (ot (i:=4) (δ1:=[z0,ii k,stt a2 b,ii n,c4,c5,c6,c7,c8,c9]) (e2 _ z0 (ii k) [ii n,c4,c5,c6,c7,c8,c9] (.val (.int (n+1),false)) rfl rfl) (show 4<10 by decide))).trans ?_;refine(jx (ot (i:=5) (δ1:=[z0,ii k,stt a3 b,ii n,ii l,c5,c6,c7,c8,c9]) (qg (o1:= .slot 4) (o2:= .val (.int m,false)) (δ1:=[z0,ii k,stt a2 b,ii n,ii l,c5,c6,c7,c8,c9]) rfl (kN (e3 _ z0 (ii k) [ii n,ii l,c5,c6,c7,c8,c9] (.val (.int (n-l+1),false)) rfl rfl)) rfl rfl (IF _ _)) (show 5<10 by decide))).trans ?_
 let δ1:Dn:=[z0,ii k,stt a3 b,ii n,ii l,ii (l+m),c6,c7,c8,c9]
 refine(no (δ:=δ1) _ ((vp (zt (a:= .int n) (b:= .int l) (c:= .int (l+m)) (jV rfl) (jV rfl) (jV rfl))).trans ((vp (zt (a:= .int n) (b:= .int 0) (c:= .int n) (jV rfl) (jE rfl) (jV rfl))).trans (zt (a:= .int n) (b:= .int (l+m)) (c:= .int l) (jV rfl) (jV rfl) (jV rfl))))).trans ?_;refine(jx (δ1:=[z0,ii k,stt a3 b,ii n,ii l,ii (l+m),O,c7,c8,c9]) ?_).trans ?_
 ·simp[δ1,IL,ml,O,tf]
 have g1:gj gIx (fR 6) (fS (gp gz [(fR 2),(fS (fC (.int 12)))])) [z0,ii k,stt a3 b,ii n,ii l,ii (l+m),O,c7,c8,c9]=some ((x,false),[z0,ii k,stt a4 b,ii n,ii l,ii (l+m),O,c7,c8,c9]):=
  qg (o1:= .slot 6) (o2:= .val (.int p,false)) (δ1:=[z0,ii k,stt a3 b,ii n,ii l,ii (l+m),O,c7,c8,c9]) rfl (kN (e4 _ z0 (ii k) [ii n,ii l,ii (l+m),O,c7,c8,c9] (.val (.int 12,false)) rfl rfl)) rfl rfl (ixl p0 (by simpa[tf] using p1))
 have g2:gj gIx (fR 6) (fS (gp gz [(fR 2),(fS (fC (.int 12)))])) [z0,ii k,stt a4 b,ii n,ii l,ii (l+m),O,c7,c8,c9]=some ((y,false),[z0,ii k,stt a5 b,ii n,ii l,ii (l+m),O,c7,c8,c9]):=
  qg (o1:= .slot 6) (o2:= .val (.int q,false)) (δ1:=[z0,ii k,stt a4 b,ii n,ii l,ii (l+m),O,c7,c8,c9]) rfl (kN (e5 _ z0 (ii k) [ii n,ii l,ii (l+m),O,c7,c8,c9] (.val (.int 12,false)) rfl rfl)) rfl rfl (ixl q0 (by simpa[tf] using q1))
 refine(jx (δ1:=δ0 c9) ?_).trans ?_
 ·unfold Cy;simp only[nk,List.map_nil];rw[oY (kN g1) (kN g2)];rfl
 refine(jx ((zO (δ1:=δ0 c9) (A8 (o:=true) ?_)).trans ef)).trans rfl;simp[δ0,hJ,ml]
theorem Ie(ns:nQ)(hl:ns.length<=63): ∃o outs,nE [(.lst (ns.map .int),false)]=some ((.bl true,o),outs):=by
 let z0:Sl:=some (.lst (ns.map .int),false)
 let N:Nat:=if 1<min ns.length 8 then min ns.length 8 else 1
 let δn:Dn:=[z0,none,none,none,none,none,none,none,none,none]
 obtain⟨_,⟨d1,d2,d3,d4,d5,d6,d7,d8,d9,_,rfl⟩,e⟩:=vn (tg:=gP 1) (fb:=Gh) (fun ds δ=> ∃d1 d2 d3 d4 d5 d6 d7 d8 d9,(∀d∈ds,∃k:Nat,d= .int k)/\δ=[z0,d1,d2,d3,d4,d5,d6,d7,d8,d9]) (fun d ds δ ⟨d1,d2,d3,d4,d5,d6,d7,d8,d9,h1,h⟩=>by
  subst h;obtain⟨k,rfl⟩:=h1 d jm;obtain⟨g2,g3,g4,g5,g6,g7,g8,g9,e⟩:=DJ ns k d2 d3 d4 d5 d6 d7 d8 d9
  exact⟨_,_,rfl,e,_,_,_,_,_,_,_,_,_,fun x hx=>h1 x (iO _ hx),rfl⟩) (ji 0 N) δn ⟨none,none,none,none,none,none,none,none,none,fun d hd=>by
   obtain⟨k,_,rfl⟩:=D6.mp hd;exact⟨k,by simp⟩,rfl⟩
 refine⟨false,_,zd (δ:=[z0,d1,d2,d3,d4,d5,d6,d7,d8,d9]) ⟨rfl,by decide,rfl⟩ ?_⟩;refine(jx ((zO (ds:=ji 0 N) (δ1:=δn) ?_).trans e)).trans (kj rfl);refine Fp (o:= .val (.int N,false)) (kN ?_) rfl (by simp only[N];split<;>lia)
 have hN:(N:Int)=if(if(8:Int)<ns.length then 8 else(ns.length:Int))>1 then(if(8:Int)<ns.length then 8 else(ns.length:Int)) else 1:=by
  simp only[N];split<;>split<;>split<;>lia
 rw[hN];simp[z0,δn]
end PV
theorem K81.main(ns:nQ)(hl:ns.length<=63): ∃o outs,PV.nE [(.lst (ns.map .int),false)]=some ((.bl true,o),outs):=PV.Ie ns hl
namespace PySem.W.Fast
def tw18059811223429483485:=()
def tw10832892817171378751:=()
def tw13928351281499063113:=()
def tw4150705429933137670:=()
def tw14350905244285280666:=()
def tw6309400892739400603:=()
def tw7603268994128303226:=()
def tw16918177881456207205:=()
def tw4690625823987567516:=()
def tw6672970940496240021:=()
def tw18441560051016144713:=()
def tw2684925045751341000:=()
def tw293348129070708259:=()
def tw5914886335695572670:=()
def tw15348688305410859929:=()
def tw3469149879269904299:=()
def tw7753598372575880082:=()
def tw7404694017191865547:=()
def tw9574693938506096055:=()
def tw8072968641178882999:=()
def tw6164047824171972787:=()
def tw16839796386291038858:=()
def tw16628641157135929912:=()
def tw3002732256312807940:=()
def tw9296791713934247756:=()
def tw8130142060039322567:=()
def tw4108068690958603338:=()
def tw11844709669211108255:=()
def tw1387179167020826948:=()
def tw1568803075595855358:=()
def tw10968697920124387966:=()
def tw9427208966344805040:=()
def tw9311245277353276152:=()
def tw17653291547800735229:=()
def tw7381221642139897859:=()
def tw7321253571216951434:=()
def tw12083738253500515229:=()
def tw8780672467007595426:=()
def tw12856643850291436110:=()
def tw7797132204632658776:=()
def tw13399313593794459377:=()
def tw1164855642723264632:=()
def tw11932355385651748414:=()
def tw14470080701363485138:=()
def tw14204906195941285987:=()
def tw13842728250772547114:=()
def tw1184426906854279268:=()
def tw15755446007976215268:=()
def tw13382778372278513251:=()
def tw6584336839504105641:=()
def tw802329298431855416:=()
def tw1903893309373665936:=()
def tw16233479717334939306:=()
def tw11103378911751477176:=()
def tw8847918834762986025:=()
def tw15596744593854438961:=()
def tw1308081140419595061:=()
def tw9652820909123506240:=()
def tw3588799276729620309:=()
end PySem.W.Fast
open PySem PySem.W PyProof.Rows PX
set_option maxRecDepth 100000 in
set_option maxHeartbeats 0 in
theorem PySem.Challenge.cw_twinriddles_k81_crowds_holds : PySem.Challenge.rw_twinriddles_k81_crowds.Holds := by
  w_on; o_law; k_head; (case hw => w_witness2)
  k_fill
  refine walkT (TB := K81.TB81) (l := PySem.Challenge.rw_twinriddles_k81_crowds) (LV := 13) (x := "_law_script") ⟨rfl, by decide, by decide⟩ rfl rfl (fun w h Y => PySem.W.km_in_of Y) (fun w h Y => aC (PySem.W.km_tabs_of Y _ List.mem_cons_self) aN) (fun w => aC ?K aN) (by decide) ?F K81.main
  case K => show List.lookup 228 _ = none; kernel_rfl
  case F =>
   intro w mg fa h KX G hmg
   refine' K81.all_mk hmg (txK KX G ?_ ?_ ?_ ?_ ?_ ?_ ?_ ?_ ?_ ?_ ?_ ?_ ?_ ?_ ?_ ?_) (fz KX G ?_ ?_ ?_ ?_) (fz KX G ?_ ?_ ?_ ?_) (fz KX G ?_ ?_ ?_ ?_) (fz KX G ?_ ?_ ?_ ?_) (fz KX G ?_ ?_ ?_ ?_) (fz KX G ?_ ?_ ?_ ?_) (fz KX G ?_ ?_ ?_ ?_) (fz KX G ?_ ?_ ?_ ?_) (fz KX G ?_ ?_ ?_ ?_) (fz KX G ?_ ?_ ?_ ?_) (fz KX G ?_ ?_ ?_ ?_) (fz KX G ?_ ?_ ?_ ?_) (fz KX G ?_ ?_ ?_ ?_) (fzT KX G ?_ ?_ ?_ ?_ ?_) (fz KX G ?_ ?_ ?_ ?_) ⟨(aC (PySem.W.mg_of KX G ?_) (aC (PySem.W.mg_of KX G ?_) (aC (PySem.W.mg_of KX G ?_) (aC (PySem.W.mg_of KX G ?_) (aC (PySem.W.mg_of KX G ?_) (aC (PySem.W.mg_of KX G ?_) (aC (PySem.W.mg_of KX G ?_) (aC (PySem.W.mg_of KX G ?_) (aC (PySem.W.mg_of KX G ?_) (aC (PySem.W.mg_of KX G ?_) aN)))))))))), (aC (PySem.W.mg_of KX G ?_) aN), (aC (aC (show PySem.W.kitOne _ (.ref 85) (.ref 37) = some false from ?_) (aC (show PySem.W.kitOne _ (.ref 85) (.ref 49) = some false from ?_) (aC (show PySem.W.kitOne _ (.ref 85) (.ref 61) = some false from ?_) (aC (show PySem.W.kitOne _ (.ref 85) (.ref 73) = some false from ?_) (aC (show PySem.W.kitOne _ (.ref 85) (.ref 85) = some true from ?_) (aC (show PySem.W.kitOne _ (.ref 85) (.ref 97) = some false from ?_) (aC (show PySem.W.kitOne _ (.ref 85) (.ref 109) = some false from ?_) (aC (show PySem.W.kitOne _ (.ref 85) (.ref 121) = some false from ?_) (aC (show PySem.W.kitOne _ (.ref 85) (.ref 133) = some false from ?_) (aC (show PySem.W.kitOne _ (.ref 85) (.ref 145) = some false from ?_) aN)))))))))) aN), (aC (show PySem.W.kitOne _ (.ref 85) (.type "ValueError") = some true from ?_) aN), (aC (show ClK _ 85 24 from ⟨⟨?_, ?_, ?_, ?_, ?_, ?_, ?_, ?_⟩, (aC ?_ (aC ?_ (aC ?_ (aC ?_ (aC ?_ (aC ?_ aN)))))), ?_⟩) aN), (aC (show PySem.W.excIn _ 85 _ _ = true from ?_) aN), PySem.W.mg_none_of KX G ?_, PySem.W.mg_none_of KX G ?_, PySem.W.mg_of KX G ?_⟩ (mgI KX G ?_) <;> try first | k_is | kernel_rfl
