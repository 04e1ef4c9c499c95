import PyProof.Rows.All
import KE.KDictList
import KE.KDictOf
import KE.KDictSum
import KE.KItemsList
import KE.KSortTup
import KE.KUnpack
import PyProof.AttrMissHeap
import PyProof.DefCall
import PyProof.ExcClass3
import PyProof.ExcInit
import PyProof.FactsAll.set
import PyProof.InstStoreFacts
import PyProof.MaxThree
import PyProof.P3In
import PyProof.Rows.FStr
import PyProof.Rows.RuleN_abs
import PyProof.Rows.SetFrom
import PyProof.SetRoads
import PyProof.ZipIter
import Wide.All
import OpenK.AllK
import Wide.FinOn
import Lean
import PyProof.EqAt
import PyProof.EqKinds
import PyProof.TupleCall
import PySem.Challenge.RW_rankpouch_k84_whole_often
set_option Elab.async false
set_option linter.all false
set_option maxRecDepth 100000
abbrev aF:=@PySem.wpAny_bind
abbrev aS:=@PySem.wpAny_pure
abbrev bV:=@Ne.symm
abbrev bX:=@List.getElem?_eq_some_iff
abbrev cH:=@PySem.Heap.get?_push_of_some
abbrev cO:=@PySem.Heap.lt_size
abbrev cX:=@List.map_cons
abbrev dA:=@Nat.ne_of_lt
abbrev eG:=@List.length_map
abbrev eN:=@List.mem_cons
abbrev eY:=@PySem.Heap.get?_push_size
abbrev fU:=@List.size_toArray
abbrev fV:=@List.getElem?_append_left
abbrev gK:=@List.getElem?_map
abbrev gQ:=@List.mem_cons_of_mem
abbrev gR:=@List.getElem?_set_self
abbrev gS:=@List.getElem?_set_ne
abbrev iL:=@List.set_cons_zero
abbrev iM:=@List.set_cons_succ
abbrev iX:=@if_false
abbrev jB:=@Option.some.injEq
abbrev jC:=@List.getElem?_eq_getElem
abbrev jI:=@if_true
abbrev jP:=@List.length_cons
abbrev kJ:=@PySem.sizeLine_eq
abbrev kR:=@Bool.and_eq_true
abbrev lC:=@Nat.lt_of_lt_of_le
abbrev lE:=@Array.length_toList
abbrev lF:=@PySem.wpAny_mono
abbrev mF:=@Option.some.inj
abbrev mG:=@List.mem_map
abbrev mK:=@PySem.wpAny_newObj_type
abbrev mX:=@List.nodup_cons
abbrev nJ:=@decide_eq_false
abbrev nN:=@List.mem_singleton
abbrev nO:=@List.mem_append_right
abbrev nP:=@List.getElem?_append_right
abbrev oB:=@Nat.le_refl
abbrev oH:=@PySem.wpAny_holding
abbrev pG:=@PySem.Heap.get?_update_other
abbrev pI:=@PySem.wpAny_call_entry
abbrev qD:=@Nat.le_trans
abbrev qE:=@Nat.le_succ
abbrev qF:=@List.mem_of_getElem?
abbrev qG:=@List.map_nil
abbrev qS:=@PySem.W.mg_none_of
abbrev rF:=@List.set_set
abbrev rH:=@PySem.wpAny_ite_false
abbrev sI:=@beq_iff_eq
abbrev sJ:=@beq_eq_false_iff_ne
abbrev sO:=@Option.bind_eq_some_iff
abbrev sP:=@List.length_append
abbrev sT:=@Bool.false_eq_true
abbrev uA:=@PySem.codeAny_mono
abbrev uD:=@Option.map_eq_some_iff
abbrev uF:=@List.map_map
abbrev uG:=@List.getElem_mem
abbrev uN:=@PySem.wpAny_setField_rec
abbrev uO:=@PySem.wpAny_Call_Name_kw
abbrev wJ:=@Nat.lt_succ_of_lt
abbrev wM:=@List.mem_append_left
abbrev wQ:=@Int.emod_nonneg
abbrev wR:=@Int.emod_lt_of_pos
abbrev wV:=@PySem.wpAny_setState_of
abbrev wW:=@PySem.wpAny_field
abbrev wX:=@PySem.wpAny_askSetting
abbrev xN:=@or_false
abbrev zB:=@decide_eq_true
abbrev zC:=@PySem.codeAny_builtin
abbrev zM:=@List.not_mem_nil
abbrev zN:=@List.nodup_append
abbrev zO:=@List.length_set
abbrev zP:=@List.getElem?_take
abbrev zR:=@Int.toNat_natCast
abbrev zS:=@Int.le_refl
abbrev zT:=@Int.eq_ofNat_of_zero_le
abbrev zV:=@PySem.Heap.size_push
abbrev AE:=@PySem.wpAny_setEntries_of
abbrev AF:=@PySem.wpAny_callSpecial?_slot
abbrev AX:=@PySem.plainId_quiet
abbrev CI:=@decide_eq_true_eq
abbrev CM:=@PySem.call_meetsIn
abbrev CS:=@PyProof.Rows.boot_list
abbrev CU:=@Nat.zero_le
abbrev CV:=@Nat.zero_add
abbrev CW:=@Nat.ne_of_gt
abbrev DF:=@List.lookup_cons
abbrev DG:=@List.length_take
abbrev DH:=@List.find?_cons
abbrev DI:=@List.append_nil
abbrev DJ:=@List.Perm.refl
abbrev DO:=@PySem.Calls.spliced_cons
abbrev DP:=@PySem.Calls.callWith_builtin
abbrev DQ:=@PySem.Around.under_plainId
abbrev DT:=@PySem.wpAny_truthy_bool
abbrev DU:=@PySem.wpAny_rule
abbrev DV:=@PySem.wpAny_fieldsOf
abbrev DW:=@PySem.wpAny_attempt
abbrev IL:=@PyProof.Rows.boot_sorted
abbrev IM:=@PyProof.Rows.boot_isinstance
abbrev IX:=@Option.map_some
abbrev JA:=@List.reverse_cons
abbrev JB:=@List.pairwise_map
abbrev JC:=@List.mem_append
abbrev JD:=@List.map_append
abbrev JE:=@List.length_range
abbrev JF:=@List.cons.injEq
abbrev JG:=@List.cons.inj
abbrev JH:=@List.all_eq_true
abbrev JJ:=@PySem.Heap.get?_update_self
abbrev JK:=@PySem.Heap.get?_push_ne
abbrev JX:=@PySem.Calls.spliced_nil
abbrev KC:=@Array.getElem?_eq_some_iff
abbrev KD:=@PySem.wpAny_typeOf
abbrev KG:=@PySem.wpAny_passesOwn
abbrev KH:=@PySem.wpAny_ite_true
abbrev KI:=@PySem.wpAny_Call_method0_late
abbrev OI:=@PyProof.Rows.get?_update_seq
abbrev QK:=@PyProof.Rows.callWith_type1
abbrev QL:=@Nat.le_of_lt
abbrev QN:=@List.map_congr_left
abbrev QO:=@List.length_nil
abbrev QP:=@List.ext_getElem?
abbrev QQ:=@List.any_cons
abbrev QT:=@PySem.Heap.size_update
abbrev RH:=@Array.getElem?_toList
abbrev RL:=@PySem.wpAny_isInstance
abbrev SJ:=@PySem.tupleKind_room_in1
abbrev Bc:=@getElem?_pos
abbrev Bq:=@PySem.fits_of_scanBound
abbrev Dz:=@Prod.mk.injEq
abbrev Eb:=@Option.bind_some
abbrev Ee:=@Nat.lt_trans
abbrev Ef:=@Nat.lt_succ_self
abbrev Eg:=@Nat.lt_or_ge
abbrev Eh:=@Nat.le_of_not_lt
abbrev Er:=@List.take_of_length_le
abbrev Es:=@List.take_append_drop
abbrev Et:=@List.set_append_right
abbrev Eu:=@List.pairwise_iff_getElem
abbrev Ew:=@List.getElem_of_mem
abbrev Ex:=@List.getElem?_eq_none
abbrev Ey:=@List.getElem?_cons_succ
abbrev Ez:=@List.filterMap_map
abbrev Fb:=@List.filterMap_cons
abbrev Fc:=@List.append_assoc
abbrev Fe:=@List.all_cons
abbrev Ga:=@PySem.Calls.call_function_entry
abbrev Gd:=@Array.getElem?_eq_getElem
abbrev Ge:=@Array.getD_eq_getD_getElem?
abbrev Te:=@PyProof.Rows.slot_tuple_getitem
abbrev Tf:=@PyProof.Rows.F.plain_set_update_loop
abbrev Ub:=@List.set_append_left
abbrev Uc:=@List.mem_of_mem_take
abbrev Ud:=@List.length_replicate
abbrev Ue:=@List.getD_eq_getElem?_getD
abbrev Ug:=@List.filterMap_eq_map
abbrev Uh:=@List.drop_eq_getElem_cons
abbrev Uk:=@Int.mul_le_mul_of_nonneg_left
abbrev Uq:=@PySem.F.args_list_append_2
abbrev Uu:=@Bool.not_eq_true'
abbrev Uw:=@Array.getElem?_eq_none_iff
abbrev arO:=@PyProof.Rows.F.entry_set_update_loop
theorem cW{α:Sort _}{a:α}{q:Prop}:a=a∨q:=Or.inl rfl
theorem bZ{α β γ:Sort _}{f:α→β→γ}:∀x y,f x y=f x y:=fun _ _=>rfl
theorem bP{n:Nat}:n≤n:=oB n
theorem NO{n:Int}:n≤n:=zS n
theorem pR{α:Type _}{a:α}{l:List α}:a∈a::l:=List.mem_cons_self ..
theorem xR{n:Nat}:0≤n:=CU n
open PySem.W (Frag OpenLaw callWith_K clsIn codeIn emptyDict findCls findIn fnOf hasDictIn instObj isFn isNs_of_in kdl_call keepIn kia_one kitOne lookIn makesIn methodCall_KW methodObj mg_of mroIn nsIn plainGet plainGet_of readsIn specialIn subIn takerIn takesIn typeIn)
namespace L2
open PySem PySem.Spec PyProof.Rows
abbrev Key:=Sum Int Str
def BI:Key→Value→Bool
 | .inl k,v=>Value.isInt k v
 | .inr x,v=>Value.isStrOf x v
def ajF(w:World):Key→Int
 | .inl k=>hashInt k
 | .inr x=>hashStr w x
theorem rY:∀{k:Key} {v:Value},BI k v=true→(∃i t,k=Sum.inl i∧v=Value.int i t)∨(∃x t,k=Sum.inr x∧v=Value.str x t)
 | .inl i,v,h=>by
  obtain⟨t,e⟩:=Value.isInt_shape (k:=i) (v:=v) h;exact .inl ⟨i,t,rfl,e⟩
 | .inr x,v,h=>by
  obtain⟨t,e⟩:=Value.isStrOf_shape (x:=x) (v:=v) h;exact .inr ⟨x,t,rfl,e⟩
theorem ajE(i:Int)(t:Tok):BI (.inl i) (.int i t)=true:=by simp [BI,Value.isInt]
theorem ajD(x:Str)(t:Tok):BI (.inr x) (.str x t)=true:=by simp [BI,Value.isStrOf]
theorem ajC(a b:Int):decide ((Sum.inl a:Key)=Sum.inl b)=(a == b):=by
 by_cases e:a=b
 ·subst e;simp
 ·have h:¬(Sum.inl a:Key)=Sum.inl b:=fun q=>e (Sum.inl.inj q);rw [nJ h];exact(sJ.mpr e).symm
theorem ai9(a b:Str):decide ((Sum.inr a:Key)=Sum.inr b)=decide (a=b):=by
 by_cases e:a=b
 ·subst e;simp
 ·have h:¬(Sum.inr a:Key)=Sum.inr b:=fun q=>e (Sum.inr.inj q);rw [nJ h,nJ e]
theorem ajB(a:Int)(b:Str):decide ((Sum.inl a:Key)=Sum.inr b)=false:=nJ (fun q=>nomatch q)
theorem ajA(a:Str)(b:Int):decide ((Sum.inr a:Key)=Sum.inl b)=false:=nJ (fun q=>nomatch q)
def fR(prog:Program)(w:World):PySem.KeyKind prog w Key where
 is:=BI
 hash:=ajF w
 inj:=fun v a b ha hb=>by
  rcases rY ha with⟨i,t,rfl,rfl⟩ | ⟨x,t,rfl,rfl⟩
  ·rcases rY hb with⟨j,u,rfl,e⟩ | ⟨y,u,rfl,e⟩
   ·injection e with e1 _;rw [e1]
   ·exact nomatch e
  ·rcases rY hb with⟨j,u,rfl,e⟩ | ⟨y,u,rfl,e⟩
   ·exact nomatch e
   ·injection e with e1 _;rw [e1]
 byValue:=fun k v h=>by
  rcases rY h with⟨i,t,rfl,rfl⟩ | ⟨x,t,rfl,rfl⟩ <;> rfl
 pyHash:=fun hv h=>by
  rcases rY hv with⟨i,t,rfl,rfl⟩ | ⟨x,t,rfl,rfl⟩
  ·exact wpAny_pyHash_int h
  ·exact wpAny_pyHash_str h
 eqBool:=fun hu hv h=>by
  rcases rY hu with⟨i,t,rfl,rfl⟩ | ⟨x,t,rfl,rfl⟩
  ·rcases rY hv with⟨j,u,rfl,rfl⟩ | ⟨y,u,rfl,rfl⟩
   ·rw [ajC]at h;exact wpAny_eqBool_int h
   ·rw [ajB]at h;exact SeqAt.EqAt.int_str i t y u _ _ _ _ h
  ·rcases rY hv with⟨j,u,rfl,rfl⟩ | ⟨y,u,rfl,rfl⟩
   ·rw [ajA]at h;exact SeqAt.EqAt.str_int x t j u _ _ _ _ h
   ·rw [ai9]at h;exact wpAny_eqBool_str h
 «strs»:=fun k x t v h=>by
  rcases rY h with⟨i,u,rfl,e⟩ | ⟨y,u,rfl,e⟩
  ·exact nomatch e
  ·injection e with e1 _;subst e1;cases v <;> rfl
theorem aiD(prog:Program)(w:World)(i:Int)(t:Tok):(fR prog w).is (.inl i) (.int i t)=true:=ajE i t
theorem aiC(prog:Program)(w:World)(x:Str)(t:Tok):(fR prog w).is (.inr x) (.str x t)=true:=ajD x t
inductive V where
 | bH | bl (b:Bool) | int (i:Int) | str (x:Str) | OZ (b:Array UInt8) | yV (b:UInt64) | ref (a:Addr) | ty (n:String)
 deriving DecidableEq
def RelV:V→Value→Prop
 | .bH,u=>u=Value.none
 | .bl b,u=>u=Value.bool b
 | .int i,u=>∃t,u=Value.int i t
 | .str x,u=>∃t,u=Value.str x t
 | .OZ b,u=>∃t,u=Value.bytes b t
 | .yV b,u=>∃t,u=Value.float b t
 | .ref a,u=>u=Value.ref a
 | .ty n,u=>u=Value.type n
abbrev Vals:List V→List Value→Prop:=Paired RelV
theorem Vals.length{xs:List V}{us:List Value}(r:Vals xs us):xs.length=us.length:=Paired.length r
theorem Vals.get:∀{xs:List V} {us:List Value} {i:Nat} {x:V},Vals xs us→xs[i]? = some x→∃u,us[i]? = some u∧RelV x u
 | _,_,_,_,.nil,e=>by simp at e
 | _,_,0,_,.cons r _,e=>by simp at e;subst e;exact⟨_,rfl,r⟩
 | _,_,i+1,x,.cons _ t,e=>by
  obtain⟨u,h1,h2⟩:=Vals.get (i:=i) (x:=x) t (by simpa using e);exact⟨u,by simpa using h1,h2⟩
theorem Vals.set{x:V}{u:Value}(r:RelV x u):∀{xs:List V} {us:List Value} (i:Nat),Vals xs us→Vals (xs.set i x) (us.set i u)
 | _,_,_,.nil => .nil
 | _,_,0,.cons _ t => .cons r t
 | _,_,i+1,.cons q t => .cons q (Vals.set r i t)
theorem Vals.append:∀{xs ys:List V} {us ws:List Value},Vals xs us→Vals ys ws→Vals (xs++ys) (us++ws)
 | _,_,_,_,.nil,s=>s
 | _,_,_,_,.cons r t,s => .cons r (Vals.append t s)
theorem Vals.take:∀{xs:List V} {us:List Value} (n:Nat),Vals xs us→Vals (xs.take n) (us.take n)
 | _,_,0,_ => .nil
 | _,_,_+1,.nil => .nil
 | _,_,n+1,.cons r t => .cons r (Vals.take n t)
theorem Vals.drop:∀{xs:List V} {us:List Value} (n:Nat),Vals xs us→Vals (xs.drop n) (us.drop n)
 | _,_,0,r=>r
 | _,_,_+1,.nil => .nil
 | _,_,n+1,.cons _ t=>Vals.drop n t
def lP:Option V→Option Value→Prop
 | some v,some u=>RelV v u
 | none,none=>True
 | _,_=>False
def KV{κ:Type}:List (κ×V)→List (κ×Value)→Prop:=Paired fun(p:κ×V) (q:κ×Value)=>p.1=q.1∧RelV p.2 q.2
def kV:Key→V
 | .inl i => .int i
 | .inr x => .str x
inductive HO where
 | lst (xs:List V)
 | tup (xs:List V)
 | dK (kvs:List (Key×V)) | dT (kvs:List (List Key×V))
 | set (S:Int→Bool) (n:Nat)
 | ins (C dx:Addr) (fs:List (Str×V))
 | own (x:Addr)
 | xd (fs:List (Str×V))
 | met (f x:Addr)
 | MH (lo hi:Int)
 | cV (o:Obj) (u:HO)
 | sZ (ps:Array Value)
 | ext (φ:Heap→Prop)
abbrev Hp:=Addr→Option HO
def upd(H:Hp)(a:Addr)(o:HO):Hp:=fun b=>if b=a then some o else H b
theorem dR{H:Hp}{a:Addr}{o:HO}:upd H a o a=some o:=by unfold upd;rw [if_pos rfl]
theorem aY{H:Hp}{a b:Addr}{o:HO}(h:b≠a):upd H a o b=H b:=by unfold upd;rw [if_neg h]
theorem rV{H:Hp}{a b:Addr}{o u:HO}(h:H a=some o)(h':H b=some u)(d:o≠u):a≠b:=by
 intro e;subst e;rw [h]at h';exact d (mF h')
theorem iF{H:Hp}{a b:Addr}{o:HO}(h:H a=some o)(h':H b=none):a≠b:=by
 intro e;subst e;rw [h]at h';cases h'
section
variable(P:Program)(w:World)
def fN(H:Hp)(h:Heap)(a:Addr):HO→Prop
 | .lst xs=>xs.length≤sizeLine∧∃(aL:List Value) (n:Nat),Vals xs aL∧h.get? a=some { cls := .type "list",data := .seq aL.toArray n }
 | .tup xs=>xs.length≤sizeLine∧∃aL:List Value,Vals xs aL∧IsTup h a aL.toArray
 | .dK kvs=>kvs.length≤sizeLine∧(a == sysModules)=false∧∃vs,KV kvs vs∧h.DictOf (fR P w) a vs
 | .dT kvs=>kvs.length≤sizeLine∧(a == sysModules)=false∧∃xs:List (List Key×Addr×Value),
   Paired (fun(p:List Key×V) (q:List Key×Addr×Value)=>p.1=q.1∧H q.2.1=some (.tup (p.1.map kV))∧RelV p.2 q.2.2) kvs xs ∧
   ∃o es ep,h.get? a=some o∧o.ExactDict∧o.data = .dict es ep∧es.toList=xs.map (entryOfKey (tupleKind (fR P w)))∧(xs.map (·.1)).Nodup
 | .set S n=>h.SetOf (intKind P w) a S n
 | .ins C dx fs=>H dx=some (.own a)∧fs.length≤1000∧dx≠a∧h.get? a=some (instObj C dx) ∧
   ∃mA,h.Ns1 dx mA∧(∀f,lP (fs.lookup f) (mA f))∧PySem.Within mA (fs.map (·.1))
 | .own _=>∃o,h.get? a=some o
 | .xd fs=>∃mA,h.Ns1 a mA∧∀f,lP (fs.lookup f) (mA f)
 | .MH lo hi=>∃t u v,h.get? a=some { cls := .type "range",data := .fields #[.int lo t,.int hi u,.int 1 v] }
 | .cV o u=>h.get? a=some o∧fN H h a u
 | .sZ ps=>h.get? a=some { cls := .none,data := .fields ps }
 | .met f x=>h.get? a=some (methodObj (.ref f) (.ref x))
 | .ext φ=>φ h∧(∃o,h.get? a=some o)∧∀h1 h2:Heap,φ h1→(∀o,h1.get? a=some o→h2.get? a=some o)→φ h2
def eR(H:Hp)(h:Heap):Prop:=∀a o,H a=some o→fN P w H h a o
end
section
variable{P:Program}{w:World}{H H':Hp}{h h':Heap}{a:Addr}{o:HO}
theorem fN.lt(x:fN P w H h a o):a<h.objs.size:=by
 cases o with
 | lst xs=>obtain⟨_,_,_,_,e⟩:=x;exact cO e
 | tup xs=>obtain⟨_,_,_,p⟩:=x;exact p.lt
 | dK kvs=>obtain⟨_,_,_,_,o,_,_,e,_⟩:=x;exact cO e
 | dT kvs=>obtain⟨_,_,_,_,o,_,_,e,_⟩:=x;exact cO e
 | set S n=>obtain⟨o,_,_,_,e,_⟩:=x;exact cO e
 | ins C dx fs=>obtain⟨_,_,_,e,_⟩:=x;exact cO e
 | own y=>obtain⟨_,e⟩:=x;exact cO e
 | xd fs=>obtain⟨_,⟨_,_,_,e,_⟩,_⟩:=x;exact cO e
 | MH lo hi=>obtain⟨_,_,_,e⟩:=x;exact cO e
 | cV ob u=>obtain⟨e,_⟩:=x;exact cO e
 | sZ ps=>exact cO (show h.get? a=some _ from x)
 | met f y=>exact cO (show h.get? a=some _ from x)
 | ext φ=>obtain⟨_,⟨_,e⟩,_⟩:=x;exact cO e
theorem Paired.xT{α β:Type}{F G:α→β→Prop}:∀{l₁:List α} {l₂:List β},Paired F l₁ l₂→(∀a b,F a b→G a b)→Paired G l₁ l₂
 | _,_,.nil,_ => .nil
 | _,_,.cons r t,f => .cons (f _ _ r) (Paired.xT t f)
theorem fN.nC(x:fN P w H h a o)(k:∀b u,(b=a∨H b=some (.own a))→h.get? b=some u→h'.get? b=some u)
  (ho:∀b,H b=some (.own a)→H' b=some (.own a)) (ht:∀b xs,H b=some (.tup xs)→H' b=some (.tup xs)):fN P w H' h' a o:=by
 induction o with
 | lst xs=>obtain⟨z,aL,n,r,e⟩:=x;exact⟨z,aL,n,r,k _ _ (.inl rfl) e⟩
 | tup xs=>obtain⟨z,aL,r,ob,e,c⟩:=x;exact⟨z,aL,r,ob,k _ _ (.inl rfl) e,c⟩
 | dK kvs=>obtain⟨z,y,vs,r,ob,es,ep,e,c⟩:=x;exact⟨z,y,vs,r,ob,es,ep,k _ _ (.inl rfl) e,c⟩
 | dT kvs =>
  obtain⟨z,y,xs,r,ob,es,ep,e,c⟩:=x;exact⟨z,y,xs,Paired.xT r fun p q z=>⟨z.1,ht _ _ z.2.1,z.2.2⟩,ob,es,ep,k _ _ (.inl rfl) e,c⟩
 | set S n=>obtain⟨ob,es,ep,t,e,c⟩:=x;exact⟨ob,es,ep,t,k _ _ (.inl rfl) e,c⟩
 | ins C dx fs =>
  obtain⟨d,z,ne,e,mA,⟨od,es,ep,e2,c⟩,r⟩:=x;exact⟨ho _ d,z,ne,k _ _ (.inl rfl) e,mA,⟨od,es,ep,k _ _ (.inr d) e2,c⟩,r⟩
 | own y=>obtain⟨ob,e⟩:=x;exact⟨ob,k _ _ (.inl rfl) e⟩
 | xd fs=>obtain⟨mA,⟨od,es,ep,e,c⟩,r⟩:=x;exact⟨mA,⟨od,es,ep,k _ _ (.inl rfl) e,c⟩,r⟩
 | MH lo hi=>obtain⟨t,u,v,e⟩:=x;exact⟨t,u,v,k _ _ (.inl rfl) e⟩
 | cV ob u ih=>obtain⟨e,q⟩:=x;exact⟨k _ _ (.inl rfl) e,ih q⟩
 | sZ ps =>
  have e:h.get? a=some { cls := .none,data := .fields ps }:=x;show h'.get? a=some { cls := .none,data := .fields ps };exact k a _ (.inl rfl) e
 | met f y =>
  have e:h.get? a=some (methodObj (.ref f) (.ref y)):=x;show h'.get? a=some (methodObj (.ref f) (.ref y));exact k a _ (.inl rfl) e
 | ext φ=>obtain⟨p,⟨o,e⟩,st⟩:=x;exact⟨st _ _ p fun o q=>k _ _ (.inl rfl) q,⟨o,k _ _ (.inl rfl) e⟩,st⟩
theorem eR.lt(x:eR P w H h)(e:H a=some o):a<h.objs.size:=(x a o e).lt
theorem eR.fresh(x:eR P w H h)(e:h.objs.size≤a):H a=none:=by
 cases q:H a with
 | none=>rfl
 | some u=>exact absurd (lC (x.lt q) e) (Nat.lt_irrefl _)
theorem eR.kept(x:eR P w H h)(k:∀b u,h.get? b=some u→h'.get? b=some u):eR P w H h':=fun a o e =>
 (x a o e).nC (fun b u _ q=>k b u q) (fun _ q=>q) fun _ _ q=>q
theorem eR.laid(x:eR P w H h)(k:∀b u,h.get? b=some u→h'.get? b=some u)(hp:h.objs.size≤a)(new:fN P w (upd H a o) h' a o):eR P w (upd H a o) h':=fun b u e=>by
 have hn:=x.fresh hp
 by_cases hb:b=a
 ·subst hb;rw [dR]at e;cases e;exact new
 ·rw [aY hb]at e;exact(x b u e).nC (fun c v _ q=>k c v q) (fun c q=>by rw [aY (iF q hn)];exact q) fun c xs q=>by rw [aY (iF q hn)];exact q
end
def Rd(H:Hp)(a:Addr)(u:HO):Prop:=H a=some u∨∃o,H a=some (.cV o u)
theorem Rd.of{H:Hp}{a:Addr}{u:HO}(h:H a=some u):Rd H a u := .inl h
theorem Rd.ok{P:Program}{w:World}{H:Hp}{h:Heap}{a:Addr}{u:HO}(r:Rd H a u)(x:eR P w H h):fN P w H h a u:=by
 rcases r with r | ⟨o,r⟩
 ·exact x a u r
 ·obtain⟨_,q⟩:=x a _ r;exact q
def IY:Option HO→Prop
 | some (.lst _)=>True
 | some (.dK _)=>True
 | some (.dT _)=>True
 | some (.set _ _)=>True
 | some (.ins _ _ _)=>True
 | some (.ext _)=>True
 | _=>False
section
variable{P:Program}{w:World}{H:Hp}{h h':Heap}{x e:Addr}{o':HO}
theorem eR.write(ok:eR P w H h)(mu:IY (H x))(he:e=x∨H e=some (.own x))(k:∀b u,b≠e→h.get? b=some u→h'.get? b=some u)(BR:∃u,h'.get? e=some u)
  (new:fN P w (upd H x o') h' x o'):eR P w (upd H x o') h':=fun b u q=>by
 have Ld:∀c y,H c=some (.own y)→c≠x:=fun c y r z=>by subst z;rw [r]at mu;exact mu
 have ahN:∀c xs,H c=some (.tup xs)→c≠x:=fun c xs r z=>by subst z;rw [r]at mu;exact mu
 by_cases hb:b=x
 ·subst hb;rw [dR]at q;cases q;exact new
 ·rw [aY hb]at q
  by_cases yL:b=e
  ·have q':H b=some (.own x):=by
    rcases he with z | z
    ·exact absurd (yL.trans z) hb
    ·rw [yL];exact z
   rw [q]at q';cases q';obtain⟨v,hv⟩:=BR;exact⟨v,by rw [yL];exact hv⟩
  ·refine(ok b u q).nC (fun c v hc r=>k c v ?_ r) (fun c r=>by rw [aY (Ld c b r)];exact r) fun c xs r=>by rw [aY (ahN c xs r)];exact r
   rcases hc with rfl | hc
   ·exact yL
   ·rintro rfl
    rcases he with z | z
    ·exact Ld c b hc z
    ·rw [hc]at z;cases z;exact hb rfl
end
structure Un(fs ex:List Addr)(H H':Hp)(h h':Heap):Prop where
 keep:∀b o,h.get? b=some o→H b=none→b∉fs→b∉ex→h'.get? b=some o
 slot:∀b o,h.get? b=some o→H b=none→b∈fs→b∉ex→∃sl,h'.get? b=some { o with slots:=sl }
 free:∀b o,h.get? b=some o→H b=none→b∉ex→H' b=none
 there:∀b o,h.get? b=some o→b∉ex→∃o',h'.get? b=some o'
 kH:∀b xs,H b=some (.tup xs)→H' b=some (.tup xs)
 jL:∀b o u,H b=some (.cV o u)→H' b=some (.cV o u)
 kI:∀b ps,H b=some (.sZ ps)→∃more,H' b=some (.sZ (ps++more))
section
variable{fs kZ ex Pm:List Addr}{H H1 H2:Hp}{h h1 h2 h':Heap}{a x e:Addr}{o:HO}
theorem Un.any(u:Un fs ex H H1 h h1){b:Addr}{ob:Obj}(q:h.get? b=some ob)(n:H b=none)(hx:b∉ex):∃sl,h1.get? b=some { ob with slots:=sl }:=by
 by_cases hb:b∈fs
 ·exact u.slot b ob q n hb hx
 ·exact⟨ob.slots,u.keep b ob q n hb hx⟩
theorem Un.trans(a:Un fs ex H H1 h h1)(b:Un fs ex H1 H2 h1 h2):Un fs ex H H2 h h2 where
 keep:=fun c ob q n hc hx=>b.keep c ob (a.keep c ob q n hc hx) (a.free c ob q n hx) hc hx
 slot:=fun c ob q n hc hx=>by
  obtain⟨sl,e1⟩:=a.slot c ob q n hc hx;obtain⟨ES,e2⟩:=b.slot c _ e1 (a.free c ob q n hx) hc hx;exact⟨ES,e2⟩
 free:=fun c ob q n hx=>by
  obtain⟨o',e1⟩:=a.there c ob q hx;exact b.free c o' e1 (a.free c ob q n hx) hx
 there:=fun c ob q hx=>by
  obtain⟨o',e1⟩:=a.there c ob q hx;exact b.there c o' e1 hx
 kH:=fun c xs q=>b.kH c xs (a.kH c xs q)
 jL:=fun c ob xs q=>b.jL c ob xs (a.jL c ob xs q)
 kI:=fun c ps q=>by
  obtain⟨m1,e1⟩:=a.kI c ps q;obtain⟨m2,e2⟩:=b.kI c _ e1;exact⟨m1++m2,by rw [e2,Array.append_assoc]⟩
theorem Un.kept(k:∀b u,h.get? b=some u→h'.get? b=some u):Un fs ex H H h h' :=
 ⟨fun b ob q _ _ _=>k b ob q,fun b ob q _ _ _=>⟨ob.slots,k b ob q⟩,fun _ _ _ n _=>n,fun b ob q _=>⟨ob,k b ob q⟩,fun _ _ q=>q,fun _ _ _ q=>q,fun _ ps q=>⟨#[],by rw [q];simp⟩⟩
theorem Un.refl:Un fs ex H H h h:=Un.kept fun _ _ q=>q
theorem Un.laid(k:∀b u,h.get? b=some u→h'.get? b=some u)(hp:h.objs.size≤a)(hn:H a=none):Un fs ex H (upd H a o) h h' where
 keep:=fun b u q _ _ _=>k b u q
 slot:=fun b u q _ _ _=>⟨u.slots,k b u q⟩
 free:=fun b u q n _=>by rw [aY (dA (lC (cO q) hp))];exact n
 there:=fun b u q _=>⟨u,k b u q⟩
 kH:=fun b xs q=>by rw [aY (iF q hn)];exact q
 jL:=fun b u xs q=>by rw [aY (iF q hn)];exact q
 kI:=fun b ps q=>⟨#[],by rw [aY (iF q hn),q];simp⟩
theorem Un.write(mu:IY (H x))(he:e=x∨H e=some (.own x))(k:∀b u,b≠e→h.get? b=some u→h'.get? b=some u)(BR:∃u,h'.get? e=some u):Un fs ex H (upd H x o) h h':=by
 have hx:∀b,H b=none→b≠x:=fun b n z=>by subst z;rw [n]at mu;exact mu
 have hb:∀b,H b=none→b≠e:=fun b n z=>by
  subst z
  rcases he with r | r
  ·exact hx b n r
  ·rw [n]at r;cases r
 have hm:∀b u,H b=some u→¬IY (some u)→b≠x:=fun b u q nm z=>by subst z;rw [q]at mu;exact nm mu
 refine⟨fun b u q n _ _=>k b u (hb b n) q,fun b u q n _ _=>⟨u.slots,k b u (hb b n) q⟩,fun b u q n _=>by rw [aY (hx b n)];exact n,fun b u q _=>?_,
  fun b xs q=>by rw [aY (hm b _ q fun z=>z)];exact q,fun b u xs q=>by rw [aY (hm b _ q fun z=>z)];exact q,fun b ps q=>⟨#[],by rw [aY (hm b _ q fun z=>z),q];simp⟩⟩
 by_cases yL:b=e
 ·subst yL;exact BR
 ·exact⟨u,k b u yL q⟩
theorem Un.mono(u:Un fs ex H H1 h h1)(hs:∀b∈fs,b∈kZ)(hx:∀b∈ex,b∈Pm):Un kZ Pm H H1 h h1 :=
 ⟨fun b ob q n hb he=>u.keep b ob q n (fun z=>hb (hs b z)) fun z=>he (hx b z),fun _ _ q n _ he=>u.any q n fun z=>he (hx _ z),fun b ob q n he=>u.free b ob q n fun z=>he (hx b z),fun b ob q he=>u.there b ob q fun z=>he (hx b z),u.kH,u.jL,u.kI⟩
end
def LF(h:Heap)(H:Hp):List Addr:=(List.range h.objs.size).filter fun a=>(H a).isSome
def tR(h:Heap)(H:Hp):Heap:=PySem.W.hideAll h (LF h H)
theorem alJ(h:Heap)(H:Hp):(tR h H).objs.size=h.objs.size:=PySem.W.hideAll_size _ _
theorem alK{h:Heap}{H:Hp}{b:Addr}{o:Obj}(e:h.get? b=some o)(n:H b=none):(tR h H).get? b=some o :=
 PySem.W.hideAll_get _ e fun hm=>by
  have q:(H b).isSome=true:=(List.mem_filter.mp hm).2;rw [n]at q;simp at q
theorem ahC{h:Heap}{H:Hp}{b:Addr}{o:Obj}(e:(tR h H).get? b=some o):h.get? b=some o∧H b=none:=by
 have e':h.get? b=some o:=PySem.W.of_hideAll (LF h H) e;refine⟨e',?_⟩;cases q:H b with
 | none=>rfl
 | some x =>
  have hm:b∈LF h H:=List.mem_filter.mpr ⟨List.mem_range.mpr (cO e'),by simp [q]⟩;have z:(tR h H).get? b=none:=PySem.W.hideAll_none (LF h H) hm;rw [z]at e;cases e
def Dr(g h:Heap)(L:Addr):List (Addr×Obj):=(List.range h.objs.size).filterMap fun a=>if a=L∨(g.get? a).isSome=true then none else(h.get? a).map fun o=>(a,o)
theorem aiE{g h:Heap}{L a:Addr}{o:Obj}(h1:a≠L)(h2:g.get? a=none)(h3:h.get? a=some o):(a,o)∈Dr g h L :=
 List.mem_filterMap.mpr ⟨a,List.mem_range.mpr (cO h3),by simp [h1,h2,h3]⟩
def rest(g h:Heap)(L d:Addr):List (Addr×Obj):=(Dr g h L).filter fun p=>decide (p.1≠d)
structure Mod(K:Frag)(mg:Str→Option Value)(base:Heap):Prop where
 vL:K.In base
 glob:base.Ns mainGlobals mg
 blt:∃mb,base.Ns builtinsNs mb∧∀x:Str,x ≠ "__name__"→mb x=bootBuiltins x
 nolimit:base.NoLimit
structure Cx where
 prog:Program
 w:World
 K:Frag
 mg:Str→Option Value
 base:Heap
 A:Around
 N:List Str
 s₀:Shared
 H₀:Hp
 env:Env
 outer:List Env
 stack:List Env
 ex:List Addr
 fn:Str→Bool
 calm:Bool
 pn:List (Addr×Obj)
 xe:Value→Shared→Prop
def fS(l:List Env):List Addr:=l.filterMap (·.frame)
abbrev Cx.fs(X:Cx):List Addr:=fS X.outer
def QH(sc:Scope)(x:Str):Prop:=sc.names.lookup x=some .local∨sc.names.lookup x=some .cell∨sc.names.lookup x=some .free
def Loc(sc:Scope)(x:Str):Prop:=sc.names.lookup x=some .local∨sc.names.lookup x=some .cell
def Look(env:Env)(h:Heap)(m:Str→Option Value)(x:Str)(u:Value):Prop :=
 (env.kindOf x=some .local∧m x=some u)∨((env.kindOf x=some .cell∨env.kindOf x=some .free)∧∃c,env.cells.lookup x=some c∧h.IsCell c (some u))
structure Cx.Ok(X:Cx):Prop where
 mod:Mod X.K X.mg X.base
 kind:X.env.scope.kind = .function
 glob:X.env.globals=mainGlobals
 blt:X.env.builtins=builtinsNs
 above:X.s₀.heap.objs.size≤X.env.locals
 inj:∀x y c,X.env.cells.lookup x=some c→X.env.cells.lookup y=some c→x=y
 has:∀x,(X.env.kindOf x=some .cell∨X.env.kindOf x=some .free)→∃c,X.env.cells.lookup x=some c
 zF:∀x c,X.fn x=true→X.env.cells.lookup x=some c→X.s₀.heap.objs.size≤c
 hd:X.calm=true→X.A.handled=none
 frames:X.A.frames=some X.stack
 pN:X.stack=X.outer∨(X.stack=X.env::X.outer∧X.env.frame=some X.env.locals)
 yX:∀b∈X.ex,b≠X.env.locals∧∀x c,X.env.cells.lookup x=some c→c≠b
 bs:∀b o,X.base.get? b=some o→X.s₀.heap.get? b=some o∧X.H₀ b=none
 nX:X.base.objs.size≤X.s₀.heap.objs.size
 rS:∀b o,X.base.get? b=some o→b∉X.ex
 vZ:∀b∈X.ex,b∉X.fs
 mU:X.s₀.heap.FunFrames X.base X.outer
 rB:∀b∈X.fs,X.H₀ b=none
structure Inv(X:Cx)(pins:List (Addr×Obj))(σ:List (Option V))(H:Hp)(s:Shared):Prop where
 ok:X.Ok
 os:s.os=X.s₀.os
 bare:AllBare s.gens
 base:Un X.fs X.ex X.H₀ H X.s₀.heap s.heap
 loc:∃m,s.heap.Ns X.env.locals m∧∀(i:Nat) (x:Str) (v:V),X.N[i]? = some x→σ[i]? = some (some v)→QH X.env.scope x→∃u,RelV v u∧Look X.env s.heap m x u
 cell:∀x c,X.env.cells.lookup x=some c→∃v,s.heap.IsCell c v
 free:H X.env.locals=none
 jM:∀x c,X.env.cells.lookup x=some c→H c=none
 pin:∀p∈X.pn++pins,s.heap.get? p.1=some p.2∧H p.1=none∧p.1≠X.env.locals∧p.1∉X.fs∧∀v,p.2.data ≠ .cell v
 aH:eR X.prog X.w H s.heap
 len:σ.length=X.N.length
section
variable{X:Cx}{pins:List (Addr×Obj)}{σ:List (Option V)}{H H':Hp}{s:Shared}{h':Heap}
theorem Cx.Ok.ahS(ok:X.Ok){b:Addr}{o:Obj}(e:X.base.get? b=some o):b∉X.fs:=fun hb=>by
 have:=(ok.mU.mem hb).1;rw [e]at this;cases this
theorem Inv.bs(I:Inv X pins σ H s):∀b o,X.base.get? b=some o→s.heap.get? b=some o∧H b=none:=fun b o e =>
 ⟨I.base.keep b o (I.ok.bs b o e).1 (I.ok.bs b o e).2 (I.ok.ahS e) (I.ok.rS b o e),I.base.free b o (I.ok.bs b o e).1 (I.ok.bs b o e).2 (I.ok.rS b o e)⟩
theorem Inv.bk(I:Inv X pins σ H s):∀b o,X.base.get? b=some o→s.heap.get? b=some o:=fun b o e=>(I.bs b o e).1
theorem Inv.mod(I:Inv X pins σ H s):Mod X.K X.mg X.base:=I.ok.mod
theorem Inv.fK(I:Inv X pins σ H s):X.K.In s.heap:=I.ok.mod.vL.keeps I.bk
theorem Inv.nolimit(I:Inv X pins σ H s):s.heap.NoLimit:=I.ok.mod.nolimit.keeps I.bk
theorem Inv.lt(I:Inv X pins σ H s):X.env.locals<s.heap.objs.size:=let ⟨_,hn,_⟩:=I.loc;hn.lt
theorem Inv.sz(I:Inv X pins σ H s):X.s₀.heap.objs.size≤s.heap.objs.size:=qD I.ok.above (QL I.lt)
theorem Inv.ahQ(I:Inv X pins σ H s){a:Addr}(h:s.heap.objs.size≤a):a∉X.fs:=fun hb=>by
 obtain⟨_,o,ho,_⟩:=I.ok.mU.mem hb;exact absurd (lC (cO ho) (qD I.sz h)) (Nat.lt_irrefl _)
theorem Inv.zD(I:Inv X pins σ H s):∀x c,X.env.cells.lookup x=some c→c≠X.env.locals:=fun x c e z=>by
 obtain⟨v,o,ho,hd⟩:=I.cell x c e;obtain⟨m,⟨o',es,ep,lM,BU,_⟩,_⟩:=I.loc;rw [z,lM]at ho;cases ho;rw [BU]at hd;cases hd
theorem Inv.mU(I:Inv X pins σ H s):s.heap.FunFrames X.base X.outer:=by
 have all:∀(l:List Env),(∀b∈fS l,b∈X.fs)→X.s₀.heap.FunFrames X.base l→s.heap.FunFrames X.base l:=by
  intro l
  induction l with
  | nil=>intro _ _;trivial
  | cons env r ih =>
   intro hs hl;obtain⟨hk,⟨L,o,hf,hn,ho,hd⟩,hr⟩:=hl;have hL:L∈X.fs:=hs L (by unfold fS;rw [List.filterMap_cons,hf];exact List.mem_cons_self);obtain⟨sl,e⟩:=I.base.slot L o ho (I.ok.rB L hL) hL fun z=>I.ok.vZ L z hL;exact⟨hk,⟨L,_,hf,hn,e,hd⟩,ih (fun b hb=>hs b (by unfold fS;rw [List.filterMap_cons,hf];exact List.mem_cons_of_mem _ hb)) hr⟩
 exact all X.outer (fun _ hb=>hb) I.ok.mU
theorem Inv.stack(I:Inv X pins σ H s):s.heap.FunFrames X.base X.stack:=by
 rcases I.ok.pN with e | ⟨e,hf⟩
 ·rw [e];exact I.mU
 ·rw [e];obtain⟨m,hn,_⟩:=I.loc;refine .cons (by rw [I.ok.kind];decide) hf hn ?_ I.mU;exact Heap.get?_none_of_le (qD I.ok.nX I.ok.above)
theorem Inv.uU(I:Inv X pins σ H s):∀b∈fS X.stack,b∈X.env.locals::X.fs:=fun b hb=>by
 rcases I.ok.pN with e | ⟨e,hf⟩
 ·rw [e]at hb;exact gQ _ hb
 ·rw [e]at hb;unfold fS at hb;rw [Fb,hf]at hb;exact hb
theorem Inv.LR(I:Inv X pins σ H s):∀b∈fS X.stack,H b=none:=fun b hb=>by
 rcases eN.mp (I.uU b hb)with e | hb
 ·rw [e];exact I.free
 ·obtain⟨_,o,ho,_⟩:=I.ok.mU.mem hb;exact I.base.free b o ho (I.ok.rB b hb) fun z=>I.ok.vZ b z hb
theorem Inv.step{g':Array GenState}{t':Nat}{d':Drawn}{ch:List Addr}(I:Inv X pins σ H s)
  (nI:∀b∈ch,(b∈X.ex∨X.s₀.heap.objs.size≤b)∧b≠X.env.locals∧(∀x c,X.env.cells.lookup x=some c→c≠b)∧∀p∈X.pn++pins,p.1≠b)
  (keep:∀b o,b≠X.env.locals→b∉X.fs→b∉ch→s.heap.get? b=some o→H b=none→h'.get? b=some o)
  (slot:∀b o,b≠X.env.locals→b∈X.fs→b∉ch→s.heap.get? b=some o→H b=none→∃sl,h'.get? b=some { o with slots:=sl }) (free:∀b o,b∉ch→s.heap.get? b=some o→H b=none→H' b=none)
  (there:∀b o,b∉ch→s.heap.get? b=some o→∃o',h'.get? b=some o')
  (kH:∀b xs,H b=some (.tup xs)→H' b=some (.tup xs)) (jL:∀b o u,H b=some (.cV o u)→H' b=some (.cV o u)) (kI:∀b ps,H b=some (.sZ ps)→∃more,H' b=some (.sZ (ps++more)))
  (ns:∀m,s.heap.Ns X.env.locals m→h'.Ns X.env.locals m) (aH:eR X.prog X.w H' h') (hg:AllBare g') :
  Inv X pins σ H' { s with heap:=h',gens:=g',drawn:=d',toks:=t' }:=by
 have Lk:∀b o,X.s₀.heap.get? b=some o→b≠X.env.locals:=fun b o e=>dA (lC (cO e) I.ok.above);have vI:∀b o,X.s₀.heap.get? b=some o→b∉X.ex→b∉ch:=fun b o e hx hb=>by
  rcases(nI b hb).1 with z | z
  ·exact hx z
  ·exact absurd (lC (cO e) z) (Nat.lt_irrefl _)
 have cellK:∀x c,X.env.cells.lookup x=some c→∀v,s.heap.IsCell c v→h'.IsCell c v:=fun x c e v ⟨o,ho,hd⟩=>by
  have FP:c∉ch:=fun z=>(nI c z).2.2.1 x c e rfl
  by_cases hc:c∈X.fs
  ·obtain⟨sl,q⟩:=slot c o (I.zD x c e) hc FP ho (I.jM x c e);exact⟨_,q,hd⟩
  ·exact⟨o,keep c o (I.zD x c e) hc FP ho (I.jM x c e),hd⟩
 refine⟨I.ok,I.os,hg,⟨fun b o e n hb hx=>?_,fun b o e n hb hx=>?_,fun b o e n hx=>?_,fun b o e hx=>?_,fun b xs e=>kH b xs (I.base.kH b xs e),fun b o xs e=>jL b o xs (I.base.jL b o xs e),fun b ps e=>?_⟩,?_,fun x c e=>?_,?_,fun x c e=>?_,fun p hp=>?_,aH,I.len⟩
 ·exact keep b o (Lk b o e) hb (vI b o e hx) (I.base.keep b o e n hb hx) (I.base.free b o e n hx)
 ·obtain⟨sl,e1⟩:=I.base.slot b o e n hb hx;obtain⟨ES,e2⟩:=slot b _ (Lk b o e) hb (vI b o e hx) e1 (I.base.free b o e n hx);exact⟨ES,e2⟩
 ·obtain⟨o',e1⟩:=I.base.there b o e hx;exact free b o' (vI b o e hx) e1 (I.base.free b o e n hx)
 ·obtain⟨o',e1⟩:=I.base.there b o e hx;exact there b o' (vI b o e hx) e1
 ·obtain⟨m1,e1⟩:=I.base.kI b ps e;obtain⟨m2,e2⟩:=kI b _ e1;exact⟨m1++m2,by rw [e2,Array.append_assoc]⟩
 ·obtain⟨m,hn,hl⟩:=I.loc;refine⟨m,ns m hn,fun i x v e1 e2 e3=>?_⟩;obtain⟨u,r,l⟩:=hl i x v e1 e2 e3;refine⟨u,r,?_⟩
  rcases l with l | ⟨k,c,e,z⟩
  ·exact .inl l
  ·exact .inr ⟨k,c,e,cellK x c e _ z⟩
 ·obtain⟨v,z⟩:=I.cell x c e;exact⟨v,cellK x c e v z⟩
 ·obtain⟨m,⟨o,_,_,ho,_⟩,_⟩:=I.loc;exact free _ o (fun z=>(nI _ z).2.1 rfl) ho I.free
 ·obtain⟨v,o,ho,hd⟩:=I.cell x c e;exact free c o (fun z=>(nI c z).2.2.1 x c e rfl) ho (I.jM x c e)
 ·obtain⟨e,n,ne,nf,d⟩:=I.pin p hp;have FP:p.1∉ch:=fun z=>(nI p.1 z).2.2.2 p hp rfl;exact⟨keep p.1 p.2 ne nf FP e n,free p.1 p.2 FP e n,ne,nf,d⟩
theorem Inv.un{t':Nat}(I:Inv X pins σ H s)(u:Un X.fs [] H H' s.heap h')(aH:eR X.prog X.w H' h'):Inv X pins σ H' { s with heap:=h',toks:=t' }:=by
 obtain⟨m,⟨o,es,ep,ho,r⟩,_⟩:=id I.loc;obtain⟨sl,hL⟩:=u.any ho I.free (by simp);exact I.step (g':=s.gens) (d':=s.drawn) (ch:=[]) (fun _ z=>nomatch z) (fun b o _ hb _ e n=>u.keep b o e n hb (by simp)) (fun b o _ hb _ e n=>u.slot b o e n hb (by simp)) (fun b o _ e n=>u.free b o e n (by simp)) (fun b o _ e=>u.there b o e (by simp)) u.kH u.jL u.kI (fun m' hm=>by
  obtain⟨o',dX,OP,lM,r'⟩:=hm;rw [ho]at lM;cases lM;exact⟨_,dX,OP,hL,r'⟩) aH I.bare
theorem Inv.call{g':Array GenState}{t':Nat}{d':Drawn}{ch:List Addr}(I:Inv X pins σ H s)(u:Un (fS X.stack) ch H H' s.heap h')(aH:eR X.prog X.w H' h')(hg:AllBare g')
  (nI:∀b∈ch,(b∈X.ex∨X.s₀.heap.objs.size≤b)∧b≠X.env.locals∧(∀x c,X.env.cells.lookup x=some c→c≠b)∧∀p∈X.pn++pins,p.1≠b) :
  Inv X pins σ H' { s with heap:=h',gens:=g',drawn:=d',toks:=t' }:=by
 obtain⟨m,⟨o,es,ep,ho,r⟩,_⟩:=id I.loc;obtain⟨sl,hL⟩:=u.any ho I.free fun z=>(nI _ z).2.1 rfl;exact I.step (ch:=ch) nI (fun b o hL hb hc e n=>u.keep b o e n (fun z=>(eN.mp (I.uU b z)).elim hL hb) hc) (fun b o _ _ hc e n=>u.any e n hc) (fun b o hc e n=>u.free b o e n hc) (fun b o hc e=>u.there b o e hc) u.kH u.jL u.kI (fun m' hm=>by
  obtain⟨o',dX,OP,lM,r'⟩:=hm;rw [ho]at lM;cases lM;exact⟨_,dX,OP,hL,r'⟩) aH hg
theorem Inv.turned{t':Nat}{it:Addr}(I:Inv X pins σ H s)(k:∀b o,b≠it→s.heap.get? b=some o→h'.get? b=some o)(hn:H it=none)(hL:it≠X.env.locals)
  (h1:it∈X.ex∨X.s₀.heap.objs.size≤it) (h2:∀x c,X.env.cells.lookup x=some c→c≠it) (h3:∀p∈X.pn++pins,p.1≠it):Inv X pins σ H { s with heap:=h',toks:=t' }:=by
 have Lh:∀b u,H b=some u→b≠it:=fun b u e z=>by rw [z,hn]at e;cases e
 refine I.step (g':=s.gens) (d':=s.drawn) (ch:=[it]) (fun b hb=>?_) (fun b o _ _ hc e _=>k b o (fun z=>hc (by simp [z])) e) (fun b o _ _ hc e _=>⟨o.slots,k b o (fun z=>hc (by simp [z])) e⟩) (fun _ _ _ _ n=>n)
  (fun b o hc e=>⟨o,k b o (fun z=>hc (by simp [z])) e⟩) (fun _ _ e=>e) (fun _ _ _ e=>e) (fun b ps e=>⟨#[],by rw [e];simp⟩) (fun m hm=>?_) (fun b u e=>?_) I.bare
 ·have e:b=it:=by simpa using hb
  subst e;exact⟨h1,hL,h2,h3⟩
 ·obtain⟨o,es,ep,ho,r⟩:=hm;exact⟨o,es,ep,k _ o (bV hL) ho,r⟩
 ·refine(I.aH b u e).nC (fun c v hc q=>k c v ?_ q) (fun _ q=>q) fun _ _ q=>q
  rcases hc with z | z
  ·rw [z];exact Lh b u e
  ·exact Lh c _ z
theorem Inv.tok(I:Inv X pins σ H s)(t:Nat):Inv X pins σ H { s with toks:=t }:=I.un (h':=s.heap) (t':=t) Un.refl I.aH
theorem Inv.kept{t':Nat}(I:Inv X pins σ H s)(k:∀b u,s.heap.get? b=some u→h'.get? b=some u):Inv X pins σ H { s with heap:=h',toks:=t' }:=I.un (Un.kept k) (I.aH.kept k)
theorem Inv.laid{a:Addr}{o:HO}{t':Nat}(I:Inv X pins σ H s)(k:∀b u,s.heap.get? b=some u→h'.get? b=some u)(hp:s.heap.objs.size≤a)(new:fN X.prog X.w (upd H a o) h' a o) :
  Inv X pins σ (upd H a o) { s with heap:=h',toks:=t' }:=I.un (Un.laid k hp (I.aH.fresh hp)) (I.aH.laid k hp new)
theorem Inv.write{x e:Addr}{o:HO}{t':Nat}(I:Inv X pins σ H s)(mu:IY (H x))(he:e=x∨H e=some (.own x))(k:∀b u,b≠e→s.heap.get? b=some u→h'.get? b=some u)(BR:∃u,h'.get? e=some u)
  (new:fN X.prog X.w (upd H x o) h' x o):Inv X pins σ (upd H x o) { s with heap:=h',toks:=t' }:=I.un (Un.write mu he k BR) (I.aH.write mu he k BR new)
theorem Inv.VV{Ko:List (Addr×Obj)}(I:Inv X pins σ H s)(h:∀p∈Ko,s.heap.get? p.1=some p.2∧H p.1=none∧p.1≠X.env.locals∧p.1∉X.fs∧∀v,p.2.data ≠ .cell v):Inv X Ko σ H s :=
 ⟨I.ok,I.os,I.bare,I.base,I.loc,I.cell,I.free,I.jM,fun p hp=>(JC.mp hp).elim (fun z=>I.pin p (wM _ z)) (h p),I.aH,I.len⟩
theorem Lg{N:List Str}(hN:N.Nodup){i j:Nat}{x:Str}(a:N[i]? = some x)(b:N[j]? = some x):i=j:=by
 obtain⟨h1,e1⟩:=bX.mp a;obtain⟨h2,e2⟩:=bX.mp b;exact(List.getElem_inj hN).mp (e1.trans e2.symm)
theorem acG{M:Model}{A:Around}{E:Value→Shared→Prop}{i:Nat}{x:Str}{v:V}{u:Value}{Q:Unit→Shared→Prop}(I:Inv X pins σ H s)(hN:X.N.Nodup)(hi:X.N[i]? = some x)(hx:Loc X.env.scope x)(r:RelV v u)
  (h:∀s',Inv X pins (σ.set i (some v)) H s'→(∃a,Heap.SameBut a s.heap s'.heap∧(a=X.env.locals∨X.env.cells.lookup x=some a))→Q () s') (hf:X.fn x=true∨X.env.scope.names.lookup x=some .local:=by first | exact .inl rfl | exact .inr rfl | assumption):wpAny M A (storeName X.env x u) Q E s:=by
 obtain⟨m,hn,hl⟩:=id I.loc;have al1:(X.env.scope.kind == .class||(X.env.scope.kind == .module&&X.env.locals != X.env.globals))=false:=by rw [I.ok.kind];rfl
 have Nm:i<σ.length:=by rw [I.len];exact(bX.mp hi).1
 have zD:=I.zD;have tracked:∀{a:Addr} {h':Heap},(∃o,s.heap.get? a=some o∧H a=none)→Heap.SameBut a s.heap h'→eR X.prog X.w H h':=fun{a h'} ha hs b ob e=>by
  obtain⟨_,_,yJ⟩:=ha;refine(I.aH b ob e).nC (fun c w' hc q=>(hs.2 c ?_).trans q) (fun _ q=>q) fun _ _ q=>q;rintro rfl
  rcases hc with rfl | hc
  ·rw [yJ]at e;cases e
  ·rw [yJ]at hc;cases hc
 rcases hx with hk | hk
 ·refine wpAny_storeName_local hk hn (fun h' hn' hs=>?_) al1;obtain⟨oL,_,_,pU,_⟩:=id hn;refine h _ ⟨I.ok,I.os,I.bare,⟨fun b o e n hb hx=>?_,fun b o e n hb hx=>?_,I.base.free,fun b o e hx=>?_,I.base.kH,I.base.jL,I.base.kI⟩,⟨_,hn',fun j y v' e1 e2 e3=>?_⟩,fun y c e=>?_,I.free,I.jM,fun p hp=>?_,tracked ⟨oL,pU,I.free⟩ hs,by simpa using I.len⟩ ⟨_,hs,.inl rfl⟩
  ·exact(hs.2 b (dA (lC (cO e) I.ok.above))).trans (I.base.keep b o e n hb hx)
  ·obtain⟨sl,e1⟩:=I.base.slot b o e n hb hx;exact⟨sl,(hs.2 b (dA (lC (cO e) I.ok.above))).trans e1⟩
  ·obtain⟨o',e1⟩:=I.base.there b o e hx;exact⟨o',(hs.2 b (dA (lC (cO e) I.ok.above))).trans e1⟩
  ·by_cases hj:j=i
   ·subst hj;rw [hi]at e1;cases e1;rw [gR Nm]at e2;cases e2;exact⟨u,r,.inl ⟨hk,by simp⟩⟩
   ·rw [gS (bV hj)]at e2;obtain⟨u',r',q⟩:=hl j y v' e1 e2 e3;refine⟨u',r',?_⟩
    rcases q with⟨k,e⟩ | ⟨k,c,e,z⟩
    ·refine .inl ⟨k,?_⟩;have:y≠x:=fun e=>hj (Lg hN e1 (e ▸ hi));simp [this,e]
    ·exact .inr ⟨k,c,e,z.sameBut hs (zD y c e)⟩
  ·obtain⟨w',z⟩:=I.cell y c e;exact⟨w',z.sameBut hs (zD y c e)⟩
  ·obtain⟨e,n,ne,nf,d⟩:=I.pin p hp;exact⟨(hs.2 p.1 ne).trans e,n,ne,nf,d⟩
 ·have ZN:X.fn x=true:=by
   rcases hf with z | z
   ·exact z
   ·rw [z]at hk;cases hk
  obtain⟨c,hc⟩:=I.ok.has x (.inl hk);obtain⟨w',z⟩:=I.cell x c hc;refine wpAny_storeName_cell I.ok.kind hk hc z (fun h' pW hs=>?_);obtain⟨oc,BN,ak1⟩:=id z;refine h { s with heap:=h' } ⟨I.ok,I.os,I.bare,⟨fun b o e n hb hx=>?_,fun b o e n hb hx=>?_,I.base.free,fun b o e hx=>?_,I.base.kH,I.base.jL,I.base.kI⟩,⟨m,hn.sameBut hs (bV (zD x c hc)),fun j y v' e1 e2 e3=>?_⟩,fun y c' e=>?_,I.free,I.jM,fun p hp=>?_,tracked ⟨oc,BN,I.jM x c hc⟩ hs,by simpa using I.len⟩ ⟨c,hs,.inr hc⟩
  ·exact(hs.2 b (dA (lC (cO e) (I.ok.zF x c ZN hc)))).trans (I.base.keep b o e n hb hx)
  ·obtain⟨sl,e1⟩:=I.base.slot b o e n hb hx;exact⟨sl,(hs.2 b (dA (lC (cO e) (I.ok.zF x c ZN hc)))).trans e1⟩
  ·obtain⟨o',e1⟩:=I.base.there b o e hx;exact⟨o',(hs.2 b (dA (lC (cO e) (I.ok.zF x c ZN hc)))).trans e1⟩
  ·by_cases hj:j=i
   ·subst hj;rw [hi]at e1;cases e1;rw [gR Nm]at e2;cases e2;exact⟨u,r,.inr ⟨.inl hk,c,hc,pW⟩⟩
   ·rw [gS (bV hj)]at e2;obtain⟨u',r',q⟩:=hl j y v' e1 e2 e3;refine⟨u',r',?_⟩
    rcases q with q | ⟨k,c',e,z'⟩
    ·exact .inl q
    ·refine .inr ⟨k,c',e,z'.sameBut hs ?_⟩;rintro rfl;exact hj (Lg hN e1 (I.ok.inj _ _ _ e hc ▸ hi))
  ·by_cases Nz:c'=c
   ·subst Nz;exact⟨_,pW⟩
   ·obtain⟨w2,z2⟩:=I.cell y c' e;exact⟨w2,z2.sameBut hs Nz⟩
  ·obtain⟨e,n,ne,nf,d⟩:=I.pin p hp;refine⟨(hs.2 p.1 ?_).trans e,n,ne,nf,d⟩;intro q;rw [q,BN]at e;have q':oc=p.2:=mF e;exact d w' (by rw [← q'];exact ak1)
theorem Il{M:Model}{A:Around}{E:Value→Shared→Prop}{i:Nat}{x:Str}{v:V}{u:Value}{Q:Unit→Shared→Prop}(I:Inv X pins σ H s)(hN:X.N.Nodup)(hi:X.N[i]? = some x)(hx:Loc X.env.scope x)(r:RelV v u)
  (h:∀s',Inv X pins (σ.set i (some v)) H s'→Q () s') (hf:X.fn x=true∨X.env.scope.names.lookup x=some .local:=by first | exact .inl rfl | exact .inr rfl | assumption):wpAny M A (storeName X.env x u) Q E s :=
 acG I hN hi hx r (fun s' I' _=>h s' I') hf
theorem Inv.IJ{s':Shared}{ch:List Addr}(I:Inv X pins σ H s)(ho:s'.os=s.os)(u:Un (fS X.stack) ch H H' s.heap s'.heap)(aH:eR X.prog X.w H' s'.heap)(hg:AllBare s'.gens)
  (nI:∀b∈ch,(b∈X.ex∨X.s₀.heap.objs.size≤b)∧b≠X.env.locals∧(∀x c,X.env.cells.lookup x=some c→c≠b)∧∀p∈X.pn++pins,p.1≠b):Inv X pins σ H' s':=by
 obtain⟨h',g',d',t',o'⟩:=s';have e:o'=s.os:=ho;subst e;exact I.call (g':=g') (t':=t') (d':=d') u aH hg nI
end
abbrev XK:=Value→Option Addr→Hp→Prop
abbrev St:=List (Option V)
abbrev VK:=V→Hp→Prop
abbrev TE:=St→Hp→VK→Prop
abbrev TT:=St→Hp→(Bool→Hp→Prop)→Prop
abbrev TA:=St→Hp→(List V→Hp→Prop)→Prop
structure Ends where
 nx:St→Hp→Prop
 rt:VK
 bk:St→Hp→Prop:=fun _ _=>False
 ct:St→Hp→Prop:=fun _ _=>False
abbrev TS:=Ends→St→Hp→Prop
def EP(X:Cx)(pins:List (Addr×Obj))(σ:St)(Q:VK)(u:Value)(s':Shared):Prop:=∃v H',Inv X pins σ H' s'∧RelV v u∧Q v H'
def TP(X:Cx)(pins:List (Addr×Obj))(σ:St)(Q:Bool→Hp→Prop)(b:Bool)(s':Shared):Prop:=∃H',Inv X pins σ H' s'∧Q b H'
def AP(X:Cx)(pins:List (Addr×Obj))(σ:St)(Q:List V→Hp→Prop)(us:List Value)(s':Shared):Prop:=∃vs H',Inv X pins σ H' s'∧Vals vs us∧Q vs H'
def SP(X:Cx)(pins:List (Addr×Obj))(D:Ends)(f:Flow)(s':Shared):Prop :=
 match f with
 | .next=>∃σ' H',Inv X pins σ' H' s'∧D.nx σ' H'
 | .brk=>∃σ' H',Inv X pins σ' H' s'∧D.bk σ' H'
 | .cont=>∃σ' H',Inv X pins σ' H' s'∧D.ct σ' H'
 | .ret u=>∃v σ' H',Inv X pins σ' H' s'∧RelV v u∧D.rt v H'
def PE(X:Cx)(e:Expr)(t:TE):Prop :=
 ∀(pins:List (Addr×Obj)) (s:Shared) (σ:St) (H:Hp) (Q:VK),Inv X pins σ H s→t σ H Q→wpAny (model X.prog X.w) X.A (eval e X.env) (EP X pins σ Q) X.xe s
def PT(X:Cx)(e:Expr)(t:TT):Prop :=
 ∀(pins:List (Addr×Obj)) (s:Shared) (σ:St) (H:Hp) (Q:Bool→Hp→Prop),Inv X pins σ H s→t σ H Q→wpAny (model X.prog X.w) X.A (isTrue e X.env (eval e X.env)) (TP X pins σ Q) X.xe s
def PW(X:Cx)(e:Expr)(t:TT):Prop :=
 ∀(whole:Sem Value) (pins:List (Addr×Obj)) (s:Shared) (σ:St) (H:Hp) (Q:Bool→Hp→Prop),Inv X pins σ H s→t σ H Q→wpAny (model X.prog X.w) X.A (isTrue e X.env whole) (TP X pins σ Q) X.xe s
theorem PW.pt{X:Cx}{e:Expr}{t:TT}(h:PW X e t):PT X e t:=h _
def PA(X:Cx)(es:List Expr)(t:TA):Prop :=
 ∀(pos:Pos) (pins:List (Addr×Obj)) (s:Shared) (σ:St) (H:Hp) (Q:List V→Hp→Prop),Inv X pins σ H s→t σ H Q→wpAny (model X.prog X.w) X.A (spliced (backTo pos (starEach es X.env))) (AP X pins σ Q) X.xe s
def PS(X:Cx)(st:Stmt)(t:TS):Prop :=
 ∀(pins:List (Addr×Obj)) (s:Shared) (σ:St) (H:Hp) (D:Ends),Inv X pins σ H s→t D σ H→wpAny (model X.prog X.w) X.A (exec st X.env) (SP X pins D) X.xe s
def mE(X:Cx)(st:List Stmt)(t:TS):Prop :=
 ∀(pins:List (Addr×Obj)) (s:Shared) (σ:St) (H:Hp) (D:Ends),Inv X pins σ H s→t D σ H→wpAny (model X.prog X.w) X.A (execs st X.env) (SP X pins D) X.xe s
theorem bA{α:Type}{t:Sem α}{Q Q':α→Shared→Prop}{M:Model}{A:Around}{E:Value→Shared→Prop}{s:Shared}(h:wpAny M A t Q E s)(hQ:∀a s,Q a s→Q' a s):wpAny M A t Q' E s:=lF h hQ fun _ _ x=>x
section
variable{X:Cx}
def SS(i:Nat):TE:=fun σ H Q=>∃v,σ[i]? = some (some v)∧Q v H
def tC(v:V):TE:=fun _ H Q=>Q v H
theorem Kr{i:Nat}{x:Str}{pos:Pos}(hN:X.N[i]? = some x)(hv:QH X.env.scope x)(hd:(x == ("__debug__" : Str))=false:=by decide)(kB:(x == ("__classdict__" : Str))=false:=by decide):PE X (.Name x pos) (SS i):=by
 intro pins s σ H Q I h;obtain⟨v,e,h⟩:=h;obtain⟨m,hn,hl⟩:=I.loc;obtain⟨u,r,l⟩:=hl i x v hN e hv;have fin:EP X pins σ Q u s:=⟨v,H,I,r,h⟩
 rcases l with⟨hk,hm⟩ | ⟨hk,c,hc,OD⟩
 ·exact wpAny_Name (wpAny_loadName_local I.ok.kind hk hn hm fin) hd
 ·rcases hk with hk | hk
  ·exact wpAny_Name (wpAny_loadName_cell I.ok.kind hk hc OD fin) hd
  ·exact wpAny_Name (wpAny_loadName_free I.ok.kind hk hc OD fin kB) hd
theorem af9{i j pos}:PE X (.Constant (.int i) j pos) (tC (.int i)):=fun _ _ _ H _ I h=>wpAny_Constant_int ⟨.int i,H,I.tok _,⟨_,rfl⟩,h⟩
theorem agI{b j pos}:PE X (.Constant (.bool b) j pos) (tC (.bl b)):=fun _ _ _ H _ I h=>Constant_bool ⟨.bl b,H,I,rfl,h⟩
theorem afZ{j pos}:PE X (.Constant .none j pos) (tC .bH):=fun _ _ _ H _ I h=>Constant_none ⟨.bH,H,I,rfl,h⟩
def Gl(X:Cx)(x:Str):Prop:=X.env.kindOf x=some .globalImplicit
theorem NF{E:Value→Shared→Prop}{pins:List (Addr×Obj)}{s:Shared}{σ:St}{H:Hp}{x:Str}{u:Value}{pos:Pos}{Q:Value→Shared→Prop}(I:Inv X pins σ H s)(hg:Gl X x)(hm:X.mg x=some u)(h:Q u s)
  (hd:(x == ("__debug__" : Str))=false:=by decide):wpAny (model X.prog X.w) X.A (eval (.Name x pos) X.env) Q E s :=
 Calls.Name_function_global I.ok.kind hg (Calls.loadGlobal_global (by rw [I.ok.glob];exact I.mod.glob.keeps I.bk) hm h) hd
theorem tL{E:Value→Shared→Prop}{pins:List (Addr×Obj)}{s:Shared}{σ:St}{H:Hp}{x:Str}{u:Value}{pos:Pos}{Q:Value→Shared→Prop}(I:Inv X pins σ H s)(hg:Gl X x)(hm:X.mg x=none)(hv:bootBuiltins x=some u)(h:Q u s)
  (hn:x ≠ "__name__":=by decide) (hd:(x == ("__debug__" : Str))=false:=by decide):wpAny (model X.prog X.w) X.A (eval (.Name x pos) X.env) Q E s:=by
 obtain⟨mb,h1,h2⟩:=I.mod.blt;exact Calls.Name_function_global I.ok.kind hg (Calls.loadGlobal_builtin (by rw [I.ok.glob];exact I.mod.glob.keeps I.bk) hm (by rw [I.ok.blt];exact h1.keeps I.bk) ((h2 x hn).trans hv) h) hd
theorem Kt{x:Str}{v:V}{u:Value}{pos:Pos}(hg:Gl X x)(hm:X.mg x=some u)(r:RelV v u)(hd:(x == ("__debug__" : Str))=false:=by decide):PE X (.Name x pos) (tC v) :=
 fun _ _ _ H _ I h=>NF I hg hm ⟨v,H,I,r,h⟩ hd
theorem agH{x:Str}{v:V}{u:Value}{pos:Pos}(hg:Gl X x)(hm:X.mg x=none)(hv:bootBuiltins x=some u)(r:RelV v u)(hn:x ≠ "__name__":=by decide)(hd:(x == ("__debug__" : Str))=false:=by decide):PE X (.Name x pos) (tC v) :=
 fun _ _ _ H _ I h=>tL I hg hm hv ⟨v,H,I,r,h⟩ hn hd
variable{a b:Expr}{ta tb:TE}{pos:Pos}
def PC(X:Cx)(op:CmpOp)(a b:Expr)(t:TE):Prop :=
 ∀(pins:List (Addr×Obj)) (s:Shared) (σ:St) (H:Hp) (Q:VK),Inv X pins σ H s→t σ H Q →
  wpAny (model X.prog X.w) X.A (eval a X.env) (fun v s₁=>wpAny (model X.prog X.w) X.A (eval b X.env) (fun u s₂=>wpAny (model X.prog X.w) X.A (compareOp op v u) (EP X pins σ Q) X.xe s₂) X.xe s₁) X.xe s
def tB(t:TE):TT:=fun σ H Q=>t σ H fun x H1=>∃c,x = .bl c∧Q c H1
theorem aeZ{op:CmpOp}{t:TE}(h:PC X op a b t)(h1:behindInMarks op b=false:=by first | exact atB _ (by decide) (by decide) | rfl):PT X (.Compare a [op] [b] pos) (tB t):=by
 intro pins s σ H Q I hw;refine wpAny_isTrue_Compare1 (bA (h pins s σ H _ I hw) fun v s1 h1=>bA h1 fun u s2 h2=>bA h2 fun c s3 ⟨x,H1,I1,r1,q1⟩=>?_) h1;obtain⟨d,rfl,q⟩:=q1;cases r1;exact DT ⟨H1,I1,q⟩
theorem aeW{e:Expr}{t:TE}(h:PE X e t)(he:∀whole,isTrue e X.env whole=(do let v ← whole;standAt e.pos;holding [v] (truthy v)):=by intro _;rfl):PT X e (tB t):=by
 intro pins s σ H Q I hw;refine isTrue_plain (bA (h pins s σ H _ I hw) fun v s1 ⟨x,H1,I1,r1,q1⟩=>?_) (he _);obtain⟨d,rfl,q⟩:=q1;cases r1;exact DT ⟨H1,I1,q⟩
variable{tA LL:TT}{rest:List Expr}
def Ye(t u:TT):TT:=fun σ H Q=>t σ H fun c H1=>if c=true then u σ H1 Q else Q false H1
def Xl(t u:TT):TT:=fun σ H Q=>t σ H fun c H1=>if c=true then Q true H1 else u σ H1 Q
def Xn(t:TT):TT:=fun σ H Q=>t σ H fun c H1=>Q (!c) H1
theorem pw_and1(ha:PT X a tA):PW X (.BoolOp .And [a] pos) tA:=by
 intro wh pins s σ H Q I h;refine isTrue_and (bA (ha pins s σ H Q I h) fun c s1 e=>?_);cases c with
 | true=>exact isTrue_and_nil e
 | false=>exact e
theorem pw_or1(ha:PT X a tA):PW X (.BoolOp .Or [a] pos) tA:=by
 intro wh pins s σ H Q I h;refine isTrue_or (bA (ha pins s σ H Q I h) fun c s1 e=>?_);cases c with
 | false=>exact isTrue_or_nil e
 | true=>exact e
theorem pw_and(ha:PT X a tA)(hb:PW X (.BoolOp .And (b::rest) pos) LL):PW X (.BoolOp .And (a::b::rest) pos) (Ye tA LL):=by
 intro wh pins s σ H Q I h;refine isTrue_and (bA (ha pins s σ H _ I h) fun c s1 ⟨H1,I1,q1⟩=>?_);cases c with
 | true=>exact hb wh pins s1 σ H1 Q I1 q1
 | false=>exact⟨H1,I1,q1⟩
theorem pw_or(ha:PT X a tA)(hb:PW X (.BoolOp .Or (b::rest) pos) LL):PW X (.BoolOp .Or (a::b::rest) pos) (Xl tA LL):=by
 intro wh pins s σ H Q I h;refine isTrue_or (bA (ha pins s σ H _ I h) fun c s1 ⟨H1,I1,q1⟩=>?_);cases c with
 | true=>exact⟨H1,I1,q1⟩
 | false=>exact hb wh pins s1 σ H1 Q I1 q1
theorem aeX(ha:PT X a tA):PT X (.UnaryOp .Not a pos) (Xn tA):=by
 intro pins s σ H Q I h;exact isTrue_not (ha pins s σ H (fun c H1=>Q (!c) H1) I h)
def Yd(ta tb:TE):TE:=fun σ H Q=>ta σ H fun x H1=>∃c,x = .bl c∧if c=true then tb σ H1 Q else Q (.bl false) H1
def Xm(ta:TE):TE:=fun σ H Q=>ta σ H fun x H1=>∃c,x = .bl c∧Q (.bl (!c)) H1
theorem afX{op}{t:TE}(h:PE X a t):PE X (.BoolOp op [a] pos) t:=fun pins s σ H Q I hw=>BoolOp_one (h pins s σ H Q I hw)
theorem agK(ha:PE X a ta)(hb:PE X (.BoolOp .And (b::rest) pos) tb):PE X (.BoolOp .And (a::b::rest) pos) (Yd ta tb):=by
 intro pins s σ H Q I h;refine BoolOp_and (bA (ha pins s σ H _ I h) fun v s1 ⟨x,H1,I1,r1,q1⟩=>?_);obtain⟨c,rfl,q1⟩:=q1;cases r1;refine DT ?_;cases c with
 | true=>exact hb pins s1 σ H1 Q I1 q1
 | false=>exact⟨.bl false,H1,I1,rfl,q1⟩
theorem afY(ha:PE X a ta):PE X (.UnaryOp .Not a pos) (Xm ta):=by
 intro pins s σ H Q I h;refine UnaryOp_ (bA (ha pins s σ H _ I h) fun v s1 ⟨x,H1,I1,r1,q1⟩=>?_);obtain⟨c,rfl,q1⟩:=q1;cases r1;exact not_of (DT ⟨.bl (!c),H1,I1,rfl,q1⟩)
end
def eX(K:Frag)(H:Hp)(a:Addr)(xs:List V):Prop :=
 Rd H a (.lst xs) ∨
  ∃(o:Obj) (aL:Array Value) (n:Nat),K.lookup a=some o∧o.cls = .type "list"∧o.dict=none∧o.data = .seq aL n∧aL.size≤sizeLine∧Vals xs aL.toList
def fM(K:Frag)(H:Hp)(a:Addr)(xs:List V):Prop :=
 Rd H a (.tup xs) ∨
  ∃(o:Obj) (aL:Array Value) (n:Nat),K.lookup a=some o∧o.cls = .type "tuple"∧o.data = .seq aL n∧aL.size≤sizeLine∧Vals xs aL.toList
def arK:Value→Option V
 | .none=>some .bH
 | .bool b=>some (.bl b)
 | .int i _=>some (.int i)
 | .str x _=>some (.str x)
 | .bytes b _=>some (.OZ b)
 | .float b _=>some (.yV b)
 | .ref a=>some (.ref a)
 | .type n=>some (.ty n)
 | _=>none
theorem RelV.abs{x:V}{u:Value}(r:RelV x u):arK u=some x:=by
 cases x with
 | bH=>cases r;rfl
 | bl _=>cases r;rfl
 | int _=>obtain⟨t,rfl⟩:=r;rfl
 | str _=>obtain⟨t,rfl⟩:=r;rfl
 | OZ _=>obtain⟨t,rfl⟩:=r;rfl
 | yV _=>obtain⟨t,rfl⟩:=r;rfl
 | ref _=>cases r;rfl
 | ty _=>cases r;rfl
theorem RelV.inj{x y:V}{u:Value}(r:RelV x u)(q:RelV y u):x=y:=mF (r.abs.symm.trans q.abs)
theorem Vals.inj:∀{xs ys:List V} {us:List Value},Vals xs us→Vals ys us→xs=ys
 | _,_,_,.nil,.nil=>rfl
 | _,_,_,.cons r t,.cons r' t'=>by rw [r.inj r',Vals.inj t t']
section
variable{X:Cx}{pins:List (Addr×Obj)}{σ:St}{H:Hp}{s:Shared}{a:Addr}{xs ys:List V}
theorem eX.of{K:Frag}(h:H a=some (.lst xs)):eX K H a xs := .inl (.inl h)
theorem fM.of{K:Frag}(h:H a=some (.tup xs)):fM K H a xs := .inl (.inl h)
theorem Inv.list(I:Inv X pins σ H s)(h:eX X.K H a xs):∃aL:List Value,Vals xs aL∧PlainL s.heap a aL.toArray∧xs.length≤sizeLine:=by
 rcases h with h | ⟨o,aL,n,hk,hc,hd,hs,hz,r⟩
 ·obtain⟨z,aL,n,r,e⟩:=h.ok I.aH;exact⟨aL,r,⟨_,n,e,rfl,rfl,rfl⟩,z⟩
 ·refine⟨aL.toList,r,⟨o,n,I.fK a o hk,hc,hd,by simpa using hs⟩,?_⟩;have e:=r.length;simp only [lE]at e;omega
theorem Inv.tuple(I:Inv X pins σ H s)(h:fM X.K H a xs):∃aL:List Value,Vals xs aL∧IsTup s.heap a aL.toArray∧xs.length≤sizeLine:=by
 rcases h with h | ⟨o,aL,n,hk,hc,hs,hz,r⟩
 ·obtain⟨z,aL,r,p⟩:=h.ok I.aH;exact⟨aL,r,p,z⟩
 ·refine⟨aL.toList,r,⟨o,I.fK a o hk,hc,n,by simpa using hs⟩,?_⟩;have e:=r.length;simp only [lE]at e;omega
theorem Inv.aiP(I:Inv X pins σ H s)(h:eX X.K H a xs)(h':eX X.K H a ys):xs=ys:=by
 obtain⟨aL,r,⟨o,n,e,_,_,d⟩,_⟩:=I.list h;obtain⟨its',r',⟨o',n',e',_,_,d'⟩,_⟩:=I.list h';rw [e]at e';cases e';rw [d]at d';injection d' with d1 _;have:aL=its':=by simpa using congrArg Array.toList d1
 subst this;exact r.inj r'
theorem Inv.Wq(I:Inv X pins σ H s)(h:fM X.K H a xs)(h':fM X.K H a ys):xs=ys:=by
 obtain⟨aL,r,⟨o,e,_,n,d⟩,_⟩:=I.tuple h;obtain⟨its',r',⟨o',e',_,n',d'⟩,_⟩:=I.tuple h';rw [e]at e';cases e';rw [d]at d';injection d' with d1 _;have:aL=its':=by simpa using congrArg Array.toList d1
 subst this;exact r.inj r'
end
abbrev Cx.mL(X:Cx)(E:Value→Shared→Prop):Cx:={ X with xe:=E }
abbrev Cx.oQ(X:Cx):Cx:=X.mL fun _ _=>False
theorem Cx.Ok.mL{X:Cx}(ok:X.Ok)(E:Value→Shared→Prop):(X.mL E).Ok :=
 ⟨ok.mod,ok.kind,ok.glob,ok.blt,ok.above,ok.inj,ok.has,ok.zF,ok.hd,ok.frames,ok.pN,ok.yX,ok.bs,ok.nX,ok.rS,ok.vZ,ok.mU,ok.rB⟩
theorem Cx.Ok.oJ{X:Cx}{E:Value→Shared→Prop}(ok:(X.mL E).Ok):X.Ok :=
 ⟨ok.mod,ok.kind,ok.glob,ok.blt,ok.above,ok.inj,ok.has,ok.zF,ok.hd,ok.frames,ok.pN,ok.yX,ok.bs,ok.nX,ok.rS,ok.vZ,ok.mU,ok.rB⟩
section
variable{X:Cx}{pins:List (Addr×Obj)}{σ:St}{H:Hp}{s:Shared}{E:Value→Shared→Prop}
theorem Inv.mL(I:Inv X pins σ H s)(E:Value→Shared→Prop):Inv (X.mL E) pins σ H s:=⟨I.ok.mL E,I.os,I.bare,I.base,I.loc,I.cell,I.free,I.jM,I.pin,I.aH,I.len⟩
theorem Inv.oJ(I:Inv (X.mL E) pins σ H s):Inv X pins σ H s:=⟨I.ok.oJ,I.os,I.bare,I.base,I.loc,I.cell,I.free,I.jM,I.pin,I.aH,I.len⟩
theorem SP.oJ{D:Ends}{f:Flow}{s':Shared}(h:SP (X.mL E) pins D f s'):SP X pins D f s':=by
 cases f with
 | next=>obtain⟨σ',H',I,q⟩:=h;exact⟨σ',H',I.oJ,q⟩
 | brk=>obtain⟨σ',H',I,q⟩:=h;exact⟨σ',H',I.oJ,q⟩
 | cont=>obtain⟨σ',H',I,q⟩:=h;exact⟨σ',H',I.oJ,q⟩
 | ret u=>obtain⟨v,σ',H',I,r,q⟩:=h;exact⟨v,σ',H',I.oJ,r,q⟩
theorem PE.oQ{e:Expr}{t:TE}(h:PE X.oQ e t):PE X e t:=fun pins s σ H Q I hw =>
 lF (h pins s σ H Q (I.mL _) hw) (fun _ _ ⟨v,H',I',r,q⟩=>⟨v,H',I'.oJ,r,q⟩) fun _ _ z=>False.elim z
theorem PT.oQ{e:Expr}{t:TT}(h:PT X.oQ e t):PT X e t:=fun pins s σ H Q I hw =>
 lF (h pins s σ H Q (I.mL _) hw) (fun _ _ ⟨H',I',q⟩=>⟨H',I'.oJ,q⟩) fun _ _ z=>False.elim z
theorem mE.oQ{st:List Stmt}{t:TS}(h:mE X.oQ st t):mE X st t:=fun pins s σ H D I hw =>
 lF (h pins s σ H D (I.mL _) hw) (fun _ _ q=>q.oJ) fun _ _ z=>False.elim z
end
section
variable{X:Cx}{st:Stmt}{rest:List Stmt}{t u:TS}{e:Expr}{te:TE}{pos:Pos}
def Xp:TS:=fun D σ H=>D.nx σ H
def Hy(t u:TS):TS:=fun D σ H=>t { D with nx:=u D } σ H
theorem ae1:mE X [] Xp:=fun _ _ σ H _ I h=>wpAny_execs_nil ⟨σ,H,I,h⟩
theorem ae2(h1:PS X st t)(h2:mE X rest u):mE X (st::rest) (Hy t u):=by
 intro pins s σ H D I h;refine wpAny_execs_cons (bA (h1 pins s σ H { D with nx:=u D } I h) fun f s1 q=>?_);cases f with
 | next =>
  obtain⟨σ',H',I',q⟩:=q;exact h2 pins s1 σ' H' D I' q
 | ret v=>exact q
 | brk=>exact q
 | cont=>exact q
theorem ae0(h1:PS X st t):mE X [st] t:=by
 intro pins s σ H D I h;refine wpAny_execs_cons (bA (h1 pins s σ H D I h) fun f s1 q=>?_);cases f with
 | next=>exact wpAny_execs_nil q
 | ret v=>exact q
 | brk=>exact q
 | cont=>exact q
theorem Inv.quiet{pins:List (Addr×Obj)}{σ:St}{H:Hp}{s:Shared}(I:Inv X pins σ H s):interactive X.env=false:=by simp [interactive,I.ok.kind]
def Xv(te:TE):TS:=fun D σ H=>te σ H fun _ H1=>D.nx σ H1
theorem afA(he:PE X e te)(hs:swapsWith e none pos.line X.env=pure false:=by rfl):PS X (.Expr e pos) (Xv te):=by
 intro pins s σ H D I h;exact wpAny_Expr_any (bA (he pins s σ H _ I h) fun v s1 ⟨x,H1,I1,r1,q1⟩=>⟨σ,H1,I1,q1⟩) I.quiet hs
def Xj(te:TE):TS:=fun D σ H=>te σ H D.rt
theorem ae6(he:PE X e te):PS X (.Return (some e) pos) (Xj te):=by
 intro pins s σ H D I h;exact wpAny_Return_some (bA (he pins s σ H _ I h) fun v s1 ⟨x,H1,I1,r1,q1⟩=>⟨x,σ,H1,I1,r1,q1⟩)
def Xu(c:TT)(t u:TS):TS:=fun D σ H=>c σ H fun b H1=>if b=true then t D σ H1 else u D σ H1
theorem ae8{c:Expr}{a b:List Stmt}{tc:TT}(hc:PT X c tc)(ha:mE X a t)(hb:mE X b u):PS X (.If c a b pos) (Xu tc t u):=by
 intro pins s σ H D I h;refine wpAny_If (bA (hc pins s σ H _ I h) fun d s1 ⟨H1,I1,q1⟩=>?_);cases d with
 | true=>exact ha pins s1 σ H1 D I1 q1
 | false=>exact hb pins s1 σ H1 D I1 q1
def Xq:TS:=fun _ _ _=>False
theorem ae7:PS X st Xq:=fun _ _ _ _ _ _ h=>h.elim
end
abbrev TG:=V→St→Hp→(St→Hp→Prop)→Prop
abbrev wH:=List V→St→Hp→(St→Hp→Prop)→Prop
def PG(X:Cx)(target:Expr)(t:TG):Prop :=
 ∀(pins:List (Addr×Obj)) (s:Shared) (σ:St) (H:Hp) (v:V) (u:Value) (Q:St→Hp→Prop),Inv X pins σ H s→RelV v u→t v σ H Q →
  wpAny (model X.prog X.w) X.A (assign target X.env u) (fun _ s'=>∃σ' H',Inv X pins σ' H' s'∧Q σ' H') X.xe s
def IW(X:Cx)(ts:List Expr)(t:wH):Prop :=
 ∀(pins:List (Addr×Obj)) (s:Shared) (σ:St) (H:Hp) (vs:List V) (us:List Value) (Q:St→Hp→Prop),Inv X pins σ H s→Vals vs us→t vs σ H Q →
  wpAny (model X.prog X.w) X.A (assignInOrder ((assignEach ts X.env).map (·.2)) us) (fun _ s'=>∃σ' H',Inv X pins σ' H' s'∧Q σ' H') X.xe s
abbrev Dy:=V→V→V→Hp→(Hp→Prop)→Prop
def Th(X:Cx)(t:Dy):Prop :=
 ∀(pins:List (Addr×Obj)) (s:Shared) (σ:St) (H:Hp) (o i v:V) (ov iv u:Value) (Q:Hp→Prop),Inv X pins σ H s→RelV o ov→RelV i iv→RelV v u→t o i v H Q →
  wpAny (model X.prog X.w) X.A (setItem ov iv u) (fun _ s'=>∃H',Inv X pins σ H' s'∧Q H') X.xe s
section
variable{X:Cx}{pos:Pos}
def Bf(i:Nat):TG:=fun v σ H Q=>Q (σ.set i (some v)) H
theorem Kq{i:Nat}{x:Str}(hN:X.N.Nodup)(hi:X.N[i]? = some x)(hx:Loc X.env.scope x)(hf:X.fn x=true∨X.env.scope.names.lookup x=some .local:=by first | exact .inl rfl | exact .inr rfl | assumption):PG X (.Name x pos) (Bf i):=by
 intro pins s σ H v u Q I r h;exact wpAny_assign_Name (Il I hN hi hx r (fun s' I'=>⟨_,H,I',h⟩) hf)
def anD:wH:=fun vs σ H Q=>vs=[]∧Q σ H
def anF(t:TG)(u:wH):wH:=fun vs σ H Q=>∃v r,vs=v::r∧t v σ H fun σ' H'=>u r σ' H' Q
theorem afO:IW X [] anD:=by
 intro pins s σ H vs us Q I r h;obtain⟨e,h⟩:=h;subst e;cases r;exact assignInOrder_nil ⟨σ,H,I,h⟩
theorem afP{e:Expr}{es:List Expr}{t:TG}{u:wH}(h1:PG X e t)(h2:IW X es u)
  (hs:(assignEach (e::es) X.env).map (·.2)=assign e X.env::(assignEach es X.env).map (·.2):=by rfl):IW X (e::es) (anF t u):=by
 intro pins s σ H vs us Q I r h;obtain⟨v,vr,e1,h⟩:=h;subst e1;cases r with
 | cons r rr =>
  rw [hs];refine assignInOrder_cons (bA (h1 pins s σ H _ _ _ I r h) fun _ s1 ⟨σ1,H1,I1,q1⟩=>?_);exact h2 pins s1 σ1 H1 _ _ Q I1 rr q1
def anC(K:Frag)(n:Nat)(t:wH):TG:=fun v σ H Q=>∃a xs,v = .ref a∧fM K H a xs∧xs.length=n∧t xs σ H Q
theorem afQ{es:List Expr}{k:Nat}{t:wH}{n:Nat}(hc:X.calm=true)(h:IW X es t)
  (hn:(assignEach es X.env).length=n:=by rfl) (iG:(assignEach es X.env).findIdx? (·.1)=none:=by rfl):PG X (.Tuple es k pos) (anC X.K n t):=by
 intro pins s σ H v u Q I r hw;obtain⟨a,xs,e1,hq,hl,hw⟩:=hw;subst e1;cases r;obtain⟨aL,rv,ht,hz⟩:=I.tuple hq;refine assign_Tuple_tuple (I.ok.hd hc) ht (by simp [hn,← hl,rv.length]) iG fun h' hx=>?_;have I1:Inv X pins σ H { s with heap:=h' }:=I.kept (t':=s.toks) fun b o e=>hx b o (dA (cO e)) e;exact h pins _ σ H xs _ Q I1 (by simpa using rv) hw
def nW(to ti:TE)(t:Dy):TG:=fun v σ H Q=>to σ H fun o H1=>ti σ H1 fun i H2=>t o i v H2 fun H3=>Q σ H3
theorem afR{o i:Expr}{to ti:TE}{t:Dy}(ho:PE X o to)(hi:PE X i ti)(hs:Th X t)
  (ha:∀v,assign (.Subscript o i pos) X.env v=(do
   let ov ← holding [v] (eval o X.env)
   let iv ← holding [v,ov] (eval i X.env)
   standAt pos
   holding [v,ov,iv] (setItem ov iv v)
   release [v,ov,iv] []):=by intro _;rfl):PG X (.Subscript o i pos) (nW to ti t):=by
 intro pins s σ H v u Q I r h;rw [ha];refine aF (oH (bA (ho pins s σ H _ I h) fun ov s1 ⟨x,H1,I1,r1,q1⟩=>?_));refine aF (oH (bA (hi pins s1 σ H1 _ I1 q1) fun iv s2 ⟨y,H2,I2,r2,q2⟩=>?_));refine aF (wpAny_standAt (aF (oH (bA (hs pins s2 σ H2 x y v ov iv u _ I2 r1 r2 r q2) fun _ s3 ⟨H3,I3,q3⟩=>?_))));exact wpAny_release ⟨σ,H3,I3,q3⟩
def LM(te:TE)(g:TG):TS:=fun D σ H=>te σ H fun x H1=>g x σ H1 D.nx
theorem afC{tg e:Expr}{te:TE}{g:TG}(he:PE X e te)(hg:PG X tg g)(hs:swapsWithSole [tg] e pos.line X.env=pure false:=by rfl)(hw:swappedStores [tg] e X.env=pure none:=by rfl)
  (h1:(assignEach [tg] X.env).map (·.2)=[assign tg X.env]:=by rfl):PS X (.Assign [tg] e pos) (LM te g):=by
 intro pins s σ H D I h;refine wpAny_Assign_stores (bA (he pins s σ H _ I h) fun v s1 ⟨x,H1,I1,r1,q1⟩=>?_) hs hw;rw [h1];exact bA (hg pins s1 σ H1 x v _ I1 r1 q1) fun _ s2 q=>q
theorem ae5{i:Nat}{x:Str}{e:Expr}{te:TE}{pos':Pos}(hN:X.N.Nodup)(hi:X.N[i]? = some x)(hx:Loc X.env.scope x)(he:PE X e te)(hs:swapsWith e (some (.Name x pos')) pos.line X.env=pure false:=by rfl)(hf:X.fn x=true∨X.env.scope.names.lookup x=some .local:=by first | exact .inl rfl | exact .inr rfl | assumption) :
  PS X (.Assign [.Name x pos'] e pos) (LM te (Bf i)):=by
 intro pins s σ H D I h;refine wpAny_Assign_Name (bA (he pins s σ H _ I h) fun v s1 ⟨y,H1,I1,r1,q1⟩=>?_) hs;exact Il I1 hN hi hx r1 (fun s2 I2=>⟨_,H1,I2,q1⟩) hf
end
structure It where
 go:Nat→Hp→Prop
 sU:Nat→Hp→V→Hp→Prop
 stop:Nat→Hp→Prop
def pH(X:Cx)(pins:List (Addr×Obj))(H:Hp)(b:Addr):Prop :=
 H b=none∧b≠X.env.locals∧b∉X.fs∧(b∈X.ex∨X.s₀.heap.objs.size≤b)∧(∀x c,X.env.cells.lookup x=some c→c≠b)∧∀p∈X.pn++pins,p.1≠b
theorem Inv.yU{X:Cx}{pins:List (Addr×Obj)}{σ:St}{H H':Hp}{s:Shared}{b:Addr}(I:Inv X pins σ H s)(hb:s.heap.objs.size≤b)(hn:H' b=none):pH X pins H' b:=by
 refine⟨hn,CW (lC I.lt hb),I.ahQ hb,.inr (qD I.sz hb),fun x c e z=>?_,fun p hp z=>?_⟩
 ·obtain⟨v,q⟩:=I.cell x c e;exact absurd (lC q.lt (by rw [z];exact hb)) (Nat.lt_irrefl _)
 ·exact absurd (lC (cO (I.pin p hp).1) (by rw [z];exact hb)) (Nat.lt_irrefl _)
structure Turn(P:Program)(w:World)(K:Frag)(tg:Expr)(J:It)(fp:List Addr)(it:Addr)(tn:Nat→Heap→Prop):Prop where
 mem:it∈fp
 obj:∀i h,tn i h→∀b∈fp,∃o,h.get? b=some o∧∀v,o.data ≠ .cell v
 keep:∀i h h',tn i h→(∀b∈fp,∀o,h.get? b=some o→h'.get? b=some o)→tn i h'
 item:∀(X:Cx),X.prog=P→X.w=w→X.K=K→X.calm=true→∀(i:Nat) (pins:List (Addr×Obj)) (s:Shared) (σ:St) (H:Hp) (E:Value→Shared→Prop),Inv X pins σ H s→(∀b∈fp,pH X pins H b)→tn i s.heap→J.go i H →
  wpAny (model P w) X.A (pyNext (.ref it)) (fun r s1=>∃u,r=some u ∧
   wpAny (model P w) X.A (letOwnedTupleGo tg (.ref it) u) (fun _ s2=>∃x H',Inv X pins σ H' s2∧RelV x u∧J.sU i H x H'∧tn (i+1) s2.heap∧∀b∈fp,H' b=none) E s1) E s
 done:∀(X:Cx),X.prog=P→X.w=w→X.K=K→X.calm=true→∀(i:Nat) (pins:List (Addr×Obj)) (s:Shared) (σ:St) (H:Hp) (E:Value→Shared→Prop),Inv X pins σ H s→(∀b∈fp,pH X pins H b)→tn i s.heap→J.stop i H →
  wpAny (model P w) X.A (pyNext (.ref it)) (fun r s1=>r=none∧Inv X pins σ H s1) E s
 self:∀(A:Around) (i:Nat) (s:Shared) (Q:Value→Shared→Prop) (E:Value→Shared→Prop),tn i s.heap→Q (.ref it) s→wpAny (model P w) A (pyIter (.ref it)) Q E s
abbrev TI:=St→Hp→(It→Hp→Prop)→Prop
def Ti(X:Cx)(pins:List (Addr×Obj))(σ:St)(tg:Expr)(R:It→Hp→Prop)(NI:Value)(s2:Shared):Prop :=
 ∃(it:Addr) (fp:List Addr) (tn:Nat→Heap→Prop) (J:It) (H':Hp),NI = .ref it∧Inv X pins σ H' s2∧Turn X.prog X.w X.K tg J fp it tn∧tn 0 s2.heap∧(∀b∈fp,pH X pins H' b)∧R J H'
def PI(X:Cx)(tg iter:Expr)(wi:TI):Prop :=
 ∀(pins:List (Addr×Obj)) (s:Shared) (σ:St) (H:Hp) (R:It→Hp→Prop),Inv X pins σ H s→wi σ H R →
  wpAny (model X.prog X.w) X.A (eval iter X.env) (fun v s1=>wpAny (model X.prog X.w) X.A (pyIter v) (Ti X pins σ tg R) X.xe s1) X.xe s
theorem Ba{M:Model}{A:Around}{E:Value→Shared→Prop}{s:Shared}{tg:Expr}{it:Addr}{u:Value}{o:Obj}{n:String}{vs:Array Value}{Q:Unit→Shared→Prop}(ho:s.heap.get? it=some o)(hc:o.cls = .type n)(hd:o.data = .fields vs)
  (hn:["enumerate", "zip", "dict_itemiterator", "dict_reverseitemiterator", "odict_iterator", "itertools.zip_longest", "itertools.pairwise"].contains n=false) (hQ:Q () s):wpAny M A (letOwnedTupleGo tg (.ref it) u) Q E s:=by
 unfold letOwnedTupleGo;cases tg <;> first
  | exact aS hQ
  | (cases u <;> first
    | exact aS hQ
    | (refine aF (wpAny_load ho ?_)
       rw [hc,hd];show wpAny M A (if(["enumerate", "zip", "dict_itemiterator", "dict_reverseitemiterator", "odict_iterator", "itertools.zip_longest", "itertools.pairwise"].contains n&&vs[0]? == some (rawInt _))=true then _ else _) Q E s;rw [if_neg (by intro h;rw [hn,Bool.false_and]at h;cases h)];exact aS hQ))
def Fi(K:Frag)(a:Addr):It :=
 ⟨fun i H=>∃xs x,eX K H a xs∧xs[i]? = some x,fun i H x H'=>H'=H∧∀xs,eX K H a xs→xs[i]? = some x,fun i H=>∃xs,eX K H a xs∧xs.length≤i⟩
def Fh(K:Frag)(a:Addr):It :=
 ⟨fun i H=>∃xs x,fM K H a xs∧xs[i]? = some x,fun i H x H'=>H'=H∧∀xs,fM K H a xs→xs[i]? = some x,fun i H=>∃xs,fM K H a xs∧xs.length≤i⟩
def QR(lo:Int)(n:Nat):It:=⟨fun i _=>i<n,fun i H x H'=>H'=H∧x = .int (lo+i),fun i _=>n≤i⟩
theorem Wm{P:Program}{w:World}{K:Frag}{tg:Expr}(a it:Addr):Turn P w K tg (Fi K a) [it] it (fun i h=>h.IsListIter it a i)where
 mem:=by simp
 obj:=fun i h st b hb=>by
  have e:b=it:=by simpa using hb
  subst e;obtain⟨o,e,c,d⟩:=st;exact⟨o,e,fun v z=>by rw [d]at z;cases z⟩
 keep:=fun i h h' st k=>st.at fun o e=>k it (by simp) o e
 item:=by
  intro X hP hw hK hc i pins s σ H E I hf st hg;subst hP hw hK;obtain⟨xs,x,hq,hx⟩:=hg;obtain⟨aL,rv,p,hz⟩:=I.list hq;obtain⟨u,hu,ru⟩:=rv.get hx;obtain⟨f0,f1,f2,f3,f4,f5⟩:=hf it (by simp);refine wpAny_pyNext_list_item st p.isList (x:=u) (by simpa using hu) fun h' oK sb=>?_;have I1:Inv X pins σ H { s with heap:=h' }:=I.turned (t':=s.toks) (fun b o hb e=>(sb.2 b hb).trans e) f0 f1 f3 f4 f5;obtain⟨o,e,c,d⟩:=id oK;exact⟨u,rfl,Ba (s:={ s with heap:=h' }) e c d (by decide) ⟨x,H,I1,ru,⟨rfl,fun ys hy=>by rw [I.aiP hy hq];exact hx⟩,oK,fun b hb=>(hf b hb).1⟩⟩
 done:=by
  intro X hP hw hK hc i pins s σ H E I hf st hg;subst hP hw hK;obtain⟨xs,hq,hx⟩:=hg;obtain⟨aL,rv,p,hz⟩:=I.list hq;obtain⟨f0,f1,f2,f3,f4,f5⟩:=hf it (by simp);have hl:=rv.length;exact wpAny_pyNext_list_end (I.ok.hd hc) st p.isList (by simp;omega) fun h' eb=>⟨rfl,I.turned (t':=s.toks) (fun b o hb e=>eb b o hb e) f0 f1 f3 f4 f5⟩
 self:=fun _ _ _ _ _ st h=>wpAny_pyIter_listiter st h
theorem Wk{P:Program}{w:World}{K:Frag}{tg:Expr}(a it:Addr):Turn P w K tg (Fh K a) [it] it (fun i h=>h.IsTupleIter it a i)where
 mem:=by simp
 obj:=fun i h st b hb=>by
  have e:b=it:=by simpa using hb
  subst e;obtain⟨o,e,c,d⟩:=st;exact⟨o,e,fun v z=>by rw [d]at z;cases z⟩
 keep:=fun i h h' st k=>st.at fun o e=>k it (by simp) o e
 item:=by
  intro X hP hw hK hc i pins s σ H E I hf st hg;subst hP hw hK;obtain⟨xs,x,hq,hx⟩:=hg;obtain⟨aL,rv,p,hz⟩:=I.tuple hq;obtain⟨u,hu,ru⟩:=rv.get hx;obtain⟨f0,f1,f2,f3,f4,f5⟩:=hf it (by simp);refine wpAny_pyNext_tuple_item st (show s.heap.IsTuple a aL.toArray from p) (x:=u) (by simpa using hu) fun h' oK sb=>?_;have I1:Inv X pins σ H { s with heap:=h' }:=I.turned (t':=s.toks) (fun b o hb e=>(sb.2 b hb).trans e) f0 f1 f3 f4 f5;obtain⟨o,e,c,d⟩:=id oK;exact⟨u,rfl,Ba (s:={ s with heap:=h' }) e c d (by decide) ⟨x,H,I1,ru,⟨rfl,fun ys hy=>by rw [I.Wq hy hq];exact hx⟩,oK,fun b hb=>(hf b hb).1⟩⟩
 done:=by
  intro X hP hw hK hc i pins s σ H E I hf st hg;subst hP hw hK;obtain⟨xs,hq,hx⟩:=hg;obtain⟨aL,rv,p,hz⟩:=I.tuple hq;obtain⟨f0,f1,f2,f3,f4,f5⟩:=hf it (by simp);have hl:=rv.length;exact wpAny_pyNext_tuple_end (I.ok.hd hc) st (show s.heap.IsTuple a aL.toArray from p) (by simp;omega) fun h' eb=>⟨rfl,I.turned (t':=s.toks) (fun b o hb e=>eb b o hb e) f0 f1 f3 f4 f5⟩
 self:=fun _ _ _ _ _ st h=>wpAny_pyIter_tupleiter st h
theorem Wl{P:Program}{w:World}{K:Frag}{tg:Expr}(it:Addr)(lo:Int)(n:Nat):Turn P w K tg (QR lo n) [it] it (fun i h=>IsRangeIter h it (lo+(i:Nat)*1) ((n:Int) - (i:Nat)) 1)where
 mem:=by simp
 obj:=fun i h st b hb=>by
  have e:b=it:=by simpa using hb
  subst e;exact⟨_,st,fun v z=>by
   have z':Data.fields _=Data.cell v:=z;cases z'⟩
 keep:=fun i h h' st k=>k it (by simp) _ st
 item:=by
  intro X hP hw hK hc i pins s σ H E I hf st hg;subst hP hw hK;obtain⟨f0,f1,f2,f3,f4,f5⟩:=hf it (by simp);have W:=Walks.range (prog:=X.prog) (w:=X.w) (I.ok.hd hc) it lo 1 n;refine W.item i s _ _ hg st fun v h' tk hv oK kk=>?_;obtain⟨t,rfl⟩:=hv;have I1:Inv X pins σ H { s with heap:=h',toks:=tk }:=I.turned (fun b o hb e=>kk b o (by simpa using hb) e) f0 f1 f3 f4 f5;refine⟨_,rfl,Ba (s:={ s with heap:=h',toks:=tk }) (n := "range_iterator") oK rfl rfl (by decide) ⟨.int (lo+i),H,I1,⟨t,?_⟩,⟨rfl,rfl⟩,oK,fun b hb=>(hf b hb).1⟩⟩;rw [Int.mul_one]
 done:=by
  intro X hP hw hK hc i pins s σ H E I hf st hg;subst hP hw hK;obtain⟨f0,f1,f2,f3,f4,f5⟩:=hf it (by simp);exact wpAny_pyNext_range_end (I.ok.hd hc) st (by have:n≤i:=hg;omega) fun h' eb=>⟨rfl,I.turned (t':=s.toks) (fun b o hb e=>eb b o hb e) f0 f1 f3 f4 f5⟩
 self:=fun _ _ _ _ _ st h=>wpAny_pyIter_rangeiter st h
section
variable{X:Cx}{tg:Expr}
theorem ad3{pins:List (Addr×Obj)}{σ:St}{H:Hp}{s:Shared}{R:It→Hp→Prop}{E:Value→Shared→Prop}{lo hi:Int}{t u v:Tok}{tk:Nat}(I:Inv X pins σ H s)(h1 : -(2 ^ 62)≤lo)(h2:lo<2 ^ 62)(h3 : -(2 ^ 62)≤hi)(h4:hi<2 ^ 62)
  (q:R (QR lo (hi - lo).toNat) H):wpAny (model X.prog X.w) X.A (pyIter (.ref s.heap.objs.size)) (Ti X pins σ tg R) E { s with heap:=s.heap.push { cls := .type "range",data := .fields #[.int lo t,.int hi u,.int 1 v] },toks:=tk }:=by
 refine wpAny_pyIter_range (IsRange.new ..) (small_one h1 h2 h3 h4) ?_;have I1:Inv X pins σ H { s with heap:=s.heap.push { cls := .type "range",data := .fields #[.int lo t,.int hi u,.int 1 v] },toks:=tk }:=I.kept fun b o e=>cH _ e;refine⟨(s.heap.push { cls := .type "range",data := .fields #[.int lo t,.int hi u,.int 1 v] }).objs.size,[(s.heap.push { cls := .type "range",data := .fields #[.int lo t,.int hi u,.int 1 v] }).objs.size],_,_,H,rfl,
  I1.kept (t':=tk) fun b o e=>cH _ e,Wl _ lo (hi - lo).toNat,?_,fun b hb=>?_,q⟩
 ·have e1:lo+((0:Nat):Int)*1=lo:=by simp
  have e2:(((hi - lo).toNat:Nat):Int) - ((0:Nat):Int)=Builtin.Range.rangeSize lo hi 1:=by rw [rangeSize_one];split <;> omega
  show IsRangeIter _ _ (lo+((0:Nat):Int)*1) ((((hi - lo).toNat:Nat):Int) - ((0:Nat):Int)) 1;rw [e1,e2];exact eY _ rfl
 ·have e:b=(s.heap.push { cls := .type "range",data := .fields #[.int lo t,.int hi u,.int 1 v] }).objs.size:=by simpa using hb
  subst e;exact I1.yU bP (I1.aH.fresh bP)
def akD(ta:TA):TI:=fun σ H R=>ta σ H fun vs H1=>∃j:Int,vs=[.int j]∧-(2 ^ 62)≤j∧j<2 ^ 62∧R (QR 0 j.toNat) H1
theorem afM{a:Expr}{ta:TA}{p pos:Pos}(hg:Gl X "range")(hm:X.mg "range" = none)(ha:PA X [a] ta)(hs:starEach [a] X.env=[(false,eval a X.env)]:=by rfl):PI X tg (.Call (.Name "range" p) [a] [] pos) (akD ta):=by
 intro pins s σ H R I h;refine Call_ (tL I hg hm boot_range (QK (bA (ha pos pins s σ H _ I h) fun us s1 ⟨vs,H1,I1,r1,q1⟩=>?_) hs rfl));obtain⟨j,e,q1,q2,q⟩:=q1;subst e;cases r1 with
 | cons r rr =>
  cases rr;obtain⟨t,rfl⟩:=r;exact call_range_1 (ad3 I1 (by omega) (by omega) q1 q2 (by simpa using q))
def SV(wi:TI)(g:TG)(tb:TS):TS:=fun D σ H=>wi σ H fun J H1=>∃W:Nat→Nat→St→Hp→Prop,(∃m,W 0 m σ H1)∧∀i m σ H,W i m σ H →
 (J.stop i H∧D.nx σ H)∨(J.go i H∧∃N:St→Hp→Prop,(∀σ' H',N σ' H'→∃m',m'<m∧W (i+1) m' σ' H')∧∀x H',J.sU i H x H'→g x σ H' fun σ2 H2=>tb { D with nx:=N,ct:=N,bk:=D.nx } σ2 H2)
def AY(fp:List Addr)(h:Heap):List (Addr×Obj):=fp.filterMap fun b=>(h.get? b).map fun o=>(b,o)
theorem xS{fp:List Addr}{h:Heap}{b:Addr}{o:Obj}(hb:b∈fp)(e:h.get? b=some o):(b,o)∈AY fp h:=List.mem_filterMap.mpr ⟨b,hb,by rw [e];rfl⟩
theorem ahB{fp:List Addr}{h:Heap}{p:Addr×Obj}(hp:p∈AY fp h):p.1∈fp∧h.get? p.1=some p.2:=by
 obtain⟨b,hb,e⟩:=List.mem_filterMap.mp hp;cases q:h.get? b with
 | none=>rw [q]at e;cases e
 | some o =>
  rw [q]at e;have e':(b,o)=p:=mF e;subst e';exact⟨hb,q⟩
theorem Inv.pinned{pins:List (Addr×Obj)}{σ:St}{H:Hp}{s:Shared}{fp:List Addr}(I:Inv X pins σ H s)(hf:∀b∈fp,pH X pins H b)(ho:∀b∈fp,∃o,s.heap.get? b=some o∧∀v,o.data ≠ .cell v):Inv X (pins++AY fp s.heap) σ H s :=
 I.VV fun p hp=>(JC.mp hp).elim (fun z=>I.pin p (nO _ z)) fun z=>by
  obtain⟨hb,e⟩:=ahB z;obtain⟨f0,f1,f2,_⟩:=hf p.1 hb;obtain⟨o,e',d⟩:=ho p.1 hb;rw [e]at e';cases e';exact⟨e,f0,f1,f2,d⟩
theorem Inv.AK{pins pl:List (Addr×Obj)}{σ:St}{H:Hp}{s:Shared}(I:Inv X (pins++pl) σ H s):Inv X pins σ H s:=I.VV fun p hp=>I.pin p (nO _ (wM _ hp))
theorem Kl{iter:Expr}{body:List Stmt}{wi:TI}{g:TG}{tb:TS}{pos:Pos}(hp:PassesOwn (model X.prog X.w) X.A X.env X.xe)(hc:X.calm=true)(hi:PI X tg iter wi)(hg:PG X tg g)(hb:mE X body tb)
  (hs:∀x,foldedSetIterable iter X.env x=pure x:=by intro _;rfl):PS X (.For tg iter body [] pos) (SV wi g tb):=by
 intro pins s σ H D I h;refine wpAny_For (bA (hi pins s σ H _ I h) fun v s1 h1=>bA h1 fun NI s2 h2=>?_) hs;obtain⟨it,fp,tn,J,H2,e,I2,T,xD,f2,W,⟨m0,w0⟩,turn⟩:=h2;subst e;have TC:∀{H':Hp},(∀b∈fp,H' b=none)→∀b∈fp,pH X pins H' b:=fun hn b hb=>⟨hn b hb,(f2 b hb).2⟩
 refine codeAny_forLoop_any (fun n s'=>∃i σ' H',Inv X pins σ' H' s'∧tn i s'.heap∧(∀b∈fp,H' b=none)∧W i n σ' H') ?_ m0 ⟨0,σ,H2,I2,xD,fun b hb=>(f2 b hb).1,w0⟩;rintro n s3 ⟨i,σ3,H3,I3,Iq,Pa,w3⟩
 rcases turn i n σ3 H3 w3 with⟨stop,qn⟩ | ⟨go,N,hN,step⟩
 ·refine KG hp (bA (T.done X rfl rfl rfl hc i pins s3 σ3 H3 X.xe I3 (TC Pa) Iq stop) fun r s4 ⟨hr,I4⟩=>?_);subst hr;exact wpAny_execs_nil ⟨σ3,H3,I4,qn⟩
 ·refine KG hp (bA (T.item X rfl rfl rfl hc i pins s3 σ3 H3 X.xe I3 (TC Pa) Iq go) fun r s4 ⟨u,hr,h4⟩=>?_);subst hr;refine KG hp (bA h4 fun _ s5 ⟨x,H5,I5,r5,y5,tD,yS⟩=>?_);have I5':=I5.pinned (TC yS) (T.obj _ _ tD);refine KG hp (bA (hg _ s5 σ3 H5 x u _ I5' r5 (step x H5 y5)) fun _ s6 ⟨σ6,H6,I6,q6⟩=>?_);refine KG hp (bA (hb _ s6 σ6 H6 _ I6 q6) fun f s7 q7=>?_);have again:∀{σ7:St} {H7:Hp},Inv X (pins++AY fp s5.heap) σ7 H7 s7→N σ7 H7→∃m,m<n∧∃i σ' H',Inv X pins σ' H' s7∧tn i s7.heap∧(∀b∈fp,H' b=none)∧W i m σ' H':=fun{σ7 H7} I7 n7=>by
   obtain⟨m',hm,w7⟩:=hN σ7 H7 n7;refine⟨m',hm,i+1,σ7,H7,I7.AK,T.keep _ _ _ tD fun b hb o e=>(I7.pin (b,o) (nO _ (nO _ (xS hb e)))).1,fun b hb=>?_,w7⟩;obtain⟨o,e,d⟩:=T.obj _ _ tD b hb;exact(I7.pin (b,o) (nO _ (nO _ (xS hb e)))).2.1
  cases f with
  | next=>obtain⟨σ7,H7,I7,n7⟩:=q7;exact again I7 n7
  | cont=>obtain⟨σ7,H7,I7,n7⟩:=q7;exact again I7 n7
  | brk=>obtain⟨σ7,H7,I7,q7⟩:=q7;exact⟨σ7,H7,I7.AK,q7⟩
  | ret v=>obtain⟨x7,σ7,H7,I7,r7,q7⟩:=q7;exact⟨x7,σ7,H7,I7.AK,r7,q7⟩
end
abbrev R2:=V→V→Hp→VK→Prop
def gB(X:Cx)(f:Value→Value→Sem Value)(r:R2):Prop :=
 ∀(pins:List (Addr×Obj)) (s:Shared) (σ:St) (H:Hp) (x y:V) (v u:Value) (Q:VK),Inv X pins σ H s→RelV x v→RelV y u→r x y H Q →
  wpAny (model X.prog X.w) X.A (f v u) (EP X pins σ Q) X.xe s
def jR(X:Cx)(f:Value)(r:List V→Hp→VK→Prop):Prop :=
 ∀(pins:List (Addr×Obj)) (s:Shared) (σ:St) (H:Hp) (xs:List V) (us:List Value) (Q:VK),Inv X pins σ H s→Vals xs us→r xs H Q →
  wpAny (model X.prog X.w) X.A (call f us) (EP X pins σ Q) X.xe s
def EL(r:R2)(ta tb:TE):TE:=fun σ H Q=>ta σ H fun x H1=>tb σ H1 fun y H2=>r x y H2 Q
def rI(C:Int→Int→Prop)(g:Int→Int→V):R2:=fun x y H Q=>∃i j,x = .int i∧y = .int j∧C i j∧Q (g i j) H
def tH(g:Int→Int→V):R2:=fun x y H Q=>∃i j,x = .int i∧y = .int j∧Q (g i j) H
section
variable{X:Cx}{a b c:Expr}{ta tb tc:TE}{pos:Pos}
theorem Cs(ha:PE X a ta)(hb:PE X b tb){pins:List (Addr×Obj)}{s:Shared}{σ:St}{H:Hp}{R:V→V→Hp→Prop}(I:Inv X pins σ H s)
  (h:ta σ H fun x H1=>tb σ H1 fun y H2=>R x y H2) {Q:Value→Shared→Prop} {f:Value→Value→Sem Value}
  (hf:∀v u s2 x y H2,Inv X pins σ H2 s2→RelV x v→RelV y u→R x y H2→wpAny (model X.prog X.w) X.A (f v u) Q X.xe s2) :
  wpAny (model X.prog X.w) X.A (eval a X.env) (fun v s₁=>wpAny (model X.prog X.w) X.A (eval b X.env) (fun u s₂=>wpAny (model X.prog X.w) X.A (f v u) Q X.xe s₂) X.xe s₁) X.xe s:=by
 refine bA (ha pins s σ H _ I h) fun v s1 ⟨x,H1,I1,r1,q1⟩=>?_;refine bA (hb pins s1 σ H1 _ I1 q1) fun u s2 ⟨y,H2,I2,r2,q2⟩=>?_;exact hf v u s2 x y H2 I2 r1 r2 q2
theorem afW{op:Operator}{r:R2}(ho:gB X (binaryOp op) r)(ha:PE X a ta)(hb:PE X b tb):PE X (.BinOp a op b pos) (EL r ta tb):=by
 intro pins s σ H Q I h;exact wpAny_BinOp (Cs ha hb I h fun v u s2 x y H2 I2 rx ry q=>ho pins s2 σ H2 x y v u Q I2 rx ry q)
theorem FK{f:Value→Value→Sem Value}{C:Int→Int→Prop}{g:Int→Int→Int}
  (rule:∀(i j:Int) (t u:Tok) (s:Shared) (Q:Value→Shared→Prop) (E:Value→Shared→Prop),C i j→Q (.int (g i j) s.toks) { s with toks:=s.toks+1 }→wpAny (model X.prog X.w) X.A (f (.int i t) (.int j u)) Q E s) :
  gB X f (rI C fun i j => .int (g i j)):=by
 intro pins s σ H x y v u Q I rx ry h;obtain⟨i,j,rfl,rfl,hc,q⟩:=h;obtain⟨t,rfl⟩:=rx;obtain⟨t',rfl⟩:=ry;exact rule i j t t' s _ _ hc ⟨.int (g i j),H,I.tok _,⟨_,rfl⟩,q⟩
theorem La{f:Value→Value→Sem Value}{g:Int→Int→Int}
  (rule:∀(i j:Int) (t u:Tok) (s:Shared) (Q:Value→Shared→Prop) (E:Value→Shared→Prop),Q (.int (g i j) s.toks) { s with toks:=s.toks+1 }→wpAny (model X.prog X.w) X.A (f (.int i t) (.int j u)) Q E s) :
  gB X f (tH fun i j => .int (g i j)):=by
 intro pins s σ H x y v u Q I rx ry h;obtain⟨i,j,rfl,rfl,q⟩:=h;obtain⟨t,rfl⟩:=rx;obtain⟨t',rfl⟩:=ry;exact rule i j t t' s _ _ ⟨.int (g i j),H,I.tok _,⟨_,rfl⟩,q⟩
theorem MR{f:Value→Value→Sem Value}{g:Int→Int→Bool}
  (rule:∀(i j:Int) (t u:Tok) (s:Shared) (Q:Value→Shared→Prop) (E:Value→Shared→Prop),Q (.bool (g i j)) s→wpAny (model X.prog X.w) X.A (f (.int i t) (.int j u)) Q E s) :
  gB X f (tH fun i j => .bl (g i j)):=by
 intro pins s σ H x y v u Q I rx ry h;obtain⟨i,j,rfl,rfl,q⟩:=h;obtain⟨t,rfl⟩:=rx;obtain⟨t',rfl⟩:=ry;exact rule i j t t' s _ _ ⟨.bl (g i j),H,I,rfl,q⟩
def kQ(i j:Int):Prop:=0<j∧j<1073741824
def JY(i j:Int):Prop:=0≤j∧j≤1000000∧i.natAbs<2 ^ 64
def kE(i j:Int):Prop:=(-(2 ^ 64)<i∧i<2 ^ 64)∨(-(2 ^ 64)<j∧j<2 ^ 64)
theorem kE.ok{i j:Int}(h:kE i j):IntMulOk i j:=by
 rcases h with⟨h1,h2⟩ | ⟨h1,h2⟩
 ·exact .of_left (intBits_le_64 h1 h2)
 ·exact .of_right (intBits_le_64 h1 h2)
theorem ag9:gB X (binaryOp .Add) (tH fun i j => .int (i+j)):=La fun _ _ _ _ _ _ _ q=>add_int q
theorem agT:gB X (binaryOp .Sub) (tH fun i j => .int (i - j)):=La fun _ _ _ _ _ _ _ q=>sub_int q
theorem agX:gB X (binaryOp .Mult) (rI kE fun i j => .int (i*j)):=FK fun _ _ _ _ _ _ _ hc q=>mul_int q hc.ok
theorem ag5:gB X (binaryOp .FloorDiv) (rI kQ fun i j => .int (i/j)):=FK fun i j _ _ _ _ _ hc q=>by
 have h1:(0:Int)<j:=hc.1;have h2:j<1073741824:=hc.2;exact floordiv_int (by omega) (by rw [Int.fdiv_eq_ediv_of_nonneg i (by omega)];exact q) (.inl (PyProof.noPylong_small (by omega)))
theorem agY:gB X (binaryOp .Mod) (rI (fun _ j=>0<j) fun i j => .int (i%j)):=FK fun i j _ _ _ _ _ hc q=>by
 have h1:(0:Int)<j:=hc;exact mod_int' (by omega) (by rw [Int.fmod_eq_emod_of_nonneg i (by omega)];exact q)
theorem agU:gB X (binaryOp .Pow) (rI JY fun i j => .int (i ^ j.toNat)):=FK fun _ _ _ _ _ _ _ hc q=>pow_int_small hc.1 hc.2.1 hc.2.2 q
theorem anL{pins:List (Addr×Obj)}{σ:St}{H:Hp}{s:Shared}{Q:VK}{k k':Bool}(I:Inv X pins σ H s)(q:Q (.bl k) H)(e:k=k'):EP X pins σ Q (.bool k') s:=by
 subst e;exact⟨.bl k,H,I,rfl,q⟩
theorem agZ:gB X (compareOp .Lt) (tH fun i j => .bl (decide (i<j))):=MR fun _ _ _ _ _ _ _ q=>lt_int q
theorem ag0:gB X (compareOp .LtE) (tH fun i j => .bl (decide (i≤j))):=MR fun _ _ _ _ _ _ _ q=>le_int q
theorem ag2:gB X (compareOp .Gt) (tH fun i j => .bl (decide (j<i))):=MR fun _ _ _ _ _ _ _ q=>gt_int q
theorem ag3:gB X (compareOp .GtE) (tH fun i j => .bl (decide (j≤i))):=MR fun _ _ _ _ _ _ _ q=>ge_int q
theorem ag1:gB X (compareOp .Is) (fun x y H Q=>y = .bH∧Q (.bl (decide (x = .bH))) H):=by
 intro pins s σ H x y v u Q I rx ry h;obtain⟨rfl,q⟩:=h;cases ry;refine is_none_gen (anL I q ?_);cases x <;> first
  | (cases rx;rfl)
  | (obtain⟨t,rfl⟩:=rx;rfl)
theorem gB.or{f:Value→Value→Sem Value}{r r':R2}(h:gB X f r)(h':gB X f r'):gB X f (fun x y H Q=>r x y H Q∨r' x y H Q):=by
 intro pins s σ H x y v u Q I rx ry q
 rcases q with q | q
 ·exact h pins s σ H x y v u Q I rx ry q
 ·exact h' pins s σ H x y v u Q I rx ry q
theorem eO(b:Expr){op:CmpOp}(h:op ≠ .In:=by decide)(h2:op ≠ .NotIn:=by decide):behindInMarks op b=false:=by
 have e1:(op == CmpOp.In)=false:=by cases op <;> first | rfl | exact absurd rfl h
 have e2:(op == CmpOp.NotIn)=false:=by cases op <;> first | rfl | exact absurd rfl h2
 cases b <;> simp [behindInMarks,e1,e2]
theorem agE{op:CmpOp}{r:R2}(ho:gB X (compareOp op) r)(ha:PE X a ta)(hb:PE X b tb)(hm:behindInMarks op b=false):PE X (.Compare a [op] [b] pos) (EL r ta tb):=by
 intro pins s σ H Q I h;exact wpAny_Compare1 (Cs ha hb I h fun v u s2 x y H2 I2 rx ry q=>ho pins s2 σ H2 x y v u Q I2 rx ry q) hm
def Hx(t:TE):TT:=fun σ H Q=>t σ H fun x H'=>∃k,x = .bl k∧Q k H'
theorem aeY{op:CmpOp}{r:R2}(ho:gB X (compareOp op) r)(ha:PE X a ta)(hb:PE X b tb)(hm:behindInMarks op b=false):PT X (.Compare a [op] [b] pos) (Hx (EL r ta tb)):=by
 intro pins s σ H Q I h;refine wpAny_isTrue_Compare1 (bA (ha pins s σ H _ I h) fun v s1 ⟨x,H1,I1,r1,q1⟩=>bA (hb pins s1 σ H1 _ I1 q1) fun u s2 ⟨y,H2,I2,r2,q2⟩ =>
  bA (ho pins s2 σ H2 x y v u _ I2 r1 r2 q2) fun c s3 ⟨z,H3,I3,r3,k,e,q3⟩=>?_) hm
 subst e;cases r3;exact DT ⟨H3,I3,q3⟩
def Ig(r r':R2)(ta tb tc:TE):TE:=fun σ H Q=>ta σ H fun x H1=>tb σ H1 fun y H2=>r x y H2 fun z H3=>∃k,z = .bl k ∧
 (if k=true then tc σ H3 fun w' H4=>r' y w' H4 Q else Q (.bl false) H3)
theorem agF{op xO:CmpOp}{r r':R2}(ho:gB X (compareOp op) r)(lM:gB X (compareOp xO) r')(ha:PE X a ta)(hb:PE X b tb)(hc:PE X c tc)
  (hm:lastMarks [op,xO] [b,c]=false:=by with_unfolding_all rfl):PE X (.Compare a [op,xO] [b,c] pos) (Ig r r' ta tb tc):=by
 intro pins s σ H Q I h;refine Compare_chain (bA (ha pins s σ H _ I h) fun v s1 ⟨x,H1,I1,r1,q1⟩=>chain_link (bA (hb pins s1 σ H1 _ I1 q1) fun u s2 ⟨y,H2,I2,r2,q2⟩ =>
  bA (ho pins s2 σ H2 x y v u _ I2 r1 r2 q2) fun d s3 ⟨z,H3,I3,r3,k,e,q3⟩=>?_)) hm
 subst e;cases r3;refine DT ?_;cases k with
 | false=>exact ite_ff ⟨.bl false,H3,I3,rfl,q3⟩
 | true=>exact ite_tt (chain_last (bA (hc pins s3 σ H3 _ I3 q3) fun w' s4 ⟨z',H4,I4,r4,q4⟩=>lM pins s4 σ H4 y z' u w' Q I4 r2 r4 q4))
theorem FW:(sizeLine:Nat)<2 ^ 63:=by rw [kJ];decide
theorem vals1{x:V}{us:List Value}(r:Vals [x] us):∃u,us=[u]∧RelV x u:=by
 cases r with
 | cons r1 r2=>cases r2;exact⟨_,rfl,r1⟩
theorem vals2{x y:V}{us:List Value}(r:Vals [x,y] us):∃u w',us=[u,w']∧RelV x u∧RelV y w':=by
 cases r with
 | cons r1 r2 =>
  cases r2 with
  | cons r3 r4=>cases r4;exact⟨_,_,rfl,r1,r3⟩
theorem aqI(hc:X.calm=true):jR X (.builtin "min") (fun xs H Q=>∃i j,xs=[.int i,.int j]∧Q (.int (if j<i then j else i)) H):=by
 intro pins s σ H xs us Q I r h;obtain⟨i,j,rfl,q⟩:=h;obtain⟨u,w',rfl,⟨t,rfl⟩,⟨t',rfl⟩⟩:=vals2 r;refine min_two_ints (I.ok.hd hc) fun h' tk k=>⟨_,H,I.kept k,?_,q⟩
 by_cases hj:j<i
 ·rw [if_pos hj,if_pos hj];exact⟨_,rfl⟩
 ·rw [if_neg hj,if_neg hj];exact⟨_,rfl⟩
theorem aqQ:jR X (.type "int") (fun xs H Q=>(∃i,xs=[.int i]∧Q (.int i) H)∨∃k,xs=[.bl k]∧Q (.int (if k then 1 else 0)) H):=by
 intro pins s σ H xs us Q I r h
 rcases h with⟨i,rfl,q⟩ | ⟨k,rfl,q⟩
 ·obtain⟨u,rfl,t,rfl⟩:=vals1 r;exact call_int_int ⟨.int i,H,I,⟨_,rfl⟩,q⟩
 ·obtain⟨u,rfl,r1⟩:=vals1 r;cases r1;exact call_int_bool ⟨.int (if k then 1 else 0),H,I.tok _,⟨_,rfl⟩,q⟩
end
structure zK(h:Heap)(x dx C:Addr)(mA:Str→Option Value):Prop where
 obj:h.get? x=some (instObj C dx)
 ns:h.Ns1 dx mA
 ne:dx≠x
theorem aiM{h:Heap}{dx:Addr}{mA:Str→Option Value}(n:h.Ns1 dx mA):∃od,h.get? dx=some od∧∀name,lookIn name od=some (mA name):=by
 obtain⟨o,es,ep,ho,hd,hk,_,hm⟩:=n;refine⟨o,ho,fun name=>?_⟩;have e:=hm name;unfold nsFind findBy at e;rw [← Array.find?_toList]at e;unfold lookIn;rw [hd];dsimp only;split
 ·rename_i y q;rw [q]at e;exact congrArg some e
 ·rename_i q;rw [q]at e;have a:es.toList.any (·.refKey)=false:=by
   rw [List.any_eq_false];intro y hy;obtain⟨z,t,NY⟩:=hk y (Array.mem_toList_iff.mp hy);simp [DictEntry.refKey,NY]
  have a':¬es.toList.any (·.refKey)=true:=by rw [a];exact Bool.false_ne_true
  rw [if_neg a'];exact congrArg some e
theorem zK.look{h:Heap}{x dx C:Addr}{mA:Str→Option Value}(I:zK h x dx C mA):∃od,PySem.W.InstAt h x (instObj C dx) C (some od)∧∀name,lookIn name od=some (mA name) :=
 let ⟨od,ho,hl⟩:=aiM I.ns
 ⟨od,⟨I.obj,rfl,rfl,ho⟩,hl⟩
section
variable{prog:Program}{w:World}{A:Around}{E:Value→Shared→Prop}{s:Shared}{K:Frag}{x dx C f:Addr}{mA:Str→Option Value}{name:Str}{v:Value}
theorem get_map{expr:Bool}{Q:Value→Shared→Prop}(X:K.In s.heap)(I:zK s.heap x dx C mA)(hg:plainGet K C name=true)(hh:hasDictIn K C=true)
  (ha:findIn K (.ref C) name=some none) (hv:mA name=some v) (GC:PySem.W.handedIn v=true) (h:Q v { s with toks:=s.toks+1 }) :
  wpAny (model prog w) A (getAttr (.ref x) name expr) Q E s:=by
 obtain⟨od,J,hl⟩:=I.look;exact PySem.W.get_value X J (plainGet_of hg).1 (PySem.W.findObj_own hh ha rfl (by rw [hl,hv])) GC h
theorem am9{pl:Sem Bool}{Q:Value×List Value→Shared→Prop}(X:K.In s.heap)(I:zK s.heap x dx C mA)(hg:plainGet K C name=true)
  (hf:findIn K (.ref C) name=some (some (.ref f))) (ht:isFn K (.ref f)=true) (hv:mA name=none) (h:Q (.ref f,[.ref x]) s) :
  wpAny (model prog w) A (getMethod (.ref x) name pl) Q E s:=by
 obtain⟨od,J,hl⟩:=I.look;exact PySem.W.method_fn X J (plainGet_of hg).1 (plainGet_of hg).2 hf (sI.mp ht) (by show(lookIn name od).map (·.isSome)=some false;rw [hl,hv];rfl) h
theorem ac5{ns:List Str}{Q:Unit→Shared→Prop}(X:K.In s.heap)(I:zK s.heap x dx C mA)
  (hs:findIn K (.ref C) "__setattr__" = some (some (.builtin "object.__setattr__"))) (hp:PySem.W.plainOver K C=true) (ht:takerIn K C name=some none) (hh:hasDictIn K C=true)
  (hw:PySem.Within mA ns) (hsz:ns.length≤sizeLine)
  (h:∀h',zK h' x dx C (fun y=>if y=name then some v else mA y)→Heap.SameBut dx s.heap h'→Q () { s with heap:=h',toks:=s.toks+2 }) :
  wpAny (model prog w) A (setAttr (.ref x) name v) Q E s:=by
 obtain⟨od,J,hl⟩:=I.look;refine PySem.W.set_plain X J hs (PySem.W.osa_open (s:={ s with toks:=s.toks+1 }) (r:=none) X J hp ht fun b=>?_);obtain⟨cd,hc,BU⟩:=PySem.W.any_some hh;have hx:s.heap.get? x=some ⟨.ref C,some dx,.plain,#[]⟩:=I.obj;refine aF (aS (aF (aF (wpAny_loadPart hx (aF (PySem.W.Looks.here (s:={ s with toks:=s.toks+1 }) (PySem.W.looks_clsIn X hc) ?_))))));rw [BU];refine aS (a:=some dx) (aF (aS (aF ?_)));refine wpAny_nsSet1 (s:={ s with toks:=s.toks+1 }) I.ns fun h' BP nH=>?_;obtain⟨oD,esD,epD,hoD,hdD,hcD⟩:=BP.count (PySem.Within.cons name v hw);refine aF (wpAny_lookBehind hoD (by rw [hdD];exact pastItsLine_dict (qD hcD (by rw [jP];omega))) ?_);exact aS (h _ ⟨(nH.2 _ (bV I.ne)).trans I.obj,BP,I.ne⟩ nH)
theorem aiH{R:Result→Shared→Prop}{vs:List Value}{kw:List (Str×Value)}(X:K.In s.heap)(hm:makesIn K C=true)
  (hi:findIn K (.ref C) "__init__" = some (some (.ref f))) (hf:typeIn K (.ref f)=some (.type "function"))
  (h:codeAny (model prog w) (A.under (.builtin "type.__call__" ⟨.ref C::vs,kw⟩)) (.call (.ref f) ⟨.ref (s.heap.objs.size+1)::vs,kw⟩) (PySem.W.InitBack (s.heap.objs.size+1) R)
   { s with heap:=(s.heap.push emptyDict).push (instObj C s.heap.objs.size) }) :
  codeAny (model prog w) A (.call (.ref C) ⟨vs,kw⟩) R s:=by
 obtain⟨hh,g,d,t,os⟩:=s;exact PySem.W.make_core (PySem.W.makes_of X hm) (PySem.W.looks_findIn X hi) (fun self=>PySem.W.bind_fn X self hf) (.inl rfl) h
end
def hZ(f:Str)(v:V):List (Str×V)→List (Str×V)
 | []=>[(f,v)]
 | (g,x)::r=>if g=f then(g,v)::r else(g,x)::hZ f v r
theorem Ls(f g:Str)(v:V):∀fs:List (Str×V),(hZ f v fs).lookup g=if g=f then some v else fs.lookup g
 | []=>by
  show List.lookup g [(f,v)]=_
  by_cases h:g=f
  ·have hb:(g == f)=true:=sI.mpr h;simp only [List.lookup,hb,if_pos h]
  ·have hb:(g == f)=false:=sJ.mpr h;simp only [List.lookup,hb,if_neg h]
 | (k,x)::r=>by
  have ih:=Ls f g v r;rw [show hZ f v ((k,x)::r)=(if k=f then(k,v)::r else(k,x)::hZ f v r)from rfl]
  by_cases hk:k=f
  ·rw [if_pos hk]
   by_cases h:g=k
   ·have hb:(g == k)=true:=sI.mpr h;simp only [List.lookup,hb,if_pos (h.trans hk)]
   ·have hb:(g == k)=false:=sJ.mpr h;simp only [List.lookup,hb,if_neg (fun e:g=f=>h (e.trans hk.symm))]
  ·rw [if_neg hk]
   by_cases h:g=k
   ·have hb:(g == k)=true:=sI.mpr h;simp only [List.lookup,hb,if_neg (fun e:g=f=>hk (h.symm.trans e))]
   ·have hb:(g == k)=false:=sJ.mpr h;simp only [List.lookup,hb];exact ih
theorem YG(f:Str)(v:V):∀fs:List (Str×V),f∈(hZ f v fs).map (·.1)∧∀g,g∈fs.map (·.1)→g∈(hZ f v fs).map (·.1)
 | []=>⟨by simp [hZ],fun g h=>by simp at h⟩
 | (k,x)::r=>by
  obtain⟨i1,i2⟩:=YG f v r;rw [show hZ f v ((k,x)::r)=(if k=f then(k,v)::r else(k,x)::hZ f v r)from rfl]
  by_cases hk:k=f
  ·rw [if_pos hk];subst hk;exact⟨by simp,fun g h=>by simpa using h⟩
  ·rw [if_neg hk];refine⟨?_,fun g h=>?_⟩
   ·rw [cX];exact gQ _ i1
   ·rw [cX]at h ⊢
    rcases eN.mp h with e | e
    ·exact eN.mpr (.inl e)
    ·exact gQ _ (i2 g e)
theorem Mb(f:Str)(v:V):∀fs:List (Str×V),(hZ f v fs).length≤fs.length+1
 | []=>by simp [hZ]
 | (k,x)::r=>by
  have ih:=Mb f v r;rw [show hZ f v ((k,x)::r)=(if k=f then(k,v)::r else(k,x)::hZ f v r)from rfl]
  by_cases hk:k=f
  ·rw [if_pos hk,jP,jP];omega
  ·rw [if_neg hk,jP,jP];omega
theorem lP.some_of{v:V}{o:Option Value}(r:lP (some v) o):∃u,o=some u∧RelV v u:=by
 cases o with
 | none=>exact(show False from r).elim
 | some u=>exact⟨u,rfl,r⟩
theorem lP.none_of{o:Option Value}(r:lP none o):o=none:=by
 cases o with
 | none=>rfl
 | some u=>exact(show False from r).elim
theorem Od{v:V}{u:Value}(r:RelV v u):PySem.W.handedIn u=true:=by
 cases v with
 | bH=>cases(show u=Value.none from r);rfl
 | bl b=>cases(show u=Value.bool b from r);rfl
 | int i=>obtain⟨t,e⟩:=(show ∃t,u=Value.int i t from r);cases e;rfl
 | str x=>obtain⟨t,e⟩:=(show ∃t,u=Value.str x t from r);cases e;rfl
 | OZ b=>obtain⟨t,e⟩:=(show ∃t,u=Value.bytes b t from r);cases e;rfl
 | yV b=>obtain⟨t,e⟩:=(show ∃t,u=Value.float b t from r);cases e;rfl
 | ref a=>cases(show u=Value.ref a from r);rfl
 | ty n=>cases(show u=Value.type n from r);rfl
section
variable{P:Program}{w:World}{H H':Hp}{h h':Heap}{a C dx:Addr}{fs kZ:List (Str×V)}
theorem NN(aH:eR P w H h)(e:H a=some (.ins C dx fs)):∃mA,zK h a dx C mA∧(∀f,lP (fs.lookup f) (mA f))∧PySem.Within mA (fs.map (·.1))∧fs.length≤1000∧H dx=some (.own a):=by
 obtain⟨d,z,ne,ob,mA,n,r,q⟩:=(show fN P w H h a (.ins C dx fs)from aH a _ e);exact⟨mA,⟨ob,n,ne⟩,r,q,z,d⟩
end
structure lD(K:Frag)(C:Addr):Prop where
 pg:plainGet K C Str.empty=true
 hd:hasDictIn K C=true
 po:PySem.W.plainOver K C=true
 sa:findIn K (.ref C) "__setattr__" = some (some (.builtin "object.__setattr__"))
theorem lD.get{K:Frag}{C:Addr}(c:lD K C)(f:Str):plainGet K C f=true:=c.pg
def zL(K:Frag)(C:Addr)(f:Str):Prop:=findIn K (.ref C) f=some none
theorem zL.Xc{K:Frag}{C:Addr}{f:Str}(n:zL K C f):takerIn K C f=some none:=by
 unfold takerIn;rw [show findIn K (.ref C) f=some none from n];rfl
structure Con(K:Frag)(C:Addr)(f:Str)(v:V)(u:Value):Prop where
 at_:findIn K (.ref C) f=some (some u)
 rel:RelV v u
 get:specialIn K u "__get__" = some none
 cp:PySem.W.copiedNames.contains f=false
structure Meth(K:Frag)(C:Addr)(m:Str)(f:Addr):Prop where
 at_:findIn K (.ref C) m=some (some (.ref f))
 fn:isFn K (.ref f)=true
 kp:keepIn K (.ref f)=true
section
variable{X:Cx}{pins:List (Addr×Obj)}{σ:St}{H:Hp}{s:Shared}{a C dx:Addr}{fs:List (Str×V)}{f:Str}{v:V}{A:Around}{E:Value→Shared→Prop}
theorem am8{b:Bool}{Q:Value→Shared→Prop}(I:Inv X pins σ H s)(e:H a=some (.ins C dx fs))(c:lD X.K C)(n:zL X.K C f)(l:fs.lookup f=some v)
  (h:∀u s',Inv X pins σ H s'→RelV v u→Q u s'):wpAny (model X.prog X.w) A (getAttr (.ref a) f b) Q E s:=by
 obtain⟨mA,O,r,_,_,_⟩:=NN I.aH e;obtain⟨u,hu,ru⟩:=lP.some_of (v:=v) (o:=mA f) (by rw [← l];exact r f);exact get_map I.fK O (c.get f) c.hd n hu (Od ru) (h u _ (I.tok _) ru)
theorem Bb{m:Str}{g:Addr}{pl:Sem Bool}{Q:Value×List Value→Shared→Prop}(I:Inv X pins σ H s)(e:H a=some (.ins C dx fs))(c:lD X.K C)(k:Meth X.K C m g)(l:fs.lookup m=none)
  (h:Q (.ref g,[.ref a]) s):wpAny (model X.prog X.w) A (getMethod (.ref a) m pl) Q E s:=by
 obtain⟨mA,O,r,_,_,_⟩:=NN I.aH e;have hn:mA m=none:=lP.none_of (by rw [← l];exact r m);exact am9 I.fK O (c.get m) k.at_ k.fn hn h
theorem ac3{y:V}{u:Value}{Q:Unit→Shared→Prop}(I:Inv X pins σ H s)(e:H a=some (.ins C dx fs))(c:lD X.K C)(n:zL X.K C f)(hl:fs.length<1000)(ry:RelV y u)
  (h:∀s',Inv X pins σ (upd H a (.ins C dx (hZ f y fs))) s'→Q () s'):wpAny (model X.prog X.w) A (setAttr (.ref a) f u) Q E s:=by
 obtain⟨mA,O,r,wi,_,ho⟩:=NN I.aH e;have hz:(fs.map (·.1)).length≤sizeLine:=by rw [eG,kJ];omega
 refine ac5 I.fK O c.sa c.po n.Xc c.hd wi hz fun h' O' sb=>h _ ?_;have hd:∃o,h'.get? dx=some o:=let ⟨o,_,_,e',_⟩:=O'.ns; ⟨o,e'⟩;refine I.write (x:=a) (e:=dx) (by rw [e];exact True.intro) (.inr ho) (fun b q hb z=>(sb.2 b hb).trans z) hd ?_;refine⟨by rw [aY O.ne];exact ho,?_,O.ne,O'.obj,_,O'.ns,fun g=>?_,fun g hg=>?_⟩
 ·have:=Mb f y fs;omega
 ·show lP ((hZ f y fs).lookup g) (if g=f then some u else mA g);rw [Ls]
  by_cases q:g=f
  ·rw [if_pos q,if_pos q];exact ry
  ·rw [if_neg q,if_neg q];exact r g
 ·by_cases q:g=f
  ·rw [q];exact(YG f y fs).1
  ·refine(YG f y fs).2 g (wi g fun z=>hg ?_);show(if g=f then some u else mA g)=none;rw [if_neg q];exact z
theorem Inv.made(I:Inv X pins σ H s):Inv X pins σ (upd (upd H s.heap.objs.size (.own (s.heap.objs.size+1))) (s.heap.objs.size+1) (.ins C s.heap.objs.size []))
  { s with heap:=(s.heap.push emptyDict).push (instObj C s.heap.objs.size) }:=by
 have e1:(s.heap.push emptyDict).get? s.heap.objs.size=some emptyDict:=eY s.heap rfl;have e2:((s.heap.push emptyDict).push (instObj C s.heap.objs.size)).get? (s.heap.objs.size+1)=some (instObj C s.heap.objs.size):=by
  have:=eY (s.heap.push emptyDict) (o:=instObj C s.heap.objs.size) rfl;rwa [zV]at this
 have e3:(s.heap.push emptyDict).Ns s.heap.objs.size (fun _=>none):=⟨emptyDict,#[],_,e1,rfl,(fun e he=>absurd he (by simp)),fun _=>rfl⟩;have I1:=I.laid (a:=s.heap.objs.size) (o := .own (s.heap.objs.size+1)) (h':=s.heap.push emptyDict) (t':=s.toks) (fun b u q=>cH _ q) bP ⟨_,e1⟩;refine I1.laid (a:=s.heap.objs.size+1) (o := .ins C s.heap.objs.size []) (t':=s.toks) (fun b u q=>cH _ q) (Nat.le_of_eq (zV _ _)) ?_;have ne:s.heap.objs.size≠s.heap.objs.size+1:=dA (Ef _);refine⟨by rw [aY ne,dR],CU _,ne,e2,fun _=>none,(Heap.Ns1.of_empty e3).at fun o q=>cH _ q,fun _=>True.intro,fun y hy=>absurd rfl hy⟩
theorem aq8{prog:Program}{w:World}{env:Env}{e:Expr}{f:Str}{pos:Pos}{s:Shared}{Q:Value→Shared→Prop}(hb:attributeBase e f env (eval e env)=eval e env)
  (h:wpAny (model prog w) A (eval e env) (fun o s₁=>wpAny (model prog w) A (getAttr o f true) Q E s₁) E s):wpAny (model prog w) A (eval (.Attribute e f pos) env) Q E s :=
 Attribute_any_ h (by rw [arm_eval_Attribute,hb])
end
def Ib(K:Frag)(ta:TE)(f:Str):TE:=fun σ H Q=>ta σ H fun x H1=>∃a C dx fs v,x = .ref a∧H1 a=some (.ins C dx fs)∧lD K C∧zL K C f∧fs.lookup f=some v∧Q v H1
def adT(K:Frag)(ta tv:TE)(f:Str):TS:=fun D σ H=>tv σ H fun y H1=>ta σ H1 fun x H2=>∃a C dx fs,x = .ref a∧H2 a=some (.ins C dx fs)∧lD K C∧zL K C f∧fs.length<1000 ∧
 D.nx σ (upd H2 a (.ins C dx (hZ f y fs)))
section
variable{X:Cx}{o e value:Expr}{f:Str}{pos pos' Wt:Pos}{ta tv:TE}
theorem FE(he:PE X e ta)(hb:attributeBase e f X.env (eval e X.env)=eval e X.env):PE X (.Attribute e f pos) (Ib X.K ta f):=by
 intro pins s σ H Q I h;refine aq8 hb (bA (he pins s σ H _ I h) fun u s1 ⟨x,H1,I1,rx,a,C,dx,fs,v,ex,ea,c,n,l,q⟩=>?_);subst ex;obtain rfl:u=Value.ref a:=rx;exact am8 I1 ea c n l fun u' s2 I2 ru=>⟨v,H1,I2,ru,q⟩
theorem ae9(ha:PE X o ta)(hv:PE X value tv)(hs:swapsWith value (some (.Attribute o f pos')) pos.line X.env=pure false):PS X (.Assign [.Attribute o f pos'] value pos) (adT X.K ta tv f):=by
 intro pins s σ H D I h;refine plainObj_wpAny_Assign_Attribute (bA (hv pins s σ H _ I h) fun u s1 ⟨y,H1,I1,ry,q⟩=>bA (ha pins s1 σ H1 _ I1 q) fun ov s2 ⟨x,H2,I2,rx,a,C,dx,fs,ex,ea,c,n,l,q2⟩=>?_) hs;subst ex;obtain rfl:ov=Value.ref a:=rx;exact ac3 I2 ea c n l ry fun s3 I3=>⟨σ,_,I3,q2⟩
end
section
variable{X:Cx}{pins:List (Addr×Obj)}{σ:St}{H:Hp}{s:Shared}{A:Around}{E:Value→Shared→Prop}{Q:Value→Shared→Prop}{c:Value}{b:Bool}
inductive nY(K:Frag)(H:Hp):V→Value→Prop where
 | bH:nY K H .bH (.type "NoneType")
 | bl (x:Bool):nY K H (.bl x) (.type "bool")
 | int (i:Int):nY K H (.int i) (.type "int")
 | str (x:Str):nY K H (.str x) (.type "str")
 | yV (x:UInt64):nY K H (.yV x) (.type "float")
 | lst {a:Addr} {xs:List V} (e:H a=some (.lst xs)):nY K H (.ref a) (.type "list")
 | cV {a:Addr} {o:Obj} {xs:List V} (e:H a=some (.cV o (.lst xs))):nY K H (.ref a) (.type "list")
 | tup {a:Addr} {xs:List V} (e:H a=some (.tup xs)):nY K H (.ref a) (.type "tuple")
 | dK {a:Addr} {kvs:List (Key×V)} (e:H a=some (.dK kvs)):nY K H (.ref a) (.type "dict")
 | dT {a:Addr} {kvs:List (List Key×V)} (e:H a=some (.dT kvs)):nY K H (.ref a) (.type "dict")
 | ins {a C dx:Addr} {fs:List (Str×V)} (e:H a=some (.ins C dx fs)) (cl:lD K C) (ha:findIn K (.ref C) "__class__" = some (some (.builtin "object.__class__")))
   (hn:specialIn K (.builtin "object.__class__") "__get__" = some (some (.builtin "getset_descriptor.__get__"))) (My:takesIn K (.builtin "object.__class__")=some true)
   (hm:mroIn K C (.type "object")=some true):nY K H (.ref a) (.ref C)
theorem ajW{x:V}{u t:Value}(I:Inv X pins σ H s)(rx:RelV x u)(ty:nY X.K H x t)(e:kitOne X.K t c=some b)(h:∀tk,Q (.bool b) { s with toks:=tk }) :
  wpAny (model X.prog X.w) A (call (.builtin "isinstance") [u,c]) Q E s:=by
 cases ty with
 | bH=>cases(show u=Value.none from rx);exact kia_one PySem.W.kitx_none I.fK True.intro e (fun z=>nomatch z) h
 | bl y=>cases(show u=Value.bool y from rx);exact kia_one PySem.W.kitx_bool I.fK True.intro e (fun z=>nomatch z) h
 | int i=>obtain⟨t,q⟩:=(show ∃t,u=Value.int i t from rx);cases q;exact kia_one PySem.W.kitx_int I.fK True.intro e (fun z=>nomatch z) h
 | str y=>obtain⟨t,q⟩:=(show ∃t,u=Value.str y t from rx);cases q;exact kia_one PySem.W.kitx_str I.fK True.intro e (fun z=>nomatch z) h
 | yV y=>obtain⟨t,q⟩:=(show ∃t,u=Value.float y t from rx);cases q;exact kia_one PySem.W.kitx_float I.fK True.intro e (fun z=>nomatch z) h
 | @lst a xs ea =>
  cases(show u=Value.ref a from rx);obtain⟨_,_,n,_,h1⟩:=(show fN X.prog X.w H s.heap a (.lst xs)from I.aH a _ ea);exact kia_one PySem.W.kitx_list I.fK ⟨_,h1,rfl⟩ e (fun z=>nomatch z) h
 | @cV a ob xs ea =>
  cases(show u=Value.ref a from rx);obtain⟨_,_,_,n,_,h1⟩:=(show fN X.prog X.w H s.heap a (.cV ob (.lst xs))from I.aH a _ ea);exact kia_one PySem.W.kitx_list I.fK ⟨_,h1,rfl⟩ e (fun z=>nomatch z) h
 | @tup a xs ea =>
  cases(show u=Value.ref a from rx);obtain⟨_,_,_,p⟩:=(show fN X.prog X.w H s.heap a (.tup xs)from I.aH a _ ea);obtain⟨o,h1,h2,_⟩:=p;exact kia_one PySem.W.kitx_tuple I.fK ⟨o,h1,h2⟩ e (fun z=>nomatch z) h
 | @dK a kvs ea =>
  cases(show u=Value.ref a from rx);obtain⟨_,_,vs,_,p⟩:=(show fN X.prog X.w H s.heap a (.dK kvs)from I.aH a _ ea);obtain⟨o,es,ep,h1,h2,_⟩:=p;exact kia_one PySem.W.kitx_dict I.fK ⟨o,h1,h2.1⟩ e (fun z=>nomatch z) h
 | @dT a kvs ea =>
  cases(show u=Value.ref a from rx);obtain⟨_,_,xs,_,o,es,ep,h1,h2,_⟩:=(show fN X.prog X.w H s.heap a (.dT kvs)from I.aH a _ ea);exact kia_one PySem.W.kitx_dict I.fK ⟨o,h1,h2.1⟩ e (fun z=>nomatch z) h
 | @ins a C dx fs ea cl ha hn My hm =>
  cases(show u=Value.ref a from rx);obtain⟨mA,O,_⟩:=NN I.aH ea;obtain⟨od,J,_⟩:=O.look;exact kia_one (PySem.W.kitx_own (cl.get _) cl.hd ha hn My hm) I.fK J e (fun z=>nomatch z) h
end
structure cE(k:Nat)(A:Around):Prop where
 hd:A.handled=none
 dp:A.depth+3*k+5<recursionLimit
 un:A.units+16*k+200<cLine
theorem cE.mono{j k:Nat}{A:Around}(r:cE k A)(h:j≤k):cE j A:=⟨r.hd,by have:=r.dp;omega,by have:=r.un;omega⟩
theorem cE.deeper{k:Nat}{A:Around}(r:cE (k+1) A)(env:Env):cE k (A.deeper env) :=
 ⟨r.hd,by have:=r.dp;show A.depth+1+3*k+5<_;omega,by have:=r.un;show A.units+3+16*k+200<_;omega⟩
theorem aiI{A:Around}{C:Addr}{us:List Value}{kw:List (Str×Value)}:(A.under (.builtin "type.__call__" ⟨.ref C::us,kw⟩)).depth=A.depth+1:=by
 first | rfl | simp [Around.under,Code.weight,Code.isCreation,Code.isGuard,Code.isCaller,Code.frames,Code.isFrame,guardIds]
theorem aiG{A:Around}{C:Addr}{us:List Value}{kw:List (Str×Value)}:(A.under (.builtin "type.__call__" ⟨.ref C::us,kw⟩)).units=A.units+1:=by
 first | rfl | simp [Around.under,Code.cUnits,Code.frames,Code.isFrame]
theorem cE.make{k:Nat}{A:Around}(r:cE (k+1) A)(C:Addr)(us:List Value)(kw:List (Str×Value)):cE k (A.under (.builtin "type.__call__" ⟨.ref C::us,kw⟩)) :=
 ⟨r.hd,by have:=r.dp;rw [aiI];omega,by have:=r.un;rw [aiG];omega⟩
theorem cE.depth{k:Nat}{A:Around}(r:cE k A):A.depth<recursionLimit:=by have:=r.dp;omega
theorem cE.units{k:Nat}{A:Around}(r:cE k A):A.units+64<cLine:=by have:=r.un;omega
def Hz:TA:=fun _ H Q=>Q [] H
def Yb(ta:TE)(tr:TA):TA:=fun σ H Q=>ta σ H fun x H1=>tr σ H1 fun xs H2=>Q (x::xs) H2
section
variable{X:Cx}{e:Expr}{es:List Expr}{te:TE}{t:TA}{pos:Pos}
theorem vE:PA X [] Hz:=fun _ _ _ _ H Q I h=>JX ⟨[],H,I,.nil,h⟩
theorem vF(ha:PE X e te)(hr:PA X es t)(hs:starEach (e::es) X.env=(false,eval e X.env)::starEach es X.env:=by rfl):PA X (e::es) (Yb te t):=by
 intro pos pins s σ H Q I h;rw [hs];show wpAny _ _ (spliced ((false,eval e X.env)::backTo pos (starEach es X.env))) _ _ s;refine DO (bA (ha pins s σ H _ I h) fun u s1 ⟨x,H1,I1,r1,q1⟩=>?_);exact bA (hr pos pins s1 σ H1 _ I1 q1) fun us s2 ⟨xs,H2,I2,r2,q2⟩=>⟨x::xs,H2,I2,.cons r1 r2,q2⟩
def Xg(t:TA):TE:=fun σ H Q=>t σ H fun xs H1=>xs.length≤sizeLine∧∀p,H1 p=none→Q (.ref p) (upd H1 p (.tup xs))
def Xs(t:TA):TE:=fun σ H Q=>t σ H fun xs H1=>xs.length≤sizeLine∧∀p,H1 p=none→Q (.ref p) (upd H1 p (.lst xs))
theorem afS{x1}(h:PA X es t):PE X (.Tuple es x1 pos) (Xg t):=by
 intro pins s σ H Q I hq;refine wpAny_Tuple_spliced (bA (h pos pins s σ H _ I hq) fun us s1 ⟨xs,H1,I1,r,z,q⟩=>⟨by rw [← r.length];exact z,?_⟩);have hf:H1 s1.heap.objs.size=none:=I1.aH.fresh bP;refine⟨.ref s1.heap.objs.size,upd H1 s1.heap.objs.size (.tup xs),I1.laid (t':=s1.toks) (fun b u e=>cH _ e) bP ?_,rfl,q _ hf⟩;exact⟨z,us,r,⟨_,eY _ rfl,rfl,_,rfl⟩⟩
theorem af4(h:PA X es t):PE X (.List es pos) (Xs t):=by
 intro pins s σ H Q I hq;refine wpAny_List_spliced (bA (h pos pins s σ H _ I hq) fun us s1 ⟨xs,H1,I1,r,z,q⟩=>⟨by rw [← r.length];exact z,?_⟩);have hf:H1 s1.heap.objs.size=none:=I1.aH.fresh bP;refine⟨.ref s1.heap.objs.size,upd H1 s1.heap.objs.size (.lst xs),I1.laid (t':=s1.toks) (fun b u e=>cH _ e) bP ?_,rfl,q _ hf⟩;exact⟨z,us,0,r,eY _ rfl⟩
end
abbrev Sp:=List V→Hp→VK→XK→Prop
abbrev nQ:=List Env→Hp→Shared→XK→Value→Shared→Prop
structure AA(P:Program)(w:World)(K:Frag)(mg:Str→Option Value)(base:Heap)(A:Around)(outer:List Env)(s:Shared)(H:Hp):Prop where
 frames:A.frames=some outer
 mod:Mod K mg base
 bs:∀b o,base.get? b=some o→s.heap.get? b=some o∧H b=none
 nX:base.objs.size≤s.heap.objs.size
 mU:s.heap.FunFrames base outer
 rB:∀b∈fS outer,H b=none
 aH:eR P w H s.heap
 bare:AllBare s.gens
def CE(outer:List Env)(P:Program)(w:World)(H:Hp)(s:Shared)(Q:VK)(u:Value)(s':Shared):Prop :=
 ∃v H',s'.os=s.os∧AllBare s'.gens∧Un (fS outer) [] H H' s.heap s'.heap∧eR P w H' s'.heap∧RelV v u∧Q v H'
def CR(CX:nQ)(outer:List Env)(P:Program)(w:World)(H:Hp)(s:Shared)(Q:VK)(E:XK)(r:Result)(s':Shared):Prop :=
 match r with
 | .ok (.ret u)=>CE outer P w H s Q u s'
 | .ok _=>False
 | .error e=>CX outer H s E e s'
structure gC(P:Program)(w:World)(K:Frag)(mg:Str→Option Value)(base:Heap)(CX:nQ)(k:Nat)(f:Addr)(fd:FuncData)(ps:List Str)(sp:Sp):Prop where
 len:∀vs H Q E,sp vs H Q E→vs.length=ps.length
 run:∀(A:Around) (outer:List Env) (s:Shared) (H:Hp) (args:Args) (us:List Value) (vs:List V) (Q:VK) (E:XK),cE k A→AA P w K mg base A outer s H→BindsTo s fd args (ps.zip us)→Vals vs us→sp vs H Q E →
  codeAny (model P w) A (.call (.ref f) args) (CR CX outer P w H s Q E) s
theorem gC.mono{P:Program}{w:World}{K:Frag}{mg:Str→Option Value}{base:Heap}{CX:nQ}{j k:Nat}{f:Addr}{fd:FuncData}{ps:List Str}{sp:Sp}(F:gC P w K mg base CX j f fd ps sp)(h:j≤k) :
  gC P w K mg base CX k f fd ps sp:=⟨F.len,fun A outer s H args us vs Q E hr=>F.run A outer s H args us vs Q E (hr.mono h)⟩
theorem gC.imp{P:Program}{w:World}{K:Frag}{mg:Str→Option Value}{base:Heap}{CX:nQ}{k:Nat}{f:Addr}{fd:FuncData}{ps:List Str}{sp Iu:Sp}(F:gC P w K mg base CX k f fd ps sp)
  (h:∀vs H Q E,Iu vs H Q E→sp vs H Q E):gC P w K mg base CX k f fd ps Iu :=
 ⟨fun vs H Q E q=>F.len vs H Q E (h _ _ _ _ q),fun A outer s H args us vs Q E hr he hb hv hs=>F.run A outer s H args us vs Q E hr he hb hv (h _ _ _ _ hs)⟩
theorem AA.make{P:Program}{w:World}{K:Frag}{mg:Str→Option Value}{base:Heap}{A:Around}{outer:List Env}{s:Shared}{H:Hp}(e:AA P w K mg base A outer s H)(C:Addr)(us:List Value)(kw:List (Str×Value)) :
  AA P w K mg base (A.under (.builtin "type.__call__" ⟨.ref C::us,kw⟩)) outer s H:=⟨by first | exact e.frames | (simpa [Around.under,Code.envs,Code.isFrame,pushEnvs]using e.frames),e.mod,e.bs,e.nX,e.mU,e.rB,e.aH,e.bare⟩
section
variable{X:Cx}{pins:List (Addr×Obj)}{σ:St}{H:Hp}{s s':Shared}
theorem Inv.OQ(I:Inv X pins σ H s):AA X.prog X.w X.K X.mg X.base X.A X.stack s H :=
 ⟨I.ok.frames,I.ok.mod,I.bs,qD I.ok.nX I.sz,I.stack,I.LR,I.aH,I.bare⟩
theorem Inv.after{Q:VK}{u:Value}(I:Inv X pins σ H s)(h:CE X.stack X.prog X.w H s Q u s'):EP X pins σ Q u s':=by
 obtain⟨v,H',os,bare,un,aH,r,q⟩:=h;obtain⟨hh,g,d,t,FG⟩:=s';obtain rfl:FG=s.os:=os;exact⟨v,H',I.call (h':=hh) (g':=g) (d':=d) (t':=t) (ch:=[]) un aH bare (fun b z=>absurd z (by simp)),r,q⟩
end
def Xr(C:Addr)(sp:Sp)(dvs:List V)(E:XK)(t:TA):TE:=fun σ H Q=>t σ H fun vs H1=>∀x dx,H1 x=none→H1 dx=none→dx≠x →
 sp (.ref x::(vs++dvs)) (upd (upd H1 dx (.own x)) x (.ins C dx [])) (fun v H2=>v = .bH∧Q (.ref x) H2) E
def Binds(K:Frag)(fd:FuncData)(ps:List Str)(ds:List Value):Prop :=
 ∀(s:Shared) (us:List Value),K.In s.heap→(us++ds).length=ps.length→BindsTo s fd ⟨us,[]⟩ (ps.zip (us++ds))
theorem Binds.all{K:Frag}{fd:FuncData}{ps:List Str}(h:∀us:List Value,us.length=ps.length→bindArgs fd ⟨us,[]⟩=pure (ps.zip us)):Binds K fd ps []:=fun s us _ hl=>by
 rw [DI]at hl ⊢;exact .of_eq (h us hl)
def Passes(CX:nQ)(X:Cx)(E:XK):Prop:=∀(pins:List (Addr×Obj)) (σ:St) (H:Hp) (s:Shared) (e:Value) (s':Shared),Inv X pins σ H s→CX X.stack H s E e s'→X.xe e s'
section
variable{X:Cx}{CX:nQ}{k:Nat}{f C:Addr}{fd:FuncData}{ps:List Str}{sp:Sp}{dvs:List V}{ds:List Value}{E:XK}{x m:Str}{p pos apos:Pos}{e o:Expr}{es:List Expr}{ta:TE}{t:TA}
structure Mk(K:Frag)(C f:Addr):Prop where
 makes:makesIn K C=true
 init:findIn K (.ref C) "__init__" = some (some (.ref f))
 fn:isFn K (.ref f)=true
 kp:keepIn K (.ref C)=true
theorem adW{pins:List (Addr×Obj)}{σ:St}{H:Hp}{s:Shared}{Q:VK}{us:List Value}{vs:List V}(M:Mk X.K C f)(F:gC X.prog X.w X.K X.mg X.base CX k f fd ps sp)(hr:cE (k+1) X.A)(hb:Binds X.K fd ps ds)(hd:Vals dvs ds)
  (hx:Passes CX X E) (I:Inv X pins σ H s) (r:Vals vs us)
  (h:∀x dx,H x=none→H dx=none→dx≠x→sp (.ref x::(vs++dvs)) (upd (upd H dx (.own x)) x (.ins C dx [])) (fun v H2=>v = .bH∧Q (.ref x) H2) E) :
  wpAny (model X.prog X.w) X.A (call (.ref C) us) (EP X pins σ Q) X.xe s:=by
 have hq:=h (s.heap.objs.size+1) s.heap.objs.size (I.aH.fresh (qE _)) (I.aH.fresh bP) (dA (Ef _));have I2:=Inv.made (C:=C) I;have r2:Vals (V.ref (s.heap.objs.size+1)::(vs++dvs)) (Value.ref (s.heap.objs.size+1)::(us++ds)) := .cons rfl (r.append hd);have hl:(Value.ref (s.heap.objs.size+1)::us++ds).length=ps.length:=by
  have e:=r2.length;rw [F.len _ _ _ _ hq]at e;exact e.symm
 refine wpAny_call (aiH (f:=f) I.fK M.makes M.init (sI.mp M.fn) (uA (F.run _ X.stack _ _ ⟨Value.ref (s.heap.objs.size+1)::us,[]⟩ (Value.ref (s.heap.objs.size+1)::(us++ds)) _ _ E (hr.make C us [])
  (I2.OQ.make C us []) (hb _ (Value.ref (s.heap.objs.size+1)::us) I2.fK hl) r2 hq) fun r s' mR=>?_))
 cases r with
 | error e=>exact hx pins σ _ _ e s' I2 mR
 | ok fl =>
  cases fl with
  | ret u =>
   obtain⟨v,H',I3,rv,ev,q3⟩:=I2.after mR;subst ev;exact⟨rv,⟨V.ref (s.heap.objs.size+1),H',I3,rfl,q3⟩⟩
  | next=>exact False.elim mR
  | brk=>exact False.elim mR
  | cont=>exact False.elim mR
theorem af3(M:Mk X.K C f)(F:gC X.prog X.w X.K X.mg X.base CX k f fd ps sp)(hr:cE (k+1) X.A)(hg:Gl X x)(hm:X.mg x=some (.ref C))(hb:Binds X.K fd ps ds)(hd:Vals dvs ds)(hx:Passes CX X E)
  (ha:PA X (e::es) t) (gH:(x == ("__debug__" : Str))=false:=by decide) (he:starEach (e::es) X.env=(false,eval e X.env)::starEach es X.env:=by rfl) (dS:(backTo pos (starEach es X.env)).any (·.1)=false:=by rfl) :
  PE X (.Call (.Name x p) (e::es) [] pos) (Xr C sp dvs E t):=by
 intro pins s σ H Q I h;refine uO (NF I hg hm ?_ gH);refine callWith_K (h₀:=X.base) I.ok.mod.vL M.kp (bA (ha pos pins s σ H _ I h) fun us s1 ⟨vs,H1,I1,r,q⟩=>⟨I1.fK,?_⟩) he dS;exact adW M F hr hb hd hx I1 r q
end
section
variable{X:Cx}{CX:nQ}{k:Nat}{f C:Addr}{fd:FuncData}{ps ks:List Str}{sp:Sp}{E:XK}{x m:Str}{p pos apos atP:Pos}{e o:Expr}{es:List Expr}{kws:List Keyword}{te ta:TE}{t tk:TA}{nm:Option Str}
structure avC(K:Frag)(fd:FuncData)(ps ks:List Str)(g:List Value→List Value→List Value)(gV:List V→List V→List V):Prop where
 to:∀(s:Shared) (us ws:List Value),K.In s.heap→(g us ws).length=ps.length→BindsTo s fd ⟨us,ks.zip ws⟩ (ps.zip (g us ws))
 rel:∀{vs:List V} {us:List Value} {zs:List V} {ws:List Value},Vals vs us→Vals zs ws→Vals (gV vs zs) (g us ws)
variable{g:List Value→List Value→List Value}{gV:List V→List V→List V}
end
structure dI(N P:List Str)(sc:Scope):Prop where
 kind:sc.kind = .function
 co:sc.isCoroutine=false
 gen:sc.isGenerator=false
 nd:N.Nodup
 pre:N.take P.length=P
 par:∀x∈P,sc.names.lookup x=some .local∨sc.names.lookup x=some .cell
 ahR:∀y∈sc.names,y.2 ≠ .free
theorem Rj{kindOf:Str→Option NameKind}{x:Str}:∀{binds:List (Str×Value)} {m:Str→Option Value},(∀v,(x,v)∉binds)→bindL kindOf binds m x=m x
 | [],_,_=>rfl
 | (n,v)::r,m,h=>by
  unfold bindL;rw [Rj fun w hw=>h w (gQ _ hw)];split
  ·have:x≠n:=by rintro rfl;exact h v List.mem_cons_self
   simp [this]
  ·rfl
theorem Rm{kindOf:Str→Option NameKind}{x:Str}:∀{binds:List (Str×Value)} {m:Str→Option Value},(∀v,(x,v)∉binds)→bindC kindOf binds m x=m x
 | [],_,_=>rfl
 | (n,v)::r,m,h=>by
  unfold bindC;rw [Rm fun w hw=>h w (gQ _ hw)];split
  ·rfl
  ·have:x≠n:=by rintro rfl;exact h v List.mem_cons_self
   simp [this]
theorem Rk{kindOf:Str→Option NameKind}{x:Str}{v:Value}:∀{P:List Str} {vs:List Value} {i:Nat} {m:Str→Option Value},P.Nodup→P[i]? = some x→vs[i]? = some v→kindOf x=some .local →
  bindL kindOf (P.zip vs) m x=some v
 | [],_,_,_,_,h,_,_=>by simp at h
 | _::_,[],_,_,_,_,h,_=>by simp at h
 | p::P,w::vs,0,m,nd,h1,h2,hk=>by
  simp at h1 h2;subst h1;subst h2;show bindL kindOf ((p,w)::P.zip vs) m p=_;unfold bindL;rw [Rj fun v hv=>(mX.mp nd).1 (List.of_mem_zip hv).1,if_pos hk];simp
 | p::P,w::vs,i+1,m,nd,h1,h2,hk=>by
  show bindL kindOf ((p,w)::P.zip vs) m x=_;unfold bindL;exact Rk (i:=i) (mX.mp nd).2 (by simpa using h1) (by simpa using h2) hk
theorem Ro{kindOf:Str→Option NameKind}{x:Str}{v:Value}:∀{P:List Str} {vs:List Value} {i:Nat} {m:Str→Option Value},P.Nodup→P[i]? = some x→vs[i]? = some v→kindOf x≠some .local →
  bindC kindOf (P.zip vs) m x=some v
 | [],_,_,_,_,h,_,_=>by simp at h
 | _::_,[],_,_,_,_,h,_=>by simp at h
 | p::P,w::vs,0,m,nd,h1,h2,hk=>by
  simp at h1 h2;subst h1;subst h2;show bindC kindOf ((p,w)::P.zip vs) m p=_;unfold bindC;rw [Rm fun v hv=>(mX.mp nd).1 (List.of_mem_zip hv).1,if_neg hk];simp
 | p::P,w::vs,i+1,m,nd,h1,h2,hk=>by
  show bindC kindOf ((p,w)::P.zip vs) m x=_;unfold bindC;exact Ro (i:=i) (mX.mp nd).2 (by simpa using h1) (by simpa using h2) hk
def start(N:List Str)(vs:List V):St:=vs.map some++List.replicate (N.length - vs.length) none
def rD(CX:nQ)(P:Program)(w:World)(K:Frag)(mg:Str→Option Value)(base:Heap)(N:List Str)(qual:Str)(scope:Scope)(f:Addr)(cd:Value)(A:Around)(outer:List Env)(s:Shared)(H:Hp)(E:XK):Cx where
 prog:=P
 w:=w
 K:=K
 mg:=mg
 base:=base
 A:=A.deeper (envOfC qual scope s.heap.objs.size f cd)
 N:=N
 s₀:=s
 H₀:=H
 env:=envOfC qual scope s.heap.objs.size f cd
 outer:=outer
 stack:=envOfC qual scope s.heap.objs.size f cd::outer
 ex:=[]
 calm:=true
 fn:=fun _=>true
 pn:=[]
 xe:=fun e s'=>wpAny (model P w) (A.deeper (envOfC qual scope s.heap.objs.size f cd)) (leaving (envOfC qual scope s.heap.objs.size f cd) e) (fun _ tF=>CX outer H s E e tF) (fun e' tF=>CX outer H s E e' tF) s'
theorem Qz{sc:Scope}{n:Nat}{x:Str}(h:sc.names.lookup x=some .cell):∃c,(cellsFrom n sc.names []).lookup x=some c:=by
 have q:=PySem.W.cellsFrom_some sc.names n [] (.inl h);exact Option.isSome_iff_exists.mp q
theorem aj2{CX:nQ}{P:Program}{w:World}{K:Frag}{mg:Str→Option Value}{base:Heap}{N ps:List Str}{qual:Str}{scope:Scope}{f:Addr}{cd:Value}{A:Around}{outer:List Env}{s s1:Shared}{H:Hp}{E:XK}{us:List Value}{vs:List V}
  (S:dI N ps scope) (hd:A.handled=none) (e0:AA P w K mg base A outer s H) (hl:vs.length=ps.length) (r:Vals vs us)
  (x:InCallC s s.heap.objs.size (bindL (envOfC qual scope s.heap.objs.size f cd).kindOf (ps.zip us) fun _=>none) (cellsFrom (s.heap.objs.size+1) scope.names []) (bindC (envOfC qual scope s.heap.objs.size f cd).kindOf (ps.zip us) fun _=>none) s1) :
  Inv (rD CX P w K mg base N qual scope f cd A outer s H E) [] (start N vs) H s1:=by
 have dS:ps.length≤N.length:=by have:=congrArg List.length S.pre;rw [DG]at this;omega
 obtain⟨h1,tk,rfl,hk⟩:=x.done;have FN:∀b:Addr,b∉(rD CX P w K mg base N qual scope f cd A outer s H E).ex:=fun b z=>absurd (show b∈([]:List Addr)from z) (by simp);refine⟨⟨e0.mod,S.kind,rfl,rfl,oB _,fun y z c h1 h2=>?_,fun y hy=>?_,fun y c _ h=>?_,fun _=>hd,Around.frames_deeper e0.frames,.inr ⟨rfl,rfl⟩,fun b z=>absurd z (FN b),e0.bs,e0.nX,fun b _ _=>FN b,fun b z=>absurd z (FN b),e0.mU,e0.rB⟩,
  rfl,e0.bare,Un.kept hk,⟨_,x.toInCall.ns,fun i y v h1 h2 h3=>?_⟩,fun y c h=>⟨_,x.cell y c h⟩,e0.aH.fresh bP,fun y c h=>?_,fun p hp=>absurd (show p∈([]:List (Addr×Obj))from hp) (by simp),e0.aH.kept hk,?_⟩
 ·exact name_of_addr x.apart (PySem.mem_of_lookup h1) (PySem.mem_of_lookup h2)
 ·have hy:scope.names.lookup y=some .cell∨scope.names.lookup y=some .free:=hy
  rcases hy with hy | hy
  ·exact Qz hy
  ·exact absurd rfl (S.ahR _ (PySem.mem_of_lookup hy))
 ·exact QL (x.above y c (PySem.mem_of_lookup h))
 ·have hi:i<vs.length:=by
   unfold start at h2
   by_cases hi:i<vs.length
   ·exact hi
   ·rw [nP (by simpa using hi)]at h2;rw [List.getElem?_replicate]at h2;split at h2 <;> cases h2
  have ha:vs[i]? = some v:=by
   unfold start at h2;rw [fV (by simpa using hi),gK]at h2;cases e:vs[i]? with
   | none=>rw [e]at h2;cases h2
   | some a=>rw [e]at h2;cases h2;rfl
  obtain⟨u,hu,rv⟩:=r.get ha;have hp:ps[i]? = some y:=by
   rw [← S.pre,List.getElem?_take_of_lt (by omega)];exact h1
  have Ll:ps.Nodup:=by rw [← S.pre];exact S.nd.sublist (List.take_sublist _ _)
  refine⟨u,rv,?_⟩
  rcases S.par y (qF hp)with k | k
  ·exact .inl ⟨k,Rk Ll hp hu k⟩
  ·obtain⟨c,e⟩:=Qz (n:=s.heap.objs.size+1) k;refine .inr ⟨.inl k,c,e,?_⟩;have q:=x.cell y c e;rw [Ro Ll hp hu (by show scope.names.lookup y≠_;rw [k];decide)]at q;exact q
 ·exact e0.aH.fresh (QL (x.above y c (PySem.mem_of_lookup h)))
 ·unfold start;show _=N.length;rw [sP,eG,Ud];omega
theorem HY{CX:nQ}{P:Program}{w:World}{K:Frag}{mg:Str→Option Value}{base:Heap}{k:Nat}{f:Addr}{name qual:Str}{params:Arguments}{body:List Stmt}{scope:Scope}{dV kV doc pm aV ct oc:Value}{an od:Option Addr}
  {iQ:Array (Option Value)} {N ps:List Str} {sp:Sp} (lk:K.lookup f=some ⟨oc,od,.func (fnOf name qual params body scope dV kV doc pm an aV ct),iQ⟩) (kB:codeIn K aV qual=true) (S:dI N ps scope)
  (len:∀vs H Q E,sp vs H Q E→vs.length=ps.length)
  (kD:∀(A:Around) (outer:List Env) (s:Shared) (H:Hp) (vs:List V) (Q:VK) (E:XK),cE k (A.deeper (envOfC qual scope s.heap.objs.size f aV))→sp vs H Q E →
   ∃t,mE (rD CX P w K mg base N qual scope f aV A outer s H E) body t∧t { nx:=fun _ H'=>Q .bH H',rt:=Q } (start N vs) H) :
  gC P w K mg base CX (k+1) f (fnOf name qual params body scope dV kV doc pm an aV ct) ps sp:=by
 refine⟨len,fun A outer s H args us vs Q E hr e0 hb r jZ=>?_⟩;have hl:=len _ _ _ _ jZ;have KX:K.In s.heap:=e0.mod.vL.keeps fun b o e=>(e0.bs b o e).1;have lim:s.heap.NoLimit:=e0.mod.nolimit.keeps fun b o e=>(e0.bs b o e).1;have alD:∀y∈ps.zip us,scope.names.lookup y.1=some .local∨(scope.names.lookup y.1=some .cell∧((cellsFrom (s.heap.objs.size+1) scope.names []).lookup y.1).isSome=true):=fun⟨n,v⟩ hy=>by
  rcases S.par n (List.of_mem_zip hy).1 with q | q
  ·exact .inl q
  ·exact .inr ⟨q,PySem.W.cellsFrom_some _ _ _ (.inl q)⟩
 refine codeAny_call_function hr.depth (KX _ _ lk) rfl S.co S.gen rfl (PySem.W.codeRec_of KX kB) (hb _ _ _ _ ?_);refine wpAny_newFunctionEnv_cells S.kind alD fun env he s1 x=>?_;subst he;refine⟨lim.keeps x.toInCall.keep,codeAny_func ?_⟩;obtain⟨t,ht,hq⟩:=kD A outer s H vs Q E (hr.deeper _) jZ;have I:Inv (rD CX P w K mg base N qual scope f aV A outer s H E) [] (start N vs) H s1:=aj2 S hr.hd e0 hl r x;refine lF (ht [] s1 (start N vs) H _ I hq) (fun fl s' hs=>?_) fun e s' hs=>hs;have fin:∀{σ':St} {H':Hp} {v:V} {u:Value},Inv (rD CX P w K mg base N qual scope f aV A outer s H E) [] σ' H' s'→RelV v u→Q v H'→CE outer P w H s Q u s' :=
  fun{σ' H' v u} J rv q=>⟨v,H',J.os,J.bare,J.base,J.aH,rv,q⟩
 cases fl with
 | ret u =>
  obtain⟨v,σ',H',J,rv,q⟩:=hs;exact fin J rv q
 | next =>
  obtain⟨σ',H',J,q⟩:=hs;exact fin (v:=V.bH) (u:=Value.none) J rfl q
 | brk =>
  obtain⟨_,_,_,q⟩:=hs;exact False.elim q
 | cont =>
  obtain⟨_,_,_,q⟩:=hs;exact False.elim q
section
variable{X:Cx}{x:Str}{p pos:Pos}{e:Expr}{es:List Expr}{t:TA}{id T:String}{r:List V→Hp→VK→Prop}
def SX(r:List V→Hp→VK→Prop)(t:TA):TE:=fun σ H Q=>t σ H fun vs H1=>r vs H1 Q
theorem MP(hc:jR X (.builtin id) r)(hg:Gl X x)(hm:X.mg x=none)(hv:bootBuiltins x=some (.builtin id))(ha:PA X (e::es) t)(hn:x ≠ "__name__":=by decide)(gH:(x == ("__debug__" : Str))=false:=by decide)
  (he:starEach (e::es) X.env=(false,eval e X.env)::starEach es X.env:=by rfl) (dS:(backTo pos (starEach es X.env)).any (·.1)=false:=by rfl):PE X (.Call (.Name x p) (e::es) [] pos) (SX r t):=by
 intro pins s σ H Q I h;refine uO (tL I hg hm hv ?_ hn gH);exact PyProof.Rows.callWith_builtin1 (bA (ha pos pins s σ H _ I h) fun us s1 ⟨vs,H1,I1,r1,q1⟩=>hc pins s1 σ H1 vs us Q I1 r1 q1) he dS
theorem MO(hc:jR X (.type T) r)(hg:Gl X x)(hm:X.mg x=none)(hv:bootBuiltins x=some (.type T))(ha:PA X (e::es) t)(hn:x ≠ "__name__":=by decide)(gH:(x == ("__debug__" : Str))=false:=by decide)
  (he:starEach (e::es) X.env=(false,eval e X.env)::starEach es X.env:=by rfl) (dS:(backTo pos (starEach es X.env)).any (·.1)=false:=by rfl):PE X (.Call (.Name x p) (e::es) [] pos) (SX r t):=by
 intro pins s σ H Q I h;refine uO (tL I hg hm hv ?_ hn gH);exact QK (bA (ha pos pins s σ H _ I h) fun us s1 ⟨vs,H1,I1,r1,q1⟩=>hc pins s1 σ H1 vs us Q I1 r1 q1) he dS
end
end L2
namespace HT
open PySem PyProof.Rows
section
variable{prog:Program}{w:World}{A:Around}{E:Value→Shared→Prop}{s:Shared}
theorem aqB{t b:Addr}{vs ws:List Value}{Q:Value→Shared→Prop}(ht:IsTup s.heap t vs.toArray)(hb:IsTup s.heap b ws.toArray)(hv:vs≠[])
  (h1:ws=[]→Q (.ref t) s) (h2:ws≠[]→Q (.ref s.heap.objs.size) { s with heap:=s.heap.push { cls := .type "tuple",data := .seq (vs++ws).toArray } })
  (hsz:vs.length+ws.length≤sizeLine):wpAny (model prog w) A (binaryOp .Add (.ref t) (.ref b)) Q E s:=by
 obtain⟨⟨cls,dd,data,sl⟩,ho,hc,n,hd⟩:=id ht;obtain⟨⟨auZ,Qg,data2,Jc⟩,sC,OE,n2,hd2⟩:=id hb;simp only at hc hd OE hd2;subst hc hd OE hd2;have e:vs.toArray++ws.toArray=(vs++ws).toArray:=by simp
 by_cases hw:ws=[]
 ·exact concat_meets ⟨_,ho,rfl⟩ ⟨_,sC,rfl⟩ noFill_tuple_add seq_tuple_add PySem.F.slot_tuple_add PySem.F.entry_tuple_add (PySem.F.args_tuple_add_2 _ _)
   (tuple_addW1 t b vs.toArray ws.toArray n n2 dd Qg sl Jc (by simpa using hv) (by simp [hw])) ⟨ho,sC,h1 hw⟩
 ·refine concat_meets ⟨_,ho,rfl⟩ ⟨_,sC,rfl⟩ noFill_tuple_add seq_tuple_add PySem.F.slot_tuple_add PySem.F.entry_tuple_add (PySem.F.args_tuple_add_2 _ _)
   (tuple_addW2 t b vs.toArray ws.toArray n n2 dd Qg sl Jc (by simpa using hv) (by simpa using hw) (by rw [fU,fU];exact hsz)) ⟨ho,sC,?_⟩
  rw [e];exact h2 hw
def cJ(n d:Nat):Option Int→Nat
 | none=>d
 | some v=>if v<0 then(v+(n:Int)).toNat else min v.toNat n
theorem Jm(n d:Nat):cJ n d none=d:=rfl
theorem ME(n d k:Nat):cJ n d (some (k:Int))=min k n:=by
 show(if(k:Int)<0 then((k:Int)+(n:Int)).toNat else min (k:Int).toNat n)=min k n;rw [if_neg (by omega),zR]
theorem adS(n d:Nat)(hd:d≤n)(o:Option Int):cJ n d o≤n:=by
 cases o with
 | none=>exact hd
 | some v =>
  show(if v<0 then(v+(n:Int)).toNat else min v.toNat n)≤n
  by_cases hv:v<0
  ·rw [if_pos hv];omega
  ·rw [if_neg hv];exact Nat.min_le_right _ _
theorem Qt(v:Int)(n d:Nat):(if v<0 then max (v+(n:Int)) 0 else min v (n:Int))=((cJ n d (some v):Nat):Int):=by
 show(if v<0 then max (v+(n:Int)) 0 else min v (n:Int))=(((if v<0 then(v+(n:Int)).toNat else min v.toNat n):Nat):Int)
 by_cases hv:v<0
 ·simp only [if_pos hv];omega
 ·simp only [if_neg hv];omega
theorem arI(lo hi:Option Int)(n:Nat):Builtin.Slice.sliceAdjust lo hi 1 (n:Int)=(((cJ n 0 lo:Nat):Int),((cJ n n hi:Nat):Int)):=by
 have h1:¬((1:Int)<0):=by omega
 unfold Builtin.Slice.sliceAdjust;simp only [h1,iX];refine Prod.ext ?_ ?_
 ·cases lo with
  | none=>rfl
  | some v=>exact Qt v n 0
 ·cases hi with
  | none=>rfl
  | some v=>exact Qt v n n
theorem afH(i j:Nat):Builtin.Slice.slicePlaces (i:Int) (j:Int) 1=j - i:=by
 unfold Builtin.Slice.slicePlaces;have h1:(1:Int)>0:=by omega
 simp only [h1,jI,Int.ediv_one];split <;> omega
theorem Jb{v:Value}{o:Option Int}{Q:Option Int→Shared→Prop}(p:IsPart v o)(h:Q o s):wpAny (model prog w) A (Builtin.Slice.slicePartIndex v) Q E s:=by
 cases p with
 | none=>exact slicePart_none h
 | int i t=>exact slicePart_int h
theorem acS{sl:Addr}{vl vu:Value}{lo hi:Option Int}{n:Nat}{Q:Int×Int×Nat→Shared→Prop}(hs:s.heap.IsSliceOf sl vl vu .none)(pl:IsPart vl lo)(pu:IsPart vu hi)
  (h:Q (((cJ n 0 lo:Nat):Int),1,cJ n n hi - cJ n 0 lo) s):wpAny (model prog w) A (Builtin.Slice.sliceApplied (.ref sl) (pure (n:Int))) Q E s:=by
 obtain⟨os,gA,Ny,gG⟩:=id hs;unfold Builtin.Slice.sliceApplied Builtin.Slice.sliceFields;refine aF (aF (wW gA gG (x:=vl) rfl (aF (wW gA gG (x:=vu) rfl (aF (wW gA gG (x := .none) rfl (aS ?_)))))));refine aF (slicePart_none ?_);show wpAny _ _ (if((1:Int) == 0)=true then _ else _) _ _ s;rw [if_neg (by decide)];refine aF (Jb pl (aF (Jb pu (aF (aS ?_)))));show wpAny _ _ (match Builtin.Slice.sliceAdjust lo hi 1 (n:Int)with | (lo,hi)=>pure (lo,(1:Int),Builtin.Slice.slicePlaces lo hi 1)) _ _ s;rw [arI lo hi n];show wpAny _ _ (pure (((cJ n 0 lo:Nat):Int),(1:Int),Builtin.Slice.slicePlaces ((cJ n 0 lo:Nat):Int) ((cJ n n hi:Nat):Int) 1)) _ _ s;rw [afH];exact aS h
theorem afK(xs:Array Value)(i k:Nat):((List.range k).filterMap fun(m:Nat)=>xs[((i:Int)+(m:Int)*1).toNat]?).toArray=((xs.toList.drop i).take k).toArray:=by
 have e:(fun(m:Nat)=>xs[((i:Int)+(m:Int)*1).toNat]?)=fun m=>xs[i+m]?:=by
  funext m;have:((i:Int)+(m:Int)*1).toNat=i+m:=by omega
  rw [this]
 rw [e];have:=pick_run xs i k;rw [Ez]at this;have e2:((fun x=>xs[x]?) ∘ fun x=>i+x)=fun m=>xs[i+m]?:=rfl;rw [e2]at this;rw [this]
theorem anA{t sl:Addr}{items:Array Value}{vl vu:Value}{lo hi:Option Int}{Q:Value→Shared→Prop}(ht:IsTup s.heap t items)(hs:s.heap.IsSliceOf sl vl vu .none)(pl:IsPart vl lo)(pu:IsPart vu hi)
  (hw:¬(cJ items.size 0 lo=0∧cJ items.size items.size hi=items.size))
  (h:Q (.ref s.heap.objs.size) { s with heap:=s.heap.push { cls := .type "tuple",data := .seq ((items.toList.drop (cJ items.size 0 lo)).take (cJ items.size items.size hi - cJ items.size 0 lo)).toArray } })
  (hsz:items.size≤sizeLine):wpAny (model prog w) A (getItem (.ref t) (.ref sl)) Q E s:=by
 have NQ:sizeOk (.seq ((items.toList.drop (cJ items.size 0 lo)).take (cJ items.size items.size hi - cJ items.size 0 lo)).toArray):=by
  show((items.toList.drop (cJ items.size 0 lo)).take (cJ items.size items.size hi - cJ items.size 0 lo)).toArray.size≤sizeLine;rw [fU,DG,List.length_drop,lE];omega
 have hj:cJ items.size items.size hi≤items.size:=adS _ _ bP hi;obtain⟨os,gA,Ny,gG⟩:=id hs;have hTs:s.TypeIs (.ref sl) "slice":=⟨os,gA,Ny⟩;unfold getItem
 try with_reducible refine oH ?_
 first | refine aF (aS ?_) | skip
 refine aF (wpAny_sequenceKey ht.typeIs (by decide) ?_);refine aF (AF (name:=Str.ofString "__getitem__") ht.typeIs Te
  (pI Te ht.typeIs entry_tuple_getitem ?_ (args_tuple_getitem _ _)))
 show wpAny _ _ (Builtin.Tuple.tupleItemsOf (.ref t) >>= _) _ _ s;refine aF (tupleItemsOf_ ht ?_);refine aF (KD hTs ?_);rw [if_pos (by decide)];refine aF (acS hs pl pu ?_);have tQ:¬((((cJ items.size 0 lo:Nat):Int) == 0&&(1:Int) == 1&&(cJ items.size items.size hi - cJ items.size 0 lo) == items.size)=true):=by
  intro q;rw [kR,kR]at q;have q1:((cJ items.size 0 lo:Nat):Int)=0:=eq_of_beq q.1.1;have q2:cJ items.size items.size hi - cJ items.size 0 lo=items.size:=eq_of_beq q.2;exact hw ⟨by omega,by omega⟩
 show wpAny _ _ (if(((cJ items.size 0 lo:Nat):Int) == 0&&(1:Int) == 1&&(cJ items.size items.size hi - cJ items.size 0 lo) == items.size)=true then _ else _) _ _ s;rw [if_neg tQ,afK]
 first
  | exact aF (m:=Builtin.Tuple.tupleExact _) (mK (aS ⟨_,rfl,aS h⟩) NQ)
  | exact aF (m:=Builtin.Tuple.tupleExact _) (mK (aF (aS (aS ⟨_,rfl,aS h⟩))) NQ)
  | exact aF (aF (m:=Builtin.Tuple.tupleExact _) (mK (aS (aS ⟨_,rfl,aS h⟩)) NQ))
  | exact aF (aF (m:=Builtin.Tuple.tupleExact _) (mK (aS ⟨_,rfl,aS h⟩) NQ))
end
end HT
namespace L2
open PySem PySem.Spec PyProof.Rows
abbrev TO:=St→Hp→(Option Int→Hp→Prop)→Prop
def PO(X:Cx)(e:Option Expr)(t:TO):Prop :=
 ∀(pins:List (Addr×Obj)) (s:Shared) (σ:St) (H:Hp) (Q:Option Int→Hp→Prop),Inv X pins σ H s→t σ H Q →
  wpAny (model X.prog X.w) X.A (evalPart e X.env) (fun u s'=>∃o H',Inv X pins σ H' s'∧IsPart u o∧Q o H') X.xe s
def Xo:TO:=fun _ H Q=>Q none H
def Xk(t:TE):TO:=fun σ H Q=>t σ H fun x H1=>∃i,x = .int i∧Q (some i) H1
theorem intsAre_of{ns:List Int}:∀{us:List Value},Vals (ns.map V.int) us→IntsAre us ns:=by
 induction ns with
 | nil=>intro us r;rw [qG]at r;cases r;exact .nil
 | cons n ns ih =>
  intro us r;rw [cX]at r;cases r with
  | cons r1 r2 =>
   obtain⟨t,e⟩:=r1;subst e;exact .cons n t (ih r2)
section
variable{X:Cx}{e:Expr}{te:TE}{lo hi:Option Expr}{tl th:TO}{pos p2:Pos}
theorem afG:PO X none Xo:=by
 intro pins s σ H Q I h;rw [evalPart_none];exact aS ⟨none,H,I,.none,h⟩
theorem afF(h:PE X e te):PO X (some e) (Xk te):=by
 intro pins s σ H Q I hw;rw [evalPart_some];refine bA (h pins s σ H _ I hw) fun u s1 ⟨x,H1,I1,r1,q1⟩=>?_;obtain⟨i,rfl,q⟩:=q1;obtain⟨t,rfl⟩:=r1;exact⟨some i,H1,I1,.int i t,q⟩
def zJ(X:Cx)(r:V→Option Int→Option Int→Hp→VK→Prop):Prop :=
 ∀(pins:List (Addr×Obj)) (s:Shared) (σ:St) (H:Hp) (x:V) (v vl vu:Value) (lo hi:Option Int) (sl:Addr) (Q:VK),Inv X pins σ H s→RelV x v→s.heap.IsSliceOf sl vl vu .none→IsPart vl lo→IsPart vu hi→r x lo hi H Q →
  ∃T id,typeLookup (.type T) "__getitem__" = pure (some (.builtin id))∧s.TypeIs v T∧wpAny (model X.prog X.w) X.A (getItem v (.ref sl)) (EP X pins σ Q) X.xe s
theorem zJ.or{r r':V→Option Int→Option Int→Hp→VK→Prop}(h:zJ X r)(h':zJ X r'):zJ X (fun x lo hi H Q=>r x lo hi H Q∨r' x lo hi H Q):=by
 intro pins s σ H x v vl vu lo hi sl Q I rx hs pl pu q
 rcases q with q | q
 ·exact h pins s σ H x v vl vu lo hi sl Q I rx hs pl pu q
 ·exact h' pins s σ H x v vl vu lo hi sl Q I rx hs pl pu q
def Xi(r:V→Option Int→Option Int→Hp→VK→Prop)(te:TE)(tl th:TO):TE:=fun σ H Q=>te σ H fun x H1=>tl σ H1 fun l H2=>th σ H2 fun u H3=>r x l u H3 Q
theorem afV{r:V→Option Int→Option Int→Hp→VK→Prop}(hr:zJ X r)(he:PE X e te)(hl:PO X lo tl)(hu:PO X hi th):PE X (.Subscript e (.Slice lo hi none p2) pos) (Xi r te tl th):=by
 intro pins s σ H Q I h;refine Subscript_ (bA (he pins s σ H _ I h) fun v s1 ⟨x,H1,I1,r1,q1⟩=>?_);refine wpAny_Slice (bA (hl pins s1 σ H1 _ I1 q1) fun vl s2 ⟨l,H2,I2,pl,q2⟩=>bA (hu pins s2 σ H2 _ I2 q2) fun vu s3 ⟨u,H3,I3,pu,q3⟩=>?_);rw [evalPart_none];refine aS ?_;have I4:Inv X pins σ H3 { s3 with heap:=s3.heap.push { cls := .type "slice",data := .fields #[vl,vu,.none] } }:=I3.kept (t':=s3.toks) fun b ob q=>cH _ q;obtain⟨T,id,hT,ht,hg⟩:=hr pins { s3 with heap:=s3.heap.push { cls := .type "slice",data := .fields #[vl,vu,.none] } } σ H3 x v vl vu l u s3.heap.objs.size Q I4 r1 (Heap.IsSliceOf.new ..) pl pu q3;show wpAny (model X.prog X.w) X.A (subscriptTail e (.Slice lo hi none p2) v (.ref s3.heap.objs.size)) (EP X pins σ Q) X.xe { s3 with heap:=s3.heap.push { cls := .type "slice",data := .fields #[vl,vu,.none] } };exact tail_any (ops:=[.ref s3.heap.objs.size,v]) ht hT hg (by with_unfolding_all rfl)
def wD(xs:List V)(lo hi:Option Int):List V:=(xs.drop (HT.cJ xs.length 0 lo)).take (HT.cJ xs.length xs.length hi - HT.cJ xs.length 0 lo)
theorem Qn(xs:List V)(lo hi:Option Int):(wD xs lo hi).length≤xs.length:=by
 unfold wD;rw [DG,List.length_drop];omega
def ad6(K:Frag):V→Option Int→Option Int→Hp→VK→Prop:=fun x lo hi H Q=>∃a xs,x = .ref a∧fM K H a xs ∧
 ¬(HT.cJ xs.length 0 lo=0∧HT.cJ xs.length xs.length hi=xs.length)∧∀p,H p=none→Q (.ref p) (upd H p (.tup (wD xs lo hi)))
theorem acT:zJ X (ad6 X.K):=by
 intro pins s σ H x v vl vu lo hi sl Q I rx hs pl pu h;obtain⟨a,xs,rfl,hx,hw,q⟩:=h;cases rx;obtain⟨aL,r,ht,hz⟩:=I.tuple hx;have hlen:aL.toArray.size=xs.length:=by rw [fU];exact r.length.symm
 refine⟨"tuple",_,Te.lookup,ht.typeIs,?_⟩;refine HT.anA ht hs pl pu (by rw [hlen];exact hw) ?_ (by rw [hlen];exact hz);rw [hlen];refine⟨.ref s.heap.objs.size,_,I.laid (t':=s.toks) (o := .tup (wD xs lo hi)) (fun b ob q=>cH _ q) bP ?_,rfl,q _ (I.aH.fresh bP)⟩;exact⟨qD (Qn xs lo hi) hz,_,(r.drop (HT.cJ xs.length 0 lo)).take (HT.cJ xs.length xs.length hi - HT.cJ xs.length 0 lo),IsTup.new _ _⟩
def aeA(K:Frag):R2:=fun x y H Q=>∃a b xs ys,x = .ref a∧y = .ref b∧fM K H a xs∧fM K H b ys∧xs≠[]∧xs.length+ys.length≤sizeLine ∧
 (ys=[]→Q (.ref a) H)∧(ys≠[]→∀p,H p=none→Q (.ref p) (upd H p (.tup (xs++ys))))
theorem Vals.WE{xs:List V}{us:List Value}(r:Vals xs us):us=[]↔xs=[]:=by
 cases r with
 | nil=>simp
 | cons _ _=>simp
theorem ag7:gB X (binaryOp .Add) (aeA X.K):=by
 intro pins s σ H x y v u Q I rx ry h;obtain⟨a,b,xs,ys,rfl,rfl,ha,hb,hx,hz,q1,q2⟩:=h;cases rx;cases ry;obtain⟨aL,r1,p1,_⟩:=I.tuple ha;obtain⟨NJ,r2,p2,_⟩:=I.tuple hb;refine HT.aqB p1 p2 (fun z=>hx (r1.WE.mp z)) (fun z=>⟨.ref a,H,I,rfl,q1 (r2.WE.mp z)⟩) (fun z=>?_) (by rw [← r1.length,← r2.length];exact hz);refine⟨.ref s.heap.objs.size,_,I.laid (t':=s.toks) (o := .tup (xs++ys)) (fun b ob q=>cH _ q) bP ?_,rfl,q2 (fun w=>z (r2.WE.mpr w)) _ (I.aH.fresh bP)⟩;exact⟨by rw [sP];exact hz,_,r1.append r2,IsTup.new _ _⟩
end
def qU(n:Nat)(i:Int):Option Nat:=if 0≤i then(if i<n then some i.toNat else none)else if -(n:Int)≤i then some (i+n).toNat else none
def jO{α:Type}(xs:List α)(i:Int):Option α:=(qU xs.length i).bind fun j=>xs[j]?
theorem Mn{n:Nat}{i:Int}{j:Nat}(h:qU n i=some j):seqIndex? i n=some j∧j<n∧-(n:Int)≤i∧i<n:=by
 unfold qU at h
 by_cases h0:0≤i
 ·rw [if_pos h0]at h
  by_cases h1:i<n
  ·rw [if_pos h1]at h;have e:i.toNat=j:=mF h;exact⟨by rw [seqIndex_of h0 h1,e],by omega,by omega,h1⟩
  ·rw [if_neg h1]at h;cases h
 ·rw [if_neg h0]at h
  by_cases h1 : -(n:Int)≤i
  ·rw [if_pos h1]at h;have e:(i+n).toNat=j:=mF h;exact⟨by rw [seqIndex_neg (by omega) h1,e],by omega,h1,by omega⟩
  ·rw [if_neg h1]at h;cases h
theorem Dp{α:Type}{xs:List α}{i:Int}{v:α}(h:jO xs i=some v):∃j,seqIndex? i xs.length=some j∧xs[j]? = some v∧j<xs.length∧-(xs.length:Int)≤i∧i<xs.length:=by
 unfold jO at h;cases e:qU xs.length i with
 | none=>rw [e]at h;cases h
 | some j =>
  rw [e]at h;obtain⟨h1,h2,h3,h4⟩:=Mn e;exact⟨j,h1,h,h2,h3,h4⟩
def Tg(b:Expr):Prop:=∀o i,subscripted b false o i=operate [o,i] (getItem o i)
def uH(X:Cx)(r:R2):Prop :=
 ∀(value slice:Expr) (pins:List (Addr×Obj)) (s:Shared) (σ:St) (H:Hp) (x y:V) (v u:Value) (Q:VK),Inv X pins σ H s→RelV x v→RelV y u→r x y H Q →
  subscripted slice false v u=operate [v,u] (getItem v u)→wpAny (model X.prog X.w) X.A (subscriptTail value slice v u) (EP X pins σ Q) X.xe s
def CY(X:Cx)(id:String)(r:V→List V→Hp→VK→Prop):Prop :=
 ∀(pins:List (Addr×Obj)) (s:Shared) (σ:St) (H:Hp) (x:V) (xs:List V) (v:Value) (us:List Value) (Q:VK),Inv X pins σ H s→RelV x v→Vals xs us→r x xs H Q →
  wpAny (model X.prog X.w) X.A (call (.builtin id) (v::us)) (EP X pins σ Q) X.xe s
section
variable{X:Cx}{a b:Expr}{ta tb:TE}{pos:Pos}
theorem uH.or{r r':R2}(h:uH X r)(h':uH X r'):uH X (fun x y H Q=>r x y H Q∨r' x y H Q):=by
 intro value slice pins s σ H x y v u Q I rx ry q hs
 rcases q with q | q
 ·exact h value slice pins s σ H x y v u Q I rx ry q hs
 ·exact h' value slice pins s σ H x y v u Q I rx ry q hs
theorem CY.or{id:String}{r r':V→List V→Hp→VK→Prop}(h:CY X id r)(h':CY X id r'):CY X id (fun x xs H Q=>r x xs H Q∨r' x xs H Q):=by
 intro pins s σ H x xs v us Q I rx rs q
 rcases q with q | q
 ·exact h pins s σ H x xs v us Q I rx rs q
 ·exact h' pins s σ H x xs v us Q I rx rs q
theorem af8{r:R2}(hr:uH X r)(ha:PE X a ta)(hb:PE X b tb)(hs:Tg b):PE X (.Subscript a b pos) (EL r ta tb):=by
 intro pins s σ H Q I h;exact Subscript_ (Cs ha hb I h fun v u s2 x y H2 I2 rx ry q=>hr a b pins s2 σ H2 x y v u Q I2 rx ry q (hs _ _))
def Ka(K:Frag):R2:=fun x y H Q=>∃p xs i v,x = .ref p∧y = .int i∧eX K H p xs∧jO xs i=some v∧Q v H
def Jy(K:Frag):R2:=fun x y H Q=>∃p xs i v,x = .ref p∧y = .int i∧fM K H p xs∧jO xs i=some v∧Q v H
def Jz:R2:=fun x y H Q=>∃z i c,x = .str z∧y = .int i∧z.length≤sizeLine∧jO z.cps.toList i=some c∧Q (.str ⟨#[c]⟩) H
theorem ajM:uH X (Ka X.K):=by
 intro value slice pins s σ H x y v u Q I rx ry h hs;obtain⟨p,xs,i,z,rfl,rfl,hq,he,q⟩:=h;cases rx;obtain⟨t,rfl⟩:=ry;obtain⟨aL,r,pl,hz⟩:=I.list hq;obtain⟨j,h1,h2,h3,h4,h5⟩:=Dp he;obtain⟨w,ew,qP⟩:=r.get h2;have hl:=r.length;have hn:=FW;have fin:EP X pins σ Q w s:=⟨z,H,I,qP,q⟩
 by_cases h0:0≤i
 ·have hj:i.toNat=j:=by
   rw [seqIndex_of h0 h5]at h1;exact mF h1
  exact item_listR pl.isList h0 (by omega) (by rw [hj];simpa using ew) fin hs
 ·have hj:(i+(aL.toArray.size:Int)).toNat=j:=by
   rw [seqIndex_neg (by omega) h4]at h1;rw [fU,← hl];exact mF h1
  exact subscriptTail_builtinR (x:=w) pl.isList.typeIs slot_list_getitem.lookup
   (wpAny_getItem_list_neg (Q:=fun r s'=>r=w∧EP X pins σ Q r s') pl.isList (by omega) (by rw [fU] <;> omega) (by omega) (by rw [hj];simpa using ew) ⟨rfl,fin⟩) hs
theorem ajJ:uH X (Jy X.K):=by
 intro value slice pins s σ H x y v u Q I rx ry h hs;obtain⟨p,xs,i,z,rfl,rfl,hq,he,q⟩:=h;cases rx;obtain⟨t,rfl⟩:=ry;obtain⟨aL,r,pl,hz⟩:=I.tuple hq;obtain⟨j,h1,h2,h3,h4,h5⟩:=Dp he;obtain⟨w,ew,qP⟩:=r.get h2;have hl:=r.length;have hn:=FW;have fin:EP X pins σ Q w s:=⟨z,H,I,qP,q⟩;exact subscriptTail_builtinR (x:=w) pl.typeIs slot_tuple_getitem.lookup
  (getItem_tuple (j:=j) (Q:=fun r s'=>r=w∧EP X pins σ Q r s') pl (by omega) (by omega) (by rw [fU,← hl];exact h1) (by simpa using ew) ⟨rfl,fin⟩) hs
theorem ajK:uH X Jz:=by
 intro value slice pins s σ H x y v u Q I rx ry h hs;obtain⟨z,i,c,rfl,rfl,hz,he,q⟩:=h;obtain⟨t,rfl⟩:=rx;obtain⟨t',rfl⟩:=ry;obtain⟨j,h1,h2,h3,h4,h5⟩:=Dp he;have hl:z.cps.toList.length=z.length:=by simp [Str.length]
 rw [hl]at h1 h4 h5;have hn:=FW;exact tail_any (typeIs_str s z t) slot_str_getitem.lookup (getItem_str (c:=c) (by
  have e1:decide (i < -(2 ^ 63:Int))=false:=nJ (by omega);have e2:decide (i≥2 ^ 63)=false:=nJ (by omega);rw [e1,e2,Bool.or_false]) (by rw [h1];simpa using h2) ⟨.str ⟨#[c]⟩,H,I.tok _,⟨_,rfl⟩,q⟩) hs
def rIx(K:Frag):R2:=fun x y H Q=>Ka K x y H Q∨Jy K x y H Q∨Jz x y H Q
theorem ajL:uH X (rIx X.K):=ajM.or (ajJ.or ajK)
theorem aiF(aL:List Value)(n j:Nat)(u:Value):Obj.mapSeq (·.setIfInBounds j u) { cls := .type "list",data := .seq aL.toArray n } = { cls := .type "list",data := .seq (aL.set j u).toArray n }:=by
 simp [Obj.mapSeq]
theorem Inv.lst{pins:List (Addr×Obj)}{σ:St}{H:Hp}{s:Shared}{p:Addr}{xs:List V}(I:Inv X pins σ H s)(h:H p=some (.lst xs)) :
  ∃(aL:List Value) (n:Nat),Vals xs aL∧s.heap.get? p=some { cls := .type "list",data := .seq aL.toArray n }∧xs.length≤sizeLine:=by
 obtain⟨z,aL,n,r,e⟩:=I.aH p _ h;exact⟨aL,n,r,e,z⟩
theorem Inv.aiJ{pins:List (Addr×Obj)}{σ:St}{H:Hp}{s:Shared}{p:Addr}{xs ys:List V}{aL its':List Value}{n n':Nat}{f:Obj→Obj}(I:Inv X pins σ H s)(h:H p=some (.lst xs))
  (ho:s.heap.get? p=some { cls := .type "list",data := .seq aL.toArray n }) (hf:f { cls := .type "list",data := .seq aL.toArray n } = { cls := .type "list",data := .seq its'.toArray n' }) (r:Vals ys its') (hz:ys.length≤sizeLine) (t:Nat) :
  Inv X pins σ (upd H p (.lst ys)) { s with heap:=s.heap.update p f,toks:=t }:=by
 have e:(s.heap.update p f).get? p=some { cls := .type "list",data := .seq its'.toArray n' }:=by
  rw [JJ f ho (by rw [hf] <;> rfl),hf]
 refine I.write (x:=p) (e:=p) (by rw [h];trivial) (.inl rfl) (fun b u hb q=>(pG _ _ (bV hb)).trans q) ⟨_,e⟩ ?_;exact⟨hz,its',n',r,e⟩
def ad8:V→V→V→Hp→(Hp→Prop)→Prop:=fun o i v H Q=>∃p xs k j,o = .ref p∧i = .int k∧H p=some (.lst xs)∧qU xs.length k=some j∧Q (upd H p (.lst (xs.set j v)))
theorem set_list:Th X ad8:=by
 intro pins s σ H o i v ov iv u Q I ro ri rv h;obtain⟨p,xs,k,j,rfl,rfl,hp,hj,q⟩:=h;cases ro;obtain⟨t,rfl⟩:=ri;obtain⟨aL,n,r,ho,hz⟩:=I.lst hp;obtain⟨h1,h2,h3,h4⟩:=Mn hj;have hl:=r.length;have hn:=FW;have I':Inv X pins σ (upd H p (.lst (xs.set j v))) { s with heap:=s.heap.update p (Obj.mapSeq (·.setIfInBounds j u)) } :=
  I.aiJ hp ho (aiF aL n j u) (r.set rv j) (by rw [zO];exact hz) s.toks
 by_cases h0:0≤k
 ·have hk:k.toNat=j:=by
   rw [seqIndex_of h0 h4]at h1;exact mF h1
  exact PySem.W.ki_setAt ho h0 (by omega) (by rw [fU,← hl];exact h4) (by rw [hk];exact⟨_,I',q⟩)
 ·have hk:(k+(aL.toArray.size:Int)).toNat=j:=by
   rw [seqIndex_neg (by omega) h3]at h1;rw [fU,← hl];exact mF h1
  exact PySem.W.ki_setBack ho (by omega) (by rw [fU,← hl];exact h3) (by omega) (by rw [hk];exact⟨_,I',q⟩)
theorem acQ(lo hi:Option Int)(n:Nat):(sliceBounds lo hi none n).1=((HT.cJ n 0 lo:Nat):Int)∧(sliceBounds lo hi none n).2.1=((HT.cJ n n hi:Nat):Int)∧(sliceBounds lo hi none n).2.2=1:=by
 refine⟨?_,?_,rfl⟩
 ·cases lo with
  | none=>simp [sliceBounds,HT.cJ]
  | some i =>
   simp only [sliceBounds,HT.cJ,Option.getD_none,show(1:Int)>0 by decide,jI]
   by_cases h:i<0
   ·simp only [h,jI] <;> omega
   ·simp only [h,iX] <;> omega
 ·cases hi with
  | none=>simp [sliceBounds,HT.cJ]
  | some i =>
   simp only [sliceBounds,HT.cJ,Option.getD_none,show(1:Int)>0 by decide,jI]
   by_cases h:i<0
   ·simp only [h,jI] <;> omega
   ·simp only [h,iX] <;> omega
theorem acR(aL:List Value)(lo hi:Option Int):slicePick aL.toArray lo hi none=((aL.drop (HT.cJ aL.length 0 lo)).take (HT.cJ aL.length aL.length hi - HT.cJ aL.length 0 lo)).toArray:=by
 obtain⟨h1,h2,h3⟩:=acQ lo hi aL.toArray.size;unfold slicePick;rw [h1,h2,h3];simp only [sliceRange_one,pick_run,fU] <;> rfl
def ad7(K:Frag):V→Option Int→Option Int→Hp→VK→Prop:=fun x lo hi H Q=>∃a xs,x = .ref a∧eX K H a xs∧∀p,H p=none→Q (.ref p) (upd H p (.lst (wD xs lo hi)))
theorem acU:zJ X (ad7 X.K):=by
 intro pins s σ H x v vl vu lo hi sl Q I rx hs pl pu h;obtain⟨a,xs,rfl,hx,q⟩:=h;cases rx;obtain⟨aL,r,ht,hz⟩:=I.list hx;have hlen:=r.length;refine⟨"list",_,slot_list_getitem.lookup,ht.isList.typeIs,?_⟩;refine wpAny_getItem_list_slice ht.isList hs pl pu .none (by simp) ?_ (by rw [fU] <;> omega);rw [acR,← hlen];refine⟨.ref s.heap.objs.size,_,I.laid (t':=s.toks) (o := .lst (wD xs lo hi)) (fun b ob q=>cH _ q) bP ?_,rfl,q _ (I.aH.fresh bP)⟩;exact⟨qD (Qn xs lo hi) hz,_,0,(r.drop (HT.cJ xs.length 0 lo)).take (HT.cJ xs.length xs.length hi - HT.cJ xs.length 0 lo),eY _ rfl⟩
theorem aqL:jR X (.builtin "len") (fun xs H Q=>∃p ys,xs=[.ref p]∧(eX X.K H p ys∨fM X.K H p ys)∧Q (.int ys.length) H):=by
 intro pins s σ H xs us Q I r h;obtain⟨p,ys,rfl,hq,q⟩:=h;obtain⟨u,rfl,rx⟩:=vals1 r;cases rx;have hn:=FW
 rcases hq with hq | hq
 ·obtain⟨aL,r',pl,hz⟩:=I.list hq;have hlen:=r'.length;exact Calls.call_len_list pl.isList (by simp only [fU] <;> omega) ⟨.int ys.length,H,I.tok _,⟨s.toks+1,by rw [fU,hlen]⟩,q⟩
 ·obtain⟨aL,r',pl,hz⟩:=I.tuple hq;have hlen:=r'.length;exact len_tuple pl (by simp only [fU] <;> omega) ⟨.int ys.length,H,I.tok _,⟨s.toks+1,by rw [fU,hlen]⟩,q⟩
theorem jR.or{f:Value}{r r':List V→Hp→VK→Prop}(h:jR X f r)(h':jR X f r'):jR X f (fun xs H Q=>r xs H Q∨r' xs H Q):=by
 intro pins s σ H xs us Q I rs q
 rcases q with q | q
 ·exact h pins s σ H xs us Q I rs q
 ·exact h' pins s σ H xs us Q I rs q
theorem aqJ:jR X (.type "list") (fun xs H Q=>∃p ys,xs=[.ref p]∧(eX X.K H p ys∨fM X.K H p ys)∧∀l,H l=none→Q (.ref l) (upd H l (.lst ys))):=by
 intro pins s σ H xs us Q I r h;obtain⟨p,ys,rfl,hq,q⟩:=h;obtain⟨u,rfl,rx⟩:=vals1 r;cases rx;have fin:∀(aL:List Value),Vals ys aL→ys.length≤sizeLine→∀(h':Heap) (c':Nat),(∀b o',s.heap.get? b=some o'→h'.get? b=some o') →
   h'.get? s.heap.objs.size=some { cls := .type "list",dict:=none,data := .seq aL.toArray c',slots:=#[] }→EP X pins σ Q (.ref s.heap.objs.size) { s with heap:=h' }:=fun aL r' hz h' c' kp e =>
  ⟨.ref s.heap.objs.size,_,I.laid (t':=s.toks) kp bP (show fN X.prog X.w _ h' _ (.lst ys)from⟨hz,aL,c',r',e⟩),rfl,q _ (I.aH.fresh bP)⟩
 rcases hq with hq | hq
 ·obtain⟨aL,r',pl,hz⟩:=I.list hq;have hlen:=r'.length;obtain⟨o,ho,hc,n,hd⟩:=pl.isList;exact call_list_seq p (.inl rfl) ho hc hd (fun h' c' kp e=>fin aL r' hz h' c' kp e) (by simp only [fU] <;> omega)
 ·obtain⟨aL,r',pl,hz⟩:=I.tuple hq;have hlen:=r'.length;obtain⟨o,ho,hc,n,hd⟩:=pl;exact call_list_seq p (.inr rfl) ho hc hd (fun h' c' kp e=>fin aL r' hz h' c' kp e) (by simp only [fU] <;> omega)
def SG(K:Frag)(T:String)(x:V)(H:Hp):Prop:=match x with
 | .str _=>T = "str"
 | .int _=>T = "int"
 | .ref p=>(T = "list"∧∃xs,eX K H p xs)∨(T = "tuple"∧∃o,K.lookup p=some o∧o.cls = .type "tuple"∧o.dict=none) ∨
   (T = "dict"∧((∃kvs,H p=some (.dK kvs))∨∃kvs,H p=some (.dT kvs)))∨(T = "set"∧∃S n,H p=some (.set S n))
 | _=>False
theorem Wh{pins:List (Addr×Obj)}{σ:St}{H:Hp}{s:Shared}{T:String}{x:V}{v:Value}(I:Inv X pins σ H s)(r:RelV x v)(ty:SG X.K T x H) :
  s.TypeIs v T∧∀a,v = .ref a→∃ob,s.heap.get? a=some ob∧ob.dict=none:=by
 cases x with
 | str z =>
  obtain⟨t,rfl⟩:=r;cases(show T = "str" from ty);exact⟨typeIs_str s z t,fun _ e=>nomatch e⟩
 | int i =>
  obtain⟨t,rfl⟩:=r;cases(show T = "int" from ty);exact⟨typeIs_int s i t,fun _ e=>nomatch e⟩
 | ref p =>
  cases r
  rcases ty with⟨rfl,xs,hq⟩ | ⟨rfl,o,hk,hc,hd⟩ | ⟨rfl,hk⟩ | ⟨rfl,S,n,hk⟩
  ·obtain⟨aL,_,pl,_⟩:=I.list hq;refine⟨pl.isList.typeIs,fun a e=>?_⟩;cases e;obtain⟨o,n,e,c,hd,_⟩:=pl;exact⟨o,e,hd⟩
  ·refine⟨⟨o,I.fK p o hk,hc⟩,fun a e=>?_⟩;cases e;exact⟨o,I.fK _ o hk,hd⟩
  ·have z:∃o,s.heap.get? p=some o∧o.ExactDict:=by
    rcases hk with⟨kvs,hk⟩ | ⟨kvs,hk⟩
    ·obtain⟨_,_,_,_,o,_,_,e,ex,_⟩:=I.aH p _ hk;exact⟨o,e,ex⟩
    ·obtain⟨_,_,_,_,o,_,_,e,ex,_⟩:=I.aH p _ hk;exact⟨o,e,ex⟩
   obtain⟨o,e,ex⟩:=z;refine⟨⟨o,e,ex.1⟩,fun a e2=>?_⟩;cases e2;exact⟨o,e,ex.2.1⟩
  ·obtain⟨o,_,_,_,e,ex,_⟩:=I.aH p _ hk;refine⟨⟨o,e,ex.1⟩,fun a e2=>?_⟩;cases e2;exact⟨o,e,ex.2.1⟩
 | _=>exact False.elim ty
def Yc(K:Frag)(T:String)(r:V→List V→Hp→VK→Prop)(to:TE)(t:TA):TE:=fun σ H Q=>to σ H fun x H1=>SG K T x H1∧t σ H1 fun xs H2=>r x xs H2 Q
variable{o e:Expr}{es:List Expr}{to:TE}{t:TA}{name:Str}{apos jN:Pos}{T id:String}{r:V→List V→Hp→VK→Prop}
theorem agG(pa:PlainAttrs T)(slot:Slot T name id)(YR:typeOf (.builtin id)=pure (.type "method_descriptor"))(hm:CY X id r)(ho:PE X o to)(ha:PA X (e::es) t)
  (iJ:attributeBase o name X.env (eval o X.env)=eval o X.env:=by rfl)
  (ZO:((backTo jN (starEach (e::es) X.env)).all (fun x=>!x.1)&&(backToKw jN (keywordEach [] X.env)).all (fun x=>x.1.isSome)
   && decide ((e::es).length+([]:List Keyword).length+(if([]:List Keyword).isEmpty then 0 else 1)<30))=true:=by rfl)
  (iH:(apos.endLine == jN.line)=true:=by rfl) (hs:starEach (e::es) X.env=(false,eval e X.env)::starEach es X.env:=by rfl) (YX:(backTo jN (starEach es X.env)).any (·.1)=false:=by rfl) :
  PE X (.Call (.Attribute o name apos) (e::es) [] jN) (Yc X.K T r to t):=by
 intro pins s σ H Q I h;refine wpAny_Call_method_late iJ ZO iH rfl (bA (ho pins s σ H _ I h) fun v s1 ⟨x,H1,I1,r1,ty,q1⟩=>?_);obtain⟨h1,h2⟩:=Wh I1 r1 ty;refine⟨T,id,pa,slot,YR,h1,h2,?_⟩;have hA:=ha jN pins s1 σ H1 _ I1 q1;rw [hs]at hA ⊢;refine DP (by show(false||(backTo jN (starEach es X.env)).any (·.1))=false;rw [YX] <;> rfl) (Calls.evalArgs_plain ?_);exact bA hA fun us s2 ⟨vs,H2,I2,r2,q2⟩=>hm pins s2 σ H2 x vs v us Q I2 r1 r2 q2
end
def MtM(X:Cx)(id:String)(r:V→List V→Hp→VK→Prop):Prop :=
 ∀(pins:List (Addr×Obj)) (s:Shared) (σ:St) (H:Hp) (x:V) (xs:List V) (v:Value) (us:List Value) (Q:VK),Inv X pins σ H s→RelV x v→Vals xs us→r x xs H Q →
  wpAny (model X.prog X.w) X.A (call (.builtin id) (v::us)) (EP X pins σ Q) X.xe s
theorem Vals.one:∀{x:V} {us:List Value},Vals [x] us→∃u,us=[u]∧RelV x u
 | _,_,.cons r .nil=>⟨_,rfl,r⟩
theorem Vals.two:∀{x y:V} {us:List Value},Vals [x,y] us→∃u v,us=[u,v]∧RelV x u∧RelV y v
 | _,_,_,.cons r (.cons q .nil)=>⟨_,_,rfl,r,q⟩
theorem Vals.zero:∀{us:List Value},Vals [] us→us=[]
 | _,.nil=>rfl
theorem Vals.reverse{xs:List V}{us:List Value}(h:Vals xs us):Vals xs.reverse us.reverse:=by
 induction h with
 | nil=>exact .nil
 | cons r t ih=>rw [JA,JA];exact Vals.append ih (.cons r .nil)
section
variable{X:Cx}{pins:List (Addr×Obj)}{σ:St}{H:Hp}{s:Shared}{l b:Addr}{xs ys zs:List V}
theorem Inv.WL{aL its':List Value}{n:Nat}{f:Array Value→Array Value}{t':Nat}(I:Inv X pins σ H s)(hH:H l=some (.lst xs))
  (e:s.heap.get? l=some { cls := .type "list",data := .seq aL.toArray n }) (hf:f aL.toArray=its'.toArray) (hv:Vals ys its') (hz:ys.length≤sizeLine) :
  Inv X pins σ (upd H l (.lst ys)) { s with heap:=s.heap.update l (Obj.mapSeq f),toks:=t' }:=by
 have q:=PySem.IsL.update e f;rw [hf]at q;refine I.write (x:=l) (e:=l) (by rw [hH];exact trivial) (.inl rfl) (fun b' u hb hu=>(pG s.heap (Obj.mapSeq f) (bV hb)).trans hu) ⟨_,q⟩ ?_;exact⟨hz,its',_,hv,q⟩
theorem Inv.aiN{aL:List Value}{t':Nat}(I:Inv X pins σ H s)(hv:Vals ys aL)(hz:ys.length≤sizeLine) :
  Inv X pins σ (upd H s.heap.objs.size (.lst ys)) { s with heap:=s.heap.push { cls := .type "list",data := .seq aL.toArray },toks:=t' } :=
 I.laid (fun _ _ q=>cH _ q) bP ⟨hz,aL,0,hv,eY _ rfl⟩
theorem Inv.fresh(I:Inv X pins σ H s):H s.heap.objs.size=none:=I.aH.fresh bP
theorem Inv.FV(I:Inv X pins σ H s)(hH:H l=some (.lst xs)):xs.length≤sizeLine∧∃(aL:List Value) (n:Nat),Vals xs aL∧xs.length=aL.length∧s.heap.get? l=some { cls := .type "list",data := .seq aL.toArray n }:=by
 obtain⟨z,aL,n,r,e⟩:=I.aH l _ hH;exact⟨z,aL,n,r,r.length,e⟩
end
section
variable{X:Cx}
def Kc:V→List V→Hp→VK→Prop:=fun x vs H Q=>∃l xs y,x = .ref l∧vs=[y]∧H l=some (.lst xs)∧xs.length<sizeLine∧Q .bH (upd H l (.lst (xs++[y])))
theorem Ln:MtM X "list.append" Kc:=by
 intro pins s σ H x vs v us Q I rx rv h;obtain⟨l,xs,y,rfl,rfl,hH,hz,q⟩:=h;cases rx;obtain⟨u,rfl,ru⟩:=rv.one;obtain⟨z,aL,n,r,hl,e⟩:=I.FV hH;refine call_meets F.slot_list_append ⟨_,e,rfl⟩ F.entry_list_append (Uq _ _) (PySem.list_append l aL.toArray n u (by rw [fU];omega)) ⟨e,?_⟩;refine⟨.bH,_,I.WL (its':=aL++[u]) hH e (by simp) (r.append (.cons ru .nil)) ?_,rfl,q⟩;rw [sP,List.length_singleton];omega
def Kb:R2:=fun x y H Q=>∃l b xs zs,x = .ref l∧y = .ref b∧H l=some (.lst xs)∧H b=some (.lst zs)∧xs.length+zs.length≤sizeLine∧∀p,H p=none→Q (.ref p) (upd H p (.lst (xs++zs)))
theorem ag8:gB X (binaryOp .Add) Kb:=by
 intro pins s σ H x y v u Q I rx ry h;obtain⟨l,b,xs,zs,rfl,rfl,hH,hB,hz,q⟩:=h;cases rx;cases ry;obtain⟨z,aL,n,r,hl,e⟩:=I.FV hH;obtain⟨z2,NJ,n2,r2,hl2,e2⟩:=I.FV hB;refine PySem.P.add_list e e2 ?_ (by rw [fU,fU];omega);have ea:aL.toArray++NJ.toArray=(aL++NJ).toArray:=by simp
 rw [ea];exact⟨.ref _,_,I.aiN (t':=s.toks) (r.append r2) (by rw [sP];omega),rfl,q _ I.fresh⟩
end
section
variable{κ:Type} [DecidableEq κ]
def jU(kvs:List (κ×V))(k:κ):Option V:=(kvs.find? fun kv=>decide (kv.1=k)).map (·.2)
def putK(kvs:List (κ×V))(k:κ)(v:V):List (κ×V) :=
 if(kvs.any fun kv=>decide (kv.1=k))=true then kvs.map (fun kv=>if kv.1=k then(kv.1,v)else kv)else kvs++[(k,v)]
theorem RY{p:κ×V}{r:List (κ×V)}{k:κ}(e:p.1=k):jU (p::r) k=some p.2:=by simp [jU,DH,e]
theorem RZ{p:κ×V}{r:List (κ×V)}{k:κ}(e:¬p.1=k):jU (p::r) k=jU r k:=by simp [jU,DH,e]
theorem Hf(k:κ):∀kvs:List (κ×V),(kvs.any fun kv=>decide (kv.1=k))=(jU kvs k).isSome
 | []=>rfl
 | p::r=>by
  rw [QQ]
  by_cases e:p.1=k
  ·simp only [RY e,zB e,Bool.true_or,Option.isSome_some]
  ·rw [RZ e,nJ e,Bool.false_or];exact Hf k r
theorem Ma(kvs:List (κ×V))(k:κ)(v:V):(putK kvs k v).length≤kvs.length+1:=by
 unfold putK;split
 ·rw [eG];omega
 ·rw [sP,jP,QO];omega
theorem lP.YK{o:Option V}{u:Option Value}(r:lP o u):o.isSome=u.isSome:=by
 cases o with
 | none=>cases u with
  | none=>rfl
  | some _=>exact(show False from r).elim
 | some _=>cases u with
  | none=>exact(show False from r).elim
  | some _=>rfl
theorem lP.getD{o:Option V}{u:Option Value}{d:V}{d':Value}(r:lP o u)(rd:RelV d d'):RelV (o.getD d) (u.getD d'):=by
 cases o with
 | none=>cases u with
  | none=>exact rd
  | some _=>exact(show False from r).elim
 | some _=>cases u with
  | none=>exact(show False from r).elim
  | some _=>exact r
theorem KV.val{kvs:List (κ×V)}{vs:List (κ×Value)}(r:KV kvs vs)(k:κ):lP (jU kvs k) (valueAt vs k):=by
 unfold KV at r
 induction r with
 | nil=>exact True.intro
 | @cons p q ps qs h t ih =>
  obtain⟨h1,h2⟩:=h
  by_cases e:p.1=k
  ·have e':q.1=k:=h1.symm.trans e;have b:valueAt (q::qs) k=some q.2:=by simp [valueAt,DH,e']
   rw [RY e,b];exact h2
  ·have e':¬q.1=k:=fun z=>e (h1.trans z);have b:valueAt (q::qs) k=valueAt qs k:=by simp [valueAt,DH,e']
   rw [RZ e,b];exact ih
theorem KV.any{kvs:List (κ×V)}{vs:List (κ×Value)}(r:KV kvs vs)(k:κ):(kvs.any fun kv=>decide (kv.1=k))=vs.any fun kv=>decide (kv.1=k):=by
 unfold KV at r
 induction r with
 | nil=>rfl
 | cons h t ih=>rw [QQ,QQ,ih,h.1]
theorem KV.VC{kvs:List (κ×V)}{vs:List (κ×Value)}(r:KV kvs vs)(k:κ){y:V}{u:Value}(ry:RelV y u) :
  KV (kvs.map fun kv=>if kv.1=k then(kv.1,y)else kv) (vs.map fun kv=>if kv.1=k then(kv.1,u)else kv):=by
 unfold KV at r ⊢
 induction r with
 | nil=>exact .nil
 | @cons p q ps qs h t ih =>
  rw [cX,cX];refine .cons ?_ ih;obtain⟨h1,h2⟩:=h
  by_cases e:p.1=k
  ·rw [if_pos e,if_pos (h1.symm.trans e)];exact⟨h1,ry⟩
  ·rw [if_neg e,if_neg (fun z=>e (h1.trans z))];exact⟨h1,h2⟩
theorem KV.put{kvs:List (κ×V)}{vs:List (κ×Value)}(r:KV kvs vs)(k:κ){y:V}{u:Value}(ry:RelV y u):KV (putK kvs k y) (stored vs k u):=by
 unfold putK stored;rw [r.any k]
 by_cases e:(vs.any fun kv=>decide (kv.1=k))=true
 ·rw [if_pos e,if_pos e];exact r.VC k ry
 ·rw [if_neg e,if_neg e];exact Paired.snoc r ⟨rfl,ry⟩
theorem KV.keys{kvs:List (κ×V)}{vs:List (κ×Value)}(r:KV kvs vs):kvs.map (·.1)=vs.map (·.1):=by
 unfold KV at r
 induction r with
 | nil=>rfl
 | cons h t ih=>rw [cX,cX,ih,h.1]
theorem KV.length{kvs:List (κ×V)}{vs:List (κ×Value)}(r:KV kvs vs):kvs.length=vs.length:=Paired.length r
end
theorem BJ{P:Program}{w:World}{k:Key}{u:Value}(r:RelV (kV k) u):(fR P w).is k u=true:=by
 cases k with
 | inl i=>obtain⟨t,e⟩:=(show ∃t,u=Value.int i t from r);subst e;exact aiD P w i t
 | inr x=>obtain⟨t,e⟩:=(show ∃t,u=Value.str x t from r);subst e;exact aiC P w x t
theorem Mq{P:Program}{w:World}:∀{ks:List Key} {us:List Value},Vals (ks.map kV) us→ItemsAre (fR P w) ks us
 | [],_,r=>by rw [qG]at r;cases r;exact .nil
 | k::ks,_,r=>by
  rw [cX]at r;cases r with
  | cons h t=>exact .cons (BJ h) (Mq t)
abbrev KT(H:Hp):List (List Key×V)→List (List Key×Addr×Value)→Prop:=Paired fun p q=>p.1=q.1∧H q.2.1=some (.tup (p.1.map kV))∧RelV p.2 q.2.2
theorem KT.val{H:Hp}{kvs:List (List Key×V)}{xs:List (List Key×Addr×Value)}(r:KT H kvs xs)(k:List Key):lP (jU kvs k) ((atKey xs k).map (·.2)):=by
 induction r with
 | nil=>exact True.intro
 | @cons p q ps qs h t ih =>
  obtain⟨h1,_,h2⟩:=h
  by_cases e:p.1=k
  ·have e':q.1=k:=h1.symm.trans e;have b:atKey (q::qs) k=some q.2:=by simp [atKey,DH,e']
   rw [RY e,b];exact h2
  ·have e':¬q.1=k:=fun z=>e (h1.trans z);have b:atKey (q::qs) k=atKey qs k:=by simp [atKey,DH,e']
   rw [RZ e,b];exact ih
theorem KT.VC{H:Hp}{kvs:List (List Key×V)}{xs:List (List Key×Addr×Value)}(r:KT H kvs xs)(k:List Key){y:V}{u:Value}(ry:RelV y u) :
  KT H (kvs.map fun kv=>if kv.1=k then(kv.1,y)else kv) (xs.map (putAt k u)):=by
 induction r with
 | nil=>exact .nil
 | @cons p q ps qs h t ih =>
  rw [cX,cX];refine .cons ?_ ih;obtain⟨h1,h2,h3⟩:=h;unfold putAt
  by_cases e:p.1=k
  ·rw [if_pos e,if_pos (h1.symm.trans e)];exact⟨h1,h2,ry⟩
  ·rw [if_neg e,if_neg (fun z=>e (h1.trans z))];exact⟨h1,h2,h3⟩
theorem KT.put{H:Hp}{kvs:List (List Key×V)}{xs:List (List Key×Addr×Value)}(r:KT H kvs xs)(k:List Key){b:Addr}{y:V}{u:Value}(hb:H b=some (.tup (k.map kV)))(ry:RelV y u) :
  KT H (putK kvs k y) (storedH xs k b u):=by
 have e:(kvs.any fun kv=>decide (kv.1=k))=(atKey xs k).isSome:=by
  rw [Hf,(r.val k).YK,Option.isSome_map]
 unfold putK storedH;rw [e]
 by_cases q:(atKey xs k).isSome=true
 ·rw [if_pos q,if_pos q];exact r.VC k ry
 ·rw [if_neg q,if_neg q];exact Paired.snoc r ⟨rfl,hb,ry⟩
theorem KT.keeps{H H':Hp}{kvs:List (List Key×V)}{xs:List (List Key×Addr×Value)}(r:KT H kvs xs)(ht:∀b ys,H b=some (.tup ys)→H' b=some (.tup ys)):KT H' kvs xs :=
 Paired.xT r fun _ _ z=>⟨z.1,ht _ _ z.2.1,z.2.2⟩
section
variable{P:Program}{w:World}{H:Hp}{h:Heap}{a:Addr}
theorem Jr{u:HO}(ok:eR P w H h)(e:Rd H a u):fN P w H h a u:=e.ok ok
theorem yZ{kvs:List (Key×V)}(ok:eR P w H h)(e:Rd H a (.dK kvs)):kvs.length≤sizeLine∧(a == sysModules)=false∧∃vs,KV kvs vs∧h.DictOf (fR P w) a vs :=
 show fN P w H h a (.dK kvs)from Jr ok e
theorem zA{kvs:List (Key×V)}(ok:eR P w H h)(e:H a=some (.dK kvs)):kvs.length≤sizeLine∧(a == sysModules)=false∧∃vs,KV kvs vs∧h.DictOf (fR P w) a vs:=yZ ok (.inl e)
theorem FY{ks:List Key}(ok:eR P w H h)(e:H a=some (.tup (ks.map kV))):(tupleKind (fR P w)).is h ks a:=by
 obtain⟨_,aL,r,o,h1,h2,n,h3⟩:=(show fN P w H h a (.tup (ks.map kV))from ok a _ e);exact⟨o,aL.toArray,n,h1,h2,h3,by simpa using Mq r⟩
theorem CF{kvs:List (List Key×V)}(ok:eR P w H h)(e:Rd H a (.dT kvs)):kvs.length≤sizeLine∧(a == sysModules)=false ∧
  ∃xs,KT H kvs xs∧h.DictOfH (tupleKind (fR P w)) a xs:=by
 obtain⟨z,y,xs,r,o,es,ep,h1,h2,h3,h4,h5⟩:=(show fN P w H h a (.dT kvs)from Jr ok e);refine⟨z,y,xs,r,o,es,ep,h1,h2,h3,h4,fun x hx=>?_,h5⟩;have all:∀{l:List (List Key×V)} {m:List (List Key×Addr×Value)},KT H l m→∀x∈m,(tupleKind (fR P w)).is h x.1 x.2.1:=by
  intro l m q
  induction q with
  | nil=>intro x hx;exact nomatch hx
  | @cons p q ps qs hq t ih =>
   intro x hx
   rcases eN.mp hx with e | hx
   ·subst e;exact FY ok (by rw [← hq.1];exact hq.2.1)
   ·exact ih x hx
 exact all r x hx
theorem aoA{kvs:List (List Key×V)}(ok:eR P w H h)(e:H a=some (.dT kvs)):kvs.length≤sizeLine∧(a == sysModules)=false ∧
  ∃xs,KT H kvs xs∧h.DictOfH (tupleKind (fR P w)) a xs:=CF ok (.inl e)
end
def mY(H:Hp)(a:Addr)(y:V)(r:Option V):Prop :=
 (∃kvs k,Rd H a (.dK kvs)∧y=kV k∧r=jU kvs k)∨∃kvs k b,Rd H a (.dT kvs)∧y = .ref b∧H b=some (.tup (k.map kV))∧r=jU kvs k
def AB(H:Hp)(a:Addr)(y v:V)(H':Hp):Prop :=
 (∃kvs k,H a=some (.dK kvs)∧y=kV k∧kvs.length<sizeLine∧H'=upd H a (.dK (putK kvs k v))) ∨
 ∃kvs k b,H a=some (.dT kvs)∧y = .ref b∧H b=some (.tup (k.map kV))∧kvs.length<sizeLine∧H'=upd H a (.dT (putK kvs k v))
theorem mY.k{H:Hp}{a:Addr}{kvs:List (Key×V)}{k:Key}(e:H a=some (.dK kvs)):mY H a (kV k) (jU kvs k) := .inl ⟨kvs,k,.inl e,rfl,rfl⟩
theorem mY.t{H:Hp}{a b:Addr}{kvs:List (List Key×V)}{k:List Key}(e:H a=some (.dT kvs))(eb:H b=some (.tup (k.map kV))):mY H a (.ref b) (jU kvs k) := .inr ⟨kvs,k,b,.inl e,rfl,eb,rfl⟩
theorem AB.k{H:Hp}{a:Addr}{kvs:List (Key×V)}{k:Key}{v:V}(e:H a=some (.dK kvs))(hl:kvs.length<sizeLine):AB H a (kV k) v (upd H a (.dK (putK kvs k v))) := .inl ⟨kvs,k,e,rfl,hl,rfl⟩
theorem AB.t{H:Hp}{a b:Addr}{kvs:List (List Key×V)}{k:List Key}{v:V}(e:H a=some (.dT kvs))(eb:H b=some (.tup (k.map kV)))(hl:kvs.length<sizeLine) :
  AB H a (.ref b) v (upd H a (.dT (putK kvs k v))) := .inr ⟨kvs,k,b,e,rfl,eb,hl,rfl⟩
section
variable{X:Cx}{pins:List (Addr×Obj)}{σ:St}{H:Hp}{s:Shared}{a:Addr}{y v:V}{u r:Value}{o:Option V}{A:Around}{E:Value→Shared→Prop}
theorem Inv.big(I:Inv X pins σ H s):sysModules<s.heap.objs.size:=by
 have h:mainGlobals<s.heap.objs.size:=(I.mod.glob.keeps I.bk).lt;exact Ee (by decide) h
theorem aoP{Q:Value→Shared→Prop}(hu:A.units+1<cLine)(I:Inv X pins σ H s)(g:mY H a y (some v))(ry:RelV y u)(h:∀w' s',Inv X pins σ H s'→RelV v w'→Q w' s') :
  wpAny (model X.prog X.w) A (getItem (.ref a) u) Q E s:=by
 rcases g with⟨kvs,k,e,ey,l⟩ | ⟨kvs,k,b,e,ey,eb,l⟩
 ·subst ey;obtain⟨z,hd,vs,rel,dd⟩:=yZ I.aH e;obtain⟨w',hw,qP⟩:=lP.some_of (v:=v) (o:=valueAt vs k) (by rw [l];exact rel.val k);exact wpAny_getItem_of (BJ ry) dd.mapOf hw (h w' _ (I.tok _) qP)
 ·subst ey;cases(show u=Value.ref b from ry);obtain⟨z,hd,xs,rel,dd⟩:=CF I.aH e;obtain⟨w',hw,qP⟩:=lP.some_of (v:=v) (o:=(atKey xs k).map (·.2)) (by rw [l];exact rel.val k);obtain⟨p,hp,NS⟩:=uD.mp hw;refine wpAny_getItem_heap (SJ hu) (FY I.aH eb) dd hp ?_;rw [NS];exact h w' _ (I.tok _) qP
theorem aoM{Q:Value→Shared→Prop}(hu:A.units+1<cLine)(I:Inv X pins σ H s)(g:mY H a y o)(ry:RelV y u)(h:∀s',Inv X pins σ H s'→Q (.bool (!o.isSome)) s') :
  wpAny (model X.prog X.w) A (compareOp .NotIn u (.ref a)) Q E s:=by
 rcases g with⟨kvs,k,e,ey,l⟩ | ⟨kvs,k,b,e,ey,eb,l⟩
 ·subst ey;obtain⟨z,hd,vs,rel,dd⟩:=yZ I.aH e;refine wpAny_notIn_of (BJ ry) hd dd.mapOf ?_;rw [← (rel.val k).YK,← l];exact h _ (I.tok _)
 ·subst ey;cases(show u=Value.ref b from ry);obtain⟨z,hd,xs,rel,dd⟩:=CF I.aH e;refine wpAny_notIn_heap (SJ hu) (FY I.aH eb) hd dd ?_;have q:=(rel.val k).YK;rw [Option.isSome_map]at q;rw [← q,← l];exact h _ (I.tok _)
theorem Qh{h':Heap}{t':Nat}{ob:HO}(I:Inv X pins σ H s)(mu:IY (H a))(hs:Heap.SameBut a s.heap h')(he:∃q,h'.get? a=some q)(new:fN X.prog X.w (upd H a ob) h' a ob) :
  Inv X pins σ (upd H a ob) { s with heap:=h',toks:=t' } :=
 I.write (x:=a) (e:=a) mu (.inl rfl) (fun b q hb z=>(hs.2 b hb).trans z) he new
theorem Pz{P:Program}{w:World}{H':Hp}{h':Heap}{kvs:List (Key×V)}{vs:List (Key×Value)}(z:kvs.length≤sizeLine)(hd:(a == sysModules)=false)(rel:KV kvs vs)(dd:h'.DictOf (fR P w) a vs) :
  fN P w H' h' a (.dK kvs):=⟨z,hd,vs,rel,dd⟩
theorem aoL{H':Hp}{Q:Unit→Shared→Prop}(hu:A.units+1<cLine)(I:Inv X pins σ H s)(g:AB H a y v H')(ry:RelV y u)(rv:RelV v r)(h:∀s',Inv X pins σ H' s'→Q () s') :
  wpAny (model X.prog X.w) A (setItem (.ref a) u r) Q E s:=by
 rcases g with⟨kvs,k,e,ey,l,eH⟩ | ⟨kvs,k,b,e,ey,eb,l,eH⟩
 ·subst ey eH;obtain⟨z,hd,vs,rel,dd⟩:=zA I.aH e;have hz:vs.length≤sizeLine:=by rw [← rel.length];exact z
  have hl:(putK kvs k v).length≤sizeLine:=by have:=Ma kvs k v;omega
  refine wpAny_setItem_pairs (hsz:=hz) (BJ ry) dd fun h' OU hs=>h _ ?_;have he:∃q,h'.get? a=some q:=let ⟨q,_,_,hq,_⟩:=OU; ⟨q,hq⟩;exact Qh I (by rw [e];exact True.intro) hs he (Pz hl hd (rel.put k rv) OU)
 ·subst ey eH;cases(show u=Value.ref b from ry);obtain⟨z,hd,xs,rel,dd⟩:=aoA I.aH e;have hz:xs.length≤sizeLine:=by rw [← Paired.length rel];exact z
  have hl:(putK kvs k v).length≤sizeLine:=by have:=Ma kvs k v;omega
  refine wpAny_setItem_heap (hsz:=hz) (SJ hu) (FY I.aH eb) dd fun h' OU hs=>h _ ?_;obtain⟨q,es,ep,hq,h2,h3,h4,_,h5⟩:=OU;refine Qh I (by rw [e];exact True.intro) hs ⟨q,hq⟩ ⟨hl,hd,_,(rel.put k eb rv).keeps fun c ys ec=>?_,q,es,ep,hq,h2,h3,h4,h5⟩;rw [aY (rV ec e (fun z=>nomatch z))];exact ec
end
section
variable{X:Cx}{pins:List (Addr×Obj)}{σ:St}{H:Hp}{s:Shared}{a:Addr}{kvs:List (Key×V)}{k:Key}{u:Value}{A:Around}{E:Value→Shared→Prop}
theorem aoN{Q:Value→Shared→Prop}(I:Inv X pins σ H s)(e:Rd H a (.dK kvs))(h:∀t s',Inv X pins σ H s'→Q (.int kvs.length t) s'):wpAny (model X.prog X.w) A (call (.builtin "len") [.ref a]) Q E s:=by
 obtain⟨z,hd,vs,rel,dd⟩:=yZ I.aH e;refine call_len_dict hd dd (by rw [← rel.length];rw [kJ]at z;omega) ?_;rw [← rel.length];exact h _ _ (I.tok _)
end
def Ed(i:Expr):Prop:=∀ov iv,subscripted i false ov iv=operate [ov,iv] (getItem ov iv)
theorem acF{prog:Program}{w:World}{A:Around}{E:Value→Shared→Prop}{s:Shared}{env:Env}{value slice:Expr}{pos:Pos}{T id:String}{Q:Value→Shared→Prop}
  (hl:typeLookup (.type T) "__getitem__" = pure (some (.builtin id))) (hs:Ed slice)
  (h:wpAny (model prog w) A (eval value env) (fun o s₁=>wpAny (model prog w) A (eval slice env) (fun i s₂=>s₂.TypeIs o T∧wpAny (model prog w) A (getItem o i) Q E s₂) E s₁) E s) :
  wpAny (model prog w) A (eval (.Subscript value slice pos) env) Q E s:=by
 refine Subscript_ (lF h (fun o s₁ h₁=>lF h₁ (fun i s₂ h₂=>?_) fun _ _ x=>x) fun _ _ x=>x);obtain⟨hT,h₂⟩:=h₂;unfold subscriptTail;refine aF ?_;rw [getitemInPython_of_ne hT.not_modules];refine aF (wpAny_specialOf hT hl ?_);have fin:wpAny (model prog w) A (subscripted slice false o i) (fun r s₃=>wpAny (model prog w) A (letTemporaryGo value o r >>= fun _=>pure r) Q E s₃) E s₂:=by
  rw [hs o i];exact wpAny_operating (lF h₂ (fun r s₃ h₃=>aF (wpAny_letTemporaryGo (aS h₃))) fun _ _ x=>x)
 first
  | exact aS (aF fin)
  | exact aF (aS (aF fin))
  | exact aF fin
theorem aoH{X:Cx}{pins:List (Addr×Obj)}{σ:St}{H:Hp}{s:Shared}{a:Addr}{y:V}{o:Option V}(I:Inv X pins σ H s)(g:mY H a y o):s.TypeIs (.ref a) "dict":=by
 rcases g with⟨kvs,k,e,_,_⟩ | ⟨kvs,k,b,e,_,_,_⟩
 ·obtain⟨_,_,vs,_,dd⟩:=yZ I.aH e;exact dd.typeIs
 ·obtain⟨_,_,xs,_,dd⟩:=CF I.aH e;exact dd.typeIs
def Xz(td ty:TE):TE:=fun σ H Q=>td σ H fun x H1=>ty σ H1 fun y H2=>∃a v,x = .ref a∧mY H2 a y (some v)∧Q v H2
def Xx(ty td:TE):TE:=fun σ H Q=>ty σ H fun y H1=>td σ H1 fun x H2=>∃a o,x = .ref a∧mY H2 a y o∧Q (.bl o.isSome) H2
def Ie(ty td:TE):TE:=fun σ H Q=>ty σ H fun y H1=>td σ H1 fun x H2=>∃a o,x = .ref a∧mY H2 a y o∧Q (.bl (!o.isSome)) H2
def adU(td ty tv:TE):TS:=fun D σ H=>tv σ H fun v H1=>td σ H1 fun x H2=>ty σ H2 fun y H3=>∃a H4,x = .ref a∧AB H3 a y v H4∧D.nx σ H4
section
variable{X:Cx}{o i e value:Expr}{pos pos' Wt:Pos}{td ty tv:TE}
theorem agC(hu:X.A.units+1<cLine)(ho:PE X o td)(hi:PE X i ty)(hs:Ed i):PE X (.Subscript o i pos) (Xz td ty):=by
 intro pins s σ H Q I h;refine acF PySem.F.slot_dict_getitem.lookup hs (bA (ho pins s σ H _ I h) fun u s1 ⟨x,H1,I1,rx,q1⟩=>bA (hi pins s1 σ H1 _ I1 q1) fun iv s2 ⟨y,H2,I2,ry,a,v,ex,g,q2⟩=>?_);subst ex;obtain rfl:u=Value.ref a:=rx;exact⟨aoH I2 g,aoP hu I2 g ry fun w' s3 I3 qP=>⟨v,H2,I3,qP,q2⟩⟩
theorem agL(hu:X.A.units+1<cLine)(hi:PE X i ty)(ho:PE X o td):PC X .NotIn i o (Ie ty td):=by
 intro pins s σ H Q I h;refine bA (hi pins s σ H _ I h) fun iv s1 ⟨y,H1,I1,ry,q1⟩=>bA (ho pins s1 σ H1 _ I1 q1) fun u s2 ⟨x,H2,I2,rx,a,ov,ex,g,q2⟩=>?_;subst ex;obtain rfl:u=Value.ref a:=rx;exact aoM hu I2 g ry fun s3 I3=>⟨.bl (!ov.isSome),H2,I3,rfl,q2⟩
theorem afB(hu:X.A.units+1<cLine)(ho:PE X o td)(hi:PE X i ty)(hv:PE X value tv)(hs:swapsWith value (some (.Subscript o i pos')) pos.line X.env=pure false) :
  PS X (.Assign [.Subscript o i pos'] value pos) (adU td ty tv):=by
 intro pins s σ H D I h;refine wpAny_Assign_Subscript (bA (hv pins s σ H _ I h) fun r s1 ⟨v,H1,I1,rv,q1⟩=>bA (ho pins s1 σ H1 _ I1 q1) fun u s2 ⟨x,H2,I2,rx,q2⟩=>bA (hi pins s2 σ H2 _ I2 q2) fun iv s3 ⟨y,H3,I3,ry,a,H4,ex,g,q3⟩=>?_) hs;subst ex;obtain rfl:u=Value.ref a:=rx;exact aoL hu I3 g ry rv fun s4 I4=>⟨σ,H4,I4,q3⟩
end
theorem aoF{P:Program}{w:World}{H:Hp}(h:Heap)(hb:sysModules<h.objs.size):fN P w H (h.push { cls := .type "dict",data := .dict #[] }) h.objs.size (.dK []) :=
 ⟨CU _,sJ.mpr (bV (dA hb)),[],.nil,Heap.DictOf.new h⟩
def Xw:TE:=fun _ H Q=>∀p,H p=none→Q (.ref p) (upd H p (.dK []))
section
variable{X:Cx}{pos:Pos}
theorem agA:PE X (.Dict [] [] pos) Xw:=fun pins s σ H Q I h =>
 wpAny_Dict_empty ⟨.ref s.heap.objs.size,_,I.laid (a:=s.heap.objs.size) (o := .dK []) (t':=s.toks) (fun _ _ q=>cH _ q) bP (aoF s.heap I.big),rfl,h _ (I.aH.fresh bP)⟩
end
structure M1(X:Cx)(o:Expr)(m:Str)(apos:Pos)(e:Expr)(jN:Pos):Prop where
 base:attributeBase o m X.env (eval o X.env)=eval o X.env
 Pg:((backTo jN (starEach [e] X.env)).all (fun x=>!x.1)&&(backToKw jN (keywordEach [] X.env)).all (fun x=>x.1.isSome)
  && decide (([e]:List Expr).length+([]:List Keyword).length+(if([]:List Keyword).isEmpty then 0 else 1)<30))=true
 line:(apos.endLine == jN.line)=true
 trees:backTo jN (starEach [e] X.env)=[(false,eval e X.env)]
structure M2(X:Cx)(o:Expr)(m:Str)(apos:Pos)(e f:Expr)(jN:Pos):Prop where
 base:attributeBase o m X.env (eval o X.env)=eval o X.env
 Pg:((backTo jN (starEach [e,f] X.env)).all (fun x=>!x.1)&&(backToKw jN (keywordEach [] X.env)).all (fun x=>x.1.isSome)
  && decide (([e,f]:List Expr).length+([]:List Keyword).length+(if([]:List Keyword).isEmpty then 0 else 1)<30))=true
 line:(apos.endLine == jN.line)=true
 trees:backTo jN (starEach [e,f] X.env)=[(false,eval e X.env),(false,eval f X.env)]
def Uj(H:Hp)(a:Addr):Prop:=(∃kvs,Rd H a (.dK kvs))∨∃kvs,Rd H a (.dT kvs)
theorem xZ{X:Cx}{pins:List (Addr×Obj)}{σ:St}{H:Hp}{s:Shared}{a:Addr}(I:Inv X pins σ H s)(d:Uj H a) :
  s.TypeIs (.ref a) "dict"∧(∀b,Value.ref a = .ref b→∃ob,s.heap.get? b=some ob∧ob.dict=none)∧(a == sysModules)=false:=by
 rcases d with⟨kvs,e⟩ | ⟨kvs,e⟩
 ·obtain⟨_,hd,vs,_,dd⟩:=yZ I.aH e;refine⟨dd.typeIs,fun b q=>?_,hd⟩;cases q;obtain⟨ob,_,_,h1,h2,_⟩:=dd;exact⟨ob,h1,h2.2.1⟩
 ·obtain⟨_,hd,xs,_,dd⟩:=CF I.aH e;refine⟨dd.typeIs,fun b q=>?_,hd⟩;cases q;obtain⟨ob,_,_,h1,h2,_⟩:=dd;exact⟨ob,h1,h2.2.1⟩
section
variable{X:Cx}{pins:List (Addr×Obj)}{σ:St}{H:Hp}{s:Shared}{a:Addr}{y d:V}{u r:Value}{o:Option V}{A:Around}{E:Value→Shared→Prop}
theorem aoQ{Q:Value→Shared→Prop}(hu:A.units+1<cLine)(I:Inv X pins σ H s)(g:mY H a y o)(ry:RelV y u)(rd:RelV d r)(h:∀w' s',Inv X pins σ H s'→RelV (o.getD d) w'→Q w' s') :
  wpAny (model X.prog X.w) A (call (.builtin "dict.get") [.ref a,u,r]) Q E s:=by
 rcases g with⟨kvs,k,e,ey,l⟩ | ⟨kvs,k,b,e,ey,eb,l⟩
 ·subst ey;obtain⟨z,hd,vs,rel,dd⟩:=yZ I.aH e;refine CM PySem.F.slot_dict_get dd.typeIs PySem.F.entry_dict_get (PySem.F.args_dict_get_3 _ _ _) (meets_dict_get_default (fR X.prog X.w) a (BJ ry) hd r) ⟨_,dd.mapOf,h _ _ (I.tok _) ?_⟩;rw [l];exact(rel.val k).getD rd
 ·subst ey;cases(show u=Value.ref b from ry);obtain⟨z,hd,xs,rel,dd⟩:=CF I.aH e;refine CM PySem.F.slot_dict_get dd.typeIs PySem.F.entry_dict_get (PySem.F.args_dict_get_3 _ _ _) (meetsH_dict_get_default (tupleKind (fR X.prog X.w)) a b hd r) ⟨SJ hu,k,xs,FY I.aH eb,dd,h _ _ (I.tok _) ?_⟩;rw [l];exact(rel.val k).getD rd
end
def Xy(td ty tx:TE):TE:=fun σ H Q=>td σ H fun x H1=>∃a,x = .ref a∧Uj H1 a∧ty σ H1 fun y H2=>tx σ H2 fun z H3=>∃o,mY H3 a y o∧Q (o.getD z) H3
section
variable{X:Cx}{o e f:Expr}{apos jN:Pos}{td ty tx:TE}
theorem agB(hu:X.A.units+1<cLine)(ho:PE X o td)(he:PE X e ty)(hf:PE X f tx)(m:M2 X o "get" apos e f jN):PE X (.Call (.Attribute o "get" apos) [e,f] [] jN) (Xy td ty tx):=by
 intro pins s σ H Q I h;refine wpAny_Call_method m.base m.Pg m.line PySem.F.plainAttrs_dict PySem.F.slot_dict_get PySem.F.type_dict_get (bA (ho pins s σ H _ I h) fun u s1 ⟨x,H1,I1,rx,a,ex,d,q1⟩=>?_);subst ex;obtain rfl:u=Value.ref a:=rx;obtain⟨t1,t2,_⟩:=xZ I1 d;refine⟨t1,t2,?_⟩;rw [m.trees];refine DP rfl (Calls.evalArgs_plain (DO (bA (he pins s1 σ H1 _ I1 q1) fun iv s2 ⟨y,H2,I2,ry,q2⟩ =>
  DO (bA (hf pins s2 σ H2 _ I2 q2) fun fv s3 ⟨z,H3,I3,rz,ov,g,q3⟩=>JX ?_))))
 exact aoQ hu I3 g ry rz fun w' s4 I4 qP=>⟨_,H3,I4,qP,q3⟩
end
end L2
namespace Uv
open PySem PySem.W PySem.Calls PyProof.Rows
theorem aj3{P:Params}{h:Heap}:∀(ns:List Int) (vs:List Value),WellAll P h vs (ns.map WData.int)→IntsAre vs ns:=by
 intro ns
 induction ns with
 | nil =>
  intro vs w;rw [qG]at w;cases w;exact .nil
 | cons n ns ih =>
  intro vs w;rw [cX]at w;cases w with
  | cons a b =>
   cases a;exact .cons _ _ (ih _ b)
theorem adA{l:OpenLaw}{n:Nat}(hn:l.most=some n){P:Params}{h:Heap}{args:List WData}{vals:List Value}
  (NR:l.row.toRowW.claim.pre args=true) (sA:WellAll P h vals args) :
  ∃a vs ns,vals=[Value.ref a]∧args=[WData.list (ns.map WData.int)]∧h.get? a=some { cls := .type "list",data := .seq vs.toArray }∧IntsAre vs ns∧ns.length≤n:=by
 have hsh:WShape.hasAll [] args [.list .int]=true:=(pre_splitW NR).1;have hc:l.pre.holds [] { args:=args }=true:=(pre_splitW NR).2;obtain⟨d,r,rfl,h1,h2⟩:=hasAllW_cons hsh;obtain rfl:=hasAllW_nil h2;obtain⟨xs,rfl,h3⟩:=hasW_list h1;obtain⟨ns,rfl⟩:=items_int h3;have hlen:ns.length≤n:=by
  unfold OpenLaw.pre at hc;have h4:(WTm.not (.lt (.lit (.int (n:Int))) (.len (.arg 0)))).holds [] { args:=[.list (ns.map .int)] }=true:=by
   have h4:=(holds_andW hc).1;rw [hn]at h4;exact h4
  have h5:=condW_of h4 (w_not (w_lt w_lit (w_len_list (w_arg rfl))));rw [eG]at h5;refine Eh fun q=>?_;have q':(n:Int)<((ns.length:Nat):Int):=by omega
  first
   | (rw [zB q']at h5;exact absurd h5 (by decide))
   | (simp at h5;omega)
 cases sA with
 | cons w1 w2 =>
  cases w2;cases w1 with
  | list ho qZ=>exact⟨_,_,ns,rfl,rfl,ho,aj3 ns _ qZ,hlen⟩
theorem afD(l:OpenLaw)(args:List WData):l.row.toRowW.claim.post args (.bool true) args=true :=
 postW_of (r:=l.row.toRowW) (X:=(true == true))
  (show WShape.has [] (.bool true) .bool=true by first | rfl | decide | simp [WShape.has,WShape.arms,WShape.armsAll])
  (show(WTm.eq .res (.lit (.bool true))).value [] { args:=args,res:=some (.bool true),after:=args }=some (.bool (true == true))from w_eq_bool (w_res rfl) w_lit) rfl
theorem aq9{l:OpenLaw}{n:Nat}{q:Program}{loose:List Str}{XP:(Str→Option Value)→Heap→Prop}{YP:World→Heap→Prop}{d:DefRec}
  (hn:l.most=some n) (HB:d.params.defaults=[])
  (call:∀(w:World) (s₀ s₁:Shared) (mg mb:Str→Option Value) (fa:Addr) (o:Obj) (pm cd doc:Value) (a:Addr) (vs:List Value) (ns:List Int),
   Ground q loose [] XP w s₀ mg mb s₁.heap→YP w s₁.heap →
   s₁.heap.get? fa=some o→o.data = .func (docDef d.name d.params d.body d.scope pm cd doc)→s₁.heap.CodeRec cd d.name→mg d.name=some (.ref fa) →
   s₁.heap.get? a=some { cls := .type "list",data := .seq vs.toArray }→IntsAre vs ns→ns.length≤n→s₁.gens = #[] →
   codeAny (model l.prog w) callerA (.call (.ref fa) ⟨[.ref a],[]⟩) (fun r s'=>r = .ok (.ret (.bool true))∧OldK s₁.heap s'.heap∧s'.os=s₁.os∧AllBare s'.gens) s₁) :
  WalkO q loose XP YP l.row.toRowW d [] (fun f vs=>PySem.call f vs):=by
 intro w s₀ s₁ mg mb G Y fa o pm cd doc dV kV ho hd kB hD GO hg args vals as NR auA hrd sA hlo;obtain rfl:dV = .none:=Dflts.none hD HB;obtain rfl:kV = .none:=Dflts.noKw hD;obtain⟨a,vs,ns,rfl,rfl,YZ,hints,hlen⟩:=adA hn NR sA;refine enter_call (uA (call w s₀ s₁ mg mb fa o pm cd doc a vs ns G Y ho (fd_plain hd) kB GO YZ hints hlen hg) fun r s' hq=>?_);obtain⟨rfl,h2,h3,h4⟩:=hq;exact⟨.inl ⟨.bool true,.bool true,[],rfl,fun _=>rfl,.bool true,afD l _,fun _=>⟨List.Pairwise.nil,fun _ hm=>(nomatch hm)⟩⟩,h2,h3,h4⟩
section
variable{prog:Program}{w:World}{A:Around}{E:Value→Shared→Prop}{s:Shared}{K:Frag}
def ledger(h:Heap)(L d:Addr):List (Addr×Obj):=(List.range h.objs.size).filterMap fun a=>if a=L∨a=d then none else(h.get? a).map fun o=>(a,o)
end
end Uv
namespace L2
open PySem PySem.Spec PyProof.Rows
theorem RW:∀{vs:List Value} {ns:List Int},IntsAre vs ns→Vals (ns.map V.int) vs
 | _,_,.nil => .nil
 | _,_,.cons n t h => .cons ⟨t,rfl⟩ (RW h)
def Ec(H:Hp):Prop:=∀b,H b=none∨∃o xs,H b=some (.cV o (.lst xs))
theorem aiZ{P:Program}{w:World}{K:Frag}{mg mb:Str→Option Value}{CX:nQ}{k:Nat}{fa a:Addr}{fd:FuncData}{x:Str}{sp:Sp}{s₁:Shared}{vs:List Value}{ns:List Int}
  (KX:K.In s₁.heap) (GL:s₁.heap.Ns mainGlobals mg) (hb:s₁.heap.Ns builtinsNs mb) (hbb:∀x:Str,x ≠ "__name__"→mb x=bootBuiltins x) (alB:s₁.heap.NoLimit) (hg:s₁.gens = #[])
  (ha:s₁.heap.get? a=some { cls := .type "list",data := .seq vs.toArray }) (hi:IntsAre vs ns) (hl:ns.length≤sizeLine) (hr:cE k callerA)
  (F:∀base:Heap,K.In base→base.Ns mainGlobals mg→gC P w K mg base CX k fa fd [x] sp) (al6:∀(s:Shared) (u:Value),BindsTo s fd ⟨[u],[]⟩ [(x,u)])
  (jZ:∀H:Hp,Ec H→eX K H a (ns.map V.int)→sp [.ref a] H (fun v _=>v = .bl true) fun _ _ _=>False)
  (Ad:∀H e s',CX [] H s₁ (fun _ _ _=>False) e s'→False) :
  codeAny (model P w) callerA (.call (.ref fa) ⟨[.ref a],[]⟩) (fun r s'=>r = .ok (.ret (.bool true))∧OldK s₁.heap s'.heap∧s'.os=s₁.os∧AllBare s'.gens) s₁:=by
 have rv:=RW hi;have aiT:=hi.length;have core:∀H:Hp,Ec H→eX K H a (ns.map V.int)→eR P w H s₁.heap→(∀b,H b≠none→b=a)→(H a≠none→K.lookup a=none) →
   codeAny (model P w) callerA (.call (.ref fa) ⟨[.ref a],[]⟩) (fun r s'=>r = .ok (.ret (.bool true))∧OldK s₁.heap s'.heap∧s'.os=s₁.os∧AllBare s'.gens) s₁:=by
  intro H hO hS aH hA hK;have Rt:∀{b:Addr} {o:Obj},s₁.heap.get? b=some o→H b=none→(tR s₁.heap H).get? b=some o:=fun e n=>alK e n;have FN:∀{b:Addr} {o:Obj} {es:Array DictEntry} {ep:Nat},s₁.heap.get? b=some o→o.data = .dict es ep→H b=none:=fun{b o es ep} e d=>by
   cases q:H b with
   | none=>rfl
   | some u =>
    have e':b=a:=hA b (by rw [q];simp);subst e';rw [ha]at e;cases e;have d':Data.seq vs.toArray _=Data.dict es ep:=d;cases d'
  have MW:∀{b:Addr} {m:Str→Option Value},s₁.heap.Ns b m→(tR s₁.heap H).Ns b m:=fun{b m} ⟨o,es,ep,e,d,r⟩=>⟨o,es,ep,Rt e (FN e d),d,r⟩
  have Oi:K.In (tR s₁.heap H):=fun b o e=>Rt (KX b o e) (by
   cases q:H b with
   | none=>rfl
   | some u =>
    have e':b=a:=hA b (by rw [q];simp);subst e';rw [hK (by rw [q];simp)]at e;cases e)
  have hM:Mod K mg (tR s₁.heap H):=⟨Oi,MW GL,⟨mb,MW hb,hbb⟩,let ⟨mc,h1,h2⟩:=alB; ⟨mc,MW h1,h2⟩⟩;have e0:AA P w K mg (tR s₁.heap H) callerA [] s₁ H:=⟨rfl,hM,fun b o e=>ahC e,Nat.le_of_eq (alJ _ _),trivial,fun b hb=>absurd (show b∈([]:List Addr)from hb) (by simp),aH,.of_eq hg⟩;refine uA ((F _ Oi (MW GL)).run callerA [] s₁ H ⟨[.ref a],[]⟩ [.ref a] [.ref a] _ _ hr e0 (al6 s₁ (.ref a)) (.cons rfl .nil) (jZ H hO hS)) fun r s' h=>?_;cases r with
  | error e=>exact(Ad H e s' h).elim
  | ok fl =>
   cases fl with
   | next=>exact False.elim h
   | brk=>exact False.elim h
   | cont=>exact False.elim h
   | ret u =>
    obtain⟨v,H',os,bare,un,GK,r',q⟩:=h;have q':v = .bl true:=q;subst q';obtain rfl:u=Value.bool true:=r';refine⟨rfl,OldK.of_keep fun b o e=>?_,os,bare⟩;cases q:H b with
    | none=>exact un.keep b o e q (by intro z;exact absurd (show b∈([]:List Addr)from z) (by simp)) (by simp)
    | some u =>
     rcases hO b with z | ⟨ob,xs,z⟩
     ·rw [q]at z;cases z
     ·have z2:=un.jL b ob _ z;obtain⟨e1,_⟩:=aH b _ z;obtain⟨e2,_⟩:=GK b _ z2;rw [e]at e1;cases e1;exact e2
 cases hk:K.lookup a with
 | some o =>
  have e:=KX a o hk;rw [ha]at e;cases e;refine core (fun _=>none) (fun _ => .inl rfl) (.inr ⟨_,vs.toArray,_,hk,rfl,rfl,rfl,by rw [fU,aiT];exact hl,by simpa using rv⟩) (fun b u z=>by have z':(none:Option HO)=some u:=z;cases z') (fun b z=>absurd rfl z) fun z=>absurd rfl z
 | none =>
  refine core (fun b=>if b=a then some (.cV { cls := .type "list",data := .seq vs.toArray } (.lst (ns.map V.int)))else none) (fun b=>?_) (.inl (.inr ⟨{ cls := .type "list",data := .seq vs.toArray },if_pos rfl⟩)) (fun b u z=>?_) (fun b z=>?_) fun _=>hk
  ·by_cases hb:b=a
   ·exact .inr ⟨_,_,if_pos hb⟩
   ·exact .inl (if_neg hb)
  ·by_cases hb:b=a
   ·have z':=(if_pos hb).symm.trans z;cases z';subst hb;exact⟨ha,by rw [eG];exact hl,vs,_,rv,ha⟩
   ·have z':=(if_neg hb).symm.trans z;cases z'
  ·by_cases hb:b=a
   ·exact hb
   ·exact absurd (if_neg hb) z
theorem Vd{l:OpenLaw}{n k:Nat}{q:Program}{loose:List Str}{XP:(Str→Option Value)→Heap→Prop}{YP:World→Heap→Prop}{d:DefRec}{K:Params→Frag}{CX:World→nQ}{sp:World→Sp}{x:Str}
  (hn:l.most=some n) (BP:n≤sizeLine) (HB:d.params.defaults=[]) (hr:cE k callerA)
  (hY:∀(w:World) (h:Heap),YP w h→(K w.params).In h)
  (F:∀(w:World) (mg:Str→Option Value) (fa:Addr) (h:Heap),(K w.params).In h→h.Ns mainGlobals mg→mg d.name=some (.ref fa) →
   ∃fd:FuncData,(∀(s:Shared) (u:Value),BindsTo s fd ⟨[u],[]⟩ [(x,u)]) ∧
    ∀base:Heap,(K w.params).In base→base.Ns mainGlobals mg→gC l.prog w (K w.params) mg base (CX w) k fa fd [x] (sp w))
  (jZ:∀(w:World) (H:Hp) (a:Addr) (ns:List Int),ns.length≤n→Ec H→eX (K w.params) H a (ns.map V.int)→sp w [.ref a] H (fun v _=>v = .bl true) fun _ _ _=>False)
  (Ad:∀(w:World) (H:Hp) (s:Shared) (e:Value) (s':Shared),CX w [] H s (fun _ _ _=>False) e s'→False) :
  PySem.W.WalkO q loose XP YP l.row.toRowW d [] (fun f vs=>PySem.call f vs):=by
 refine Uv.aq9 hn HB fun w s₀ s₁ mg mb fa o pm cd doc a vs ns G Y ho hd kB GO YZ hints hlen hg=>?_;have KX:=hY w _ Y;obtain⟨fd,hb,hF⟩:=F w mg fa _ KX G.T.g GO;exact aiZ KX G.T.g G.T.b G.T.builtins G.T.nolimit hg YZ hints (qD hlen BP) hr hF hb (fun H hO hS=>jZ w H a ns hlen hO hS) fun H e s'=>Ad w H s₁ e s'
def inClass(s:Stmt)(j:Nat):Stmt:=match s with
 | .ClassDef _ _ _ body _ _ _ _ _ _ _=>body.getD j (.Pass ⟨0,0,0,0⟩)
 | _ => .Pass ⟨0,0,0,0⟩
def kN(s:Stmt):Arguments:=match s with
 | .FunctionDef _ a _ _ _ _ _ _ _ _=>a
 | _=>{ posonlyargs:=[],args:=[],vararg:=none,kwonlyargs:=[],kw_defaults:=[],kwarg:=none,defaults:=[] }
def fB(s:Stmt):List Stmt:=match s with
 | .FunctionDef _ _ b _ _ _ _ _ _ _=>b
 | _=>[]
def aZ(s:Stmt):Scope:=match s with
 | .FunctionDef _ _ _ _ _ _ sc _ _ _=>sc
 | _=>{ kind := .function,names:=[],isGenerator:=false,isCoroutine:=false }
abbrev sS:nQ:=fun _ _ _ _ _ _=>False
abbrev E0:XK:=fun _ _ _=>False
theorem agN{X:Cx}:Passes sS X E0:=fun _ _ _ _ _ _ _ h=>h.elim
structure oE(K:Frag)(x qual:Str)(st:Stmt)(f:Addr)(fd:FuncData):Prop where
 ex:∃(oc:Value) (od:Option Addr) (kV doc pm:Value) (an:Option Addr) (aV ct:Value) (iQ:Array (Option Value)),
  fd=fnOf x qual (kN st) (fB st) (aZ st) .none kV doc pm an aV ct∧K.lookup f=some ⟨oc,od,.func fd,iQ⟩∧codeIn K aV qual=true
 kp:keepIn K (.ref f)=true
section
variable{P:Program}{w:World}{K:Frag}{mg:Str→Option Value}{base:Heap}
theorem oE.ok{x qual:Str}{st:Stmt}{f:Addr}{fd:FuncData}{N ps:List Str}{k:Nat}{sp:Sp}(F:oE K x qual st f fd)(S:dI N ps (aZ st))(len:∀vs H Q E,sp vs H Q E→vs.length=ps.length)
  (kD:∀(aV:Value) (A:Around) (outer:List Env) (s:Shared) (H:Hp) (vs:List V) (Q:VK) (E:XK),cE k (A.deeper (envOfC qual (aZ st) s.heap.objs.size f aV))→sp vs H Q E →
   ∃t,mE (rD sS P w K mg base N qual (aZ st) f aV A outer s H E).oQ (fB st) t∧t { nx:=fun _ H'=>Q .bH H',rt:=Q } (start N vs) H):gC P w K mg base sS (k+1) f fd ps sp:=by
 obtain⟨oc,od,kV,doc,pm,an,aV,ct,iQ,rfl,lk,kB⟩:=F.ex;refine HY lk kB S len fun A outer s H vs Q E hr jZ=>?_;obtain⟨t,h,q⟩:=kD aV A outer s H vs Q E hr jZ;exact⟨t,h.oQ,q⟩
theorem oE.binds{x qual:Str}{st:Stmt}{f:Addr}{fd:FuncData}{ps:List Str}(F:oE K x qual st f fd)
  (h:∀(kV doc pm:Value) (an:Option Addr) (aV ct:Value) (us:List Value),us.length=ps.length→bindArgs (fnOf x qual (kN st) (fB st) (aZ st) .none kV doc pm an aV ct) ⟨us,[]⟩=pure (ps.zip us)):Binds K fd ps []:=by
 obtain⟨oc,od,kV,doc,pm,an,aV,ct,iQ,rfl,lk,kB⟩:=F.ex;exact .all (h kV doc pm an aV ct)
theorem HV{x qual:Str}{st:Stmt}{f:Addr}{oc:Value}{od an:Option Addr}{iQ:Array (Option Value)}{kV doc pm aV ct:Value}(l:K.lookup f=some ⟨oc,od,.func (fnOf x qual (kN st) (fB st) (aZ st) .none kV doc pm an aV ct),iQ⟩)
  (c:codeIn K aV qual=true) (k:keepIn K (.ref f)=true):oE K x qual st f (fnOf x qual (kN st) (fB st) (aZ st) .none kV doc pm an aV ct):=⟨⟨oc,od,kV,doc,pm,an,aV,ct,iQ,rfl,l,c⟩,k⟩
end
section
variable{X:Cx}
theorem aqN:jR X (.builtin "len") (fun xs H Q=>∃a kvs,xs=[V.ref a]∧H a=some (.dK kvs)∧Q (.int kvs.length) H):=by
 intro pins s σ H xs us Q I r h;obtain⟨a,kvs,rfl,ha,q⟩:=h;obtain⟨u,rfl,ru⟩:=vals1 r;cases ru;exact aoN I (.inl ha) fun t s' I'=>⟨.int kvs.length,H,I',⟨t,rfl⟩,q⟩
end
def gJ(H H':Hp):Prop:=∀b o,H b=some o→H' b=some o
theorem gJ.refl(H:Hp):gJ H H:=fun _ _ h=>h
theorem gJ.trans{H H1 H2:Hp}(a:gJ H H1)(b:gJ H1 H2):gJ H H2:=fun c o h=>b c o (a c o h)
theorem gJ.free{H H':Hp}(e:gJ H H'){l:Addr}(h:H' l=Option.none):H l=Option.none:=by
 cases q:H l with
 | none=>rfl
 | some o =>
  rw [e l o q]at h;cases h
theorem gJ.seq{K:Frag}{H H':Hp}{a:Addr}{xs:List V}(e:gJ H H')(h:eX K H a xs):eX K H' a xs:=by
 rcases h with(h | ⟨o,h⟩) | h
 ·exact .inl (.inl (e _ _ h))
 ·exact .inl (.inr ⟨o,e _ _ h⟩)
 ·exact .inr h
theorem Cj(env:Env):∀(names:List (Str×NameKind)) (cs:List (Str×Addr)),(∀y∈names,y.2 = .free→∃c,env.cells.lookup y.1=some c) →
  ∃cl,(forIn names cs (fun(x:Str×NameKind) (cs:List (Str×Addr))=>(match x with | (name,kind)=>if(kind == NameKind.free)=true then(do let c ← cellOf env name;pure (ForInStep.yield ((name,c)::cs)))else pure (ForInStep.yield cs))):Sem (List (Str×Addr)))=pure cl ∧
   (∀x c,cl.lookup x=some c→cs.lookup x=some c∨env.cells.lookup x=some c)∧(∀y∈names,y.2 = .free→∃c,cl.lookup y.1=some c)∧(∀x c,cs.lookup x=some c→∃c',cl.lookup x=some c')
 | [],cs,_=>⟨cs,rfl,fun _ _ h => .inl h,fun _ h=>(nomatch h),fun _ c h=>⟨c,h⟩⟩
 | (n,k)::r,cs,h=>by
  by_cases hk:k = .free
  ·subst hk;obtain⟨c,hc⟩:=h (n,.free) pR rfl;obtain⟨cl,e,h1,h2,h3⟩:=Cj env r ((n,c)::cs) fun y hy=>h y (gQ _ hy);refine⟨cl,?_,fun x d hd=>?_,fun y hy hf=>?_,fun x d hd=>?_⟩
   ·rw [List.forIn_cons];simp only [beq_self_eq_true,jI,cellOf,hc,pure_bind];exact e
   ·rcases h1 x d hd with q | q
    ·rw [DF]at q;split at q
     ·rename_i hx;have rZ:x=n:=by simpa using hx
      subst rZ;exact .inr (hc.trans q)
     ·exact .inl q
    ·exact .inr q
   ·rcases eN.mp hy with e' | e'
    ·subst e';exact h3 n c (by simp)
    ·exact h2 y e' hf
   ·by_cases hx:x=n
    ·subst hx;exact h3 x c (by simp)
    ·have hb:(x == n)=false:=by simpa using hx
     exact h3 x d (by rw [DF,hb];exact hd)
  ·obtain⟨cl,e,h1,h2,h3⟩:=Cj env r cs fun y hy=>h y (gQ _ hy);have hb:(k == NameKind.free)=false:=by simpa using hk
   refine⟨cl,?_,h1,fun y hy hf=>?_,h3⟩
   ·rw [List.forIn_cons];simp only [hb,sT,iX,pure_bind];exact e
   ·rcases eN.mp hy with e' | e'
    ·subst e';exact absurd hf hk
    ·exact h2 y e' hf
theorem Qs{scope:Scope}{env:Env}(h:∀y∈scope.names,y.2 = .free→∃c,env.cells.lookup y.1=some c) :
  ∃cl,closureFor scope env=pure cl∧(∀x c,cl.lookup x=some c→env.cells.lookup x=some c)∧∀y∈scope.names,y.2 = .free→∃c,cl.lookup y.1=some c:=by
 obtain⟨cl,e,h1,h2,_⟩:=Cj env scope.names [] h;refine⟨cl,?_,fun x c hc=>(h1 x c hc).resolve_left (by simp),h2⟩;unfold closureFor;refine Eq.trans (congrArg (fun m=>m >>= fun cs=>pure cs) e) ?_;rfl
section
variable{prog:Program}{w:World}{A:Around}{R:Result→Shared→Prop}{s:Shared}
theorem Qp{elt target iter:Expr}{ifs:List Expr}{scope:Scope}{pos:Pos}{it acc:Value}{env:Env}(I:Nat→Shared→Prop)
  (turn:∀n s,I n s→wpAny (model prog w) A (pyNext it) (fun r s₁=>match r with
   | none=>R (.ok .next) s₁
   | some v=>wpAny (model prog w) A (letOwnedTupleGo target it v) (fun _ Ij=>wpAny (model prog w) A (assign target env v) (fun _ s₂ =>
     wpAny (model prog w) A (forIn ifs true fun c r=>if r=true then do let ok ← isTrue c env (eval c env);pure (ForInStep.yield ok)else pure (ForInStep.yield r)) (fun ok s₃ =>
      if ok=true then wpAny (model prog w) A (eval elt env) (fun x s₄ =>
       wpAny (model prog w) A (call (.builtin "list.append") [acc,x]) (fun _ s₅=>∃m,m<n∧I m s₅) (fun _ _=>False) s₄) (fun _ _=>False) s₃
      else ∃m,m<n∧I m s₃) (fun _ _=>False) s₂) (fun _ _=>False) Ij) (fun _ _=>False) s₁) (fun _ _=>False) s)
  (n:Nat) (h:I n s) :
  codeAny (model prog w) A (.compLoop (.ListComp elt [⟨target,iter,ifs,0⟩] scope pos) 0 it acc env) R s:=by
 refine codeAny_loop rfl I (fun n s hI=>?_) n h;show wpAny _ A ((compTurn (.ListComp elt [⟨target,iter,ifs,0⟩] scope pos) 0 it acc env).onRaise (fun x=>do noteFrame x env;theTreesLotGoes x)) _ _ s;refine wpAny_noted ?_;rw [compTurn_list];refine aF (wpAny_standAt (aF (lF (turn n s hI) (fun r s₁ h₁=>?_) fun _ _ h'=>h'.elim)));cases r with
 | none=>exact aS h₁
 | some v =>
  refine aF (lF h₁ (fun _ Ij h₁'=>?_) fun _ _ h'=>h'.elim);refine aF (lF h₁' (fun _ s₂ h₂=>aF (lF h₂ (fun ok s₃ h₃=>?_) fun _ _ h'=>h'.elim)) fun _ _ h'=>h'.elim);cases ok with
  | false=>exact aS ⟨rfl,h₃⟩
  | true =>
   exact aF (aF (lF h₃ (fun x s₄ h₄=>aF (lF h₄ (fun _ s₅ h₅=>aS (aS ⟨rfl,h₅⟩)) fun _ _ h'=>h'.elim)) fun _ _ h'=>h'.elim))
end
def CT(X:Cx)(ifs:List Expr)(t:TT):Prop :=
 ∀(pins:List (Addr×Obj)) (s:Shared) (σ:St) (H:Hp) (Q:Bool→Hp→Prop),Inv X pins σ H s→t σ H Q →
  wpAny (model X.prog X.w) X.A (forIn ifs true fun c r=>if r=true then do let ok ← isTrue c X.env (eval c X.env);pure (ForInStep.yield ok)else pure (ForInStep.yield r)) (TP X pins σ Q) X.xe s
def Xf:TT:=fun _ H Q=>Q true H
theorem afJ{X:Cx}:CT X [] Xf:=fun _ _ _ H _ I h=>wpAny_tests_nil ⟨H,I,h⟩
theorem afI{X:Cx}{c:Expr}{t:TT}(h:PT X c t):CT X [c] t:=fun pins s σ H Q I q=>wpAny_tests_one (h pins s σ H Q I q)
def eV(X:Cx)(scope:Scope)(ls:List Str)(js:List Nat)(cl:List (Str×Addr))(C:Addr)(s:Shared)(H:Hp)(fp:List Addr):Cx :=
 { X with N:=ls++js.map (fun j=>X.N.getD j Str.empty),s₀:=s,H₀:=H,env:=compEnvC scope cl C X.env,outer:=X.stack,ex:=fp,fn:=fun _=>false,xe:=fun _ _=>False }
def rX(ls:List Str)(js:List Nat)(σ:St):St:=ls.map (fun _=>none)++js.map (fun j=>(σ[j]?).join)
def gk(env:Env)(n:Str)(k:NameKind):NameKind:=if(k == NameKind.free&&env.scope.kind == .function&&env.kindOf n == some .cell)=true then .cell else k
theorem Jq(env:Env)(names:List (Str×NameKind)):(names.map fun(n,k)=>if(k == NameKind.free&&env.scope.kind == .function&&env.kindOf n == some .cell)then(n,NameKind.cell)else(n,k))=names.map fun p=>(p.1,gk env p.1 p.2):=by
 refine QN fun p _=>?_;obtain⟨n,k⟩:=p;show(if(k == NameKind.free&&env.scope.kind == .function&&env.kindOf n == some .cell)=true then(n,NameKind.cell)else(n,k))=(n,gk env n k);unfold gk;split <;> rfl
theorem WM(env:Env)(x:Str):∀names:List (Str×NameKind),(names.map fun p=>(p.1,gk env p.1 p.2)).lookup x=(names.lookup x).map (gk env x)
 | []=>rfl
 | (n,k)::r=>by
  rw [cX];cases hx:x == n with
  | true =>
   have e:x=n:=by simpa using hx
   subst e;rw [DF,DF];simp
  | false =>
   rw [DF,DF];simp only [hx];exact WM env x r
theorem lookup_mem{x:Str}{k:NameKind}:∀{names:List (Str×NameKind)},names.lookup x=some k→(x,k)∈names
 | [],h=>by simp at h
 | (n,k')::r,h=>by
  rw [DF]at h;cases hx:x == n with
  | true =>
   have e:x=n:=by simpa using hx
   subst e;simp only [beq_self_eq_true]at h;cases h;exact List.mem_cons_self ..
  | false =>
   simp only [hx]at h;exact gQ _ (lookup_mem h)
theorem BF{env:Env}{names:List (Str×NameKind)}{x:Str}(h:names.lookup x=some .free) :
  (names.map fun(n,k)=>if(k == NameKind.free&&env.scope.kind == .function&&env.kindOf n == some .cell)then(n,NameKind.cell)else(n,k)).lookup x=some .cell ∨
  (names.map fun(n,k)=>if(k == NameKind.free&&env.scope.kind == .function&&env.kindOf n == some .cell)then(n,NameKind.cell)else(n,k)).lookup x=some .free:=by
 rw [Jq,WM,h];show some (gk env x .free)=some .cell∨some (gk env x .free)=some .free;unfold gk;split
 ·exact .inl rfl
 ·exact .inr rfl
theorem EZ{env:Env}{names:List (Str×NameKind)}{x:Str}(hc:∀y∈names,y.2 ≠ .cell)
  (h:(names.map fun(n,k)=>if(k == NameKind.free&&env.scope.kind == .function&&env.kindOf n == some .cell)then(n,NameKind.cell)else(n,k)).lookup x=some .cell ∨
   (names.map fun(n,k)=>if(k == NameKind.free&&env.scope.kind == .function&&env.kindOf n == some .cell)then(n,NameKind.cell)else(n,k)).lookup x=some .free):(x,NameKind.free)∈names:=by
 rw [Jq,WM]at h;cases e:names.lookup x with
 | none=>rw [e]at h;rcases h with h | h <;> cases h
 | some k =>
  have hm:=lookup_mem e
  by_cases hk:k = .free
  ·rw [hk]at hm;exact hm
  ·rw [e]at h;have hg:gk env x k=k:=by
    unfold gk;have hb:(k == NameKind.free)=false:=by simpa using hk
    rw [hb];rfl
   have h':gk env x k = .cell∨gk env x k = .free:=h.imp (fun z=>mF z) fun z=>mF z;rw [hg]at h'
   rcases h' with z | z
   ·exact absurd z (hc _ hm)
   ·exact absurd z hk
structure wN(X:Cx)(scope:Scope)(ls:List Str)(js:List Nat):Prop where
 kind:scope.kind = .function
 cell:∀y∈scope.names,y.2 ≠ .cell
 names:∀y∈scope.names,y.2 = .local→scope.names.lookup y.1=some .local
 free:∀y∈scope.names,y.2 = .free→X.env.kindOf y.1=some .cell∨X.env.kindOf y.1=some .free
 Cm:∀j∈js,∃x,X.N[j]? = some x∧scope.names.lookup x=some .free
section
variable{X:Cx}{pins:List (Addr×Obj)}{σ:St}{H:Hp}{s:Shared}
theorem Mf{scope:Scope}{ls:List Str}{js:List Nat}{cl:List (Str×Addr)}{C:Addr}{fp:List Addr}(L:wN X scope ls js)(I:Inv X pins σ H s)
  (h1:∀x c,cl.lookup x=some c→X.env.cells.lookup x=some c) (h2:∀y∈scope.names,y.2 = .free→∃c,cl.lookup y.1=some c)
  {s':Shared} {H':Hp} (hC:s'.heap.objs.size≤C) (bs:∀b o,X.base.get? b=some o→s'.heap.get? b=some o∧H' b=none) (nX:X.base.objs.size≤s'.heap.objs.size)
  (mU:s'.heap.FunFrames X.base X.stack) (rB:∀b∈fS X.stack,H' b=none)
  (yX:∀b∈fp,b≠C∧∀x c,X.env.cells.lookup x=some c→c≠b) (rS:∀b o,X.base.get? b=some o→b∉fp) (vZ:∀b∈fp,b∉fS X.stack) :
  (eV X scope ls js cl C s' H' fp).Ok where
 mod:=I.ok.mod
 kind:=L.kind
 glob:=I.ok.glob
 blt:=I.ok.blt
 above:=hC
 inj:=fun x y c a b=>I.ok.inj x y c (h1 x c a) (h1 y c b)
 has:=fun x hx=>h2 (x,.free) (EZ (env:=X.env) L.cell hx) rfl
 zF:=fun x c z=>by cases z
 hd:=I.ok.hd
 frames:=I.ok.frames
 pN := .inl rfl
 yX:=fun b hb=>⟨(yX b hb).1,fun x c e=>(yX b hb).2 x c (h1 x c e)⟩
 bs:=bs
 nX:=nX
 rS:=rS
 vZ:=vZ
 mU:=mU
 rB:=rB
theorem Me{ls:List Str}{js:List Nat}{i:Nat}{v:V}(h:(rX ls js σ)[i]? = some (some v)):∃k j,i=ls.length+k∧js[k]? = some j∧σ[j]? = some (some v):=by
 unfold rX at h
 by_cases hi:i<ls.length
 ·rw [fV (by simpa using hi),gK]at h;cases e:ls[i]? with
  | none=>rw [e]at h;cases h
  | some y=>rw [e]at h;cases h
 ·rw [nP (by simpa using Eh hi),gK,eG]at h;cases e:js[i - ls.length]? with
  | none=>rw [e]at h;cases h
  | some j =>
   rw [e]at h;refine⟨i - ls.length,j,by omega,e,?_⟩;have h':(σ[j]?).join=some v:=mF h;cases q:σ[j]? with
   | none=>rw [q]at h';cases h'
   | some o =>
    rw [q]at h';exact congrArg some h'
def LcR(ls:List Str)(js:List Nat)(g:TG)(tc:TT)(te:TE)(σ:St)(Q:VK)(J:It)(H1:Hp):Prop:=∀D,H1 D=none →
 ∃W:Nat→Nat→St→Hp→Prop,(∃m,W 0 m (rX ls js σ) (upd H1 D (.lst [])))∧∀i m σ' H',W i m σ' H' →
  (J.stop i H'∧Q (.ref D) H')∨(J.go i H'∧∃N:St→Hp→Prop,(∀σ2 H2,N σ2 H2→∃m',m'<m∧W (i+1) m' σ2 H2) ∧
   ∀x H2,J.sU i H' x H2→g x σ' H2 fun σ3 H3=>tc σ3 H3 fun c H4=>if c=true then te σ3 H4 fun y H5=>∃ys,H5 D=some (.lst ys)∧ys.length<sizeLine∧N σ3 (upd H5 D (.lst (ys++[y])))else N σ3 H4)
def SU(ls:List Str)(js:List Nat)(wi:TI)(g:TG)(tc:TT)(te:TE):TE:=fun σ H Q=>wi σ H (LcR ls js g tc te σ Q)
theorem af7{elt tg iter:Expr}{ifs:List Expr}{scope:Scope}{pos:Pos}{ls:List Str}{js:List Nat}{wi:TI}{g:TG}{tc:TT}{te:TE}(hc:X.calm=true)(L:wN X scope ls js)(hi:PI X tg iter wi)
  (hb:∀cl C s H fp,PG (eV X scope ls js cl C s H fp) tg g∧CT (eV X scope ls js cl C s H fp) ifs tc∧PE (eV X scope ls js cl C s H fp) elt te)
  (hs:∀x,foldedSetIterable iter X.env x=pure x:=by intro _;rfl):PE X (.ListComp elt [⟨tg,iter,ifs,0⟩] scope pos) (SU ls js wi g tc te):=by
 intro pins s σ H Q I h;obtain⟨cl,gM,gX,iI⟩:=Qs (scope:=scope) (env:=X.env) fun y hy hf=>I.ok.has y.1 (L.free y hy hf);rw [eval_ListComp];refine wpAny_comprehension_free (use:=none) rfl hs gM L.kind L.names (bA (hi pins s σ H _ I h) fun v s1 h1=>bA h1 fun NI s2 h2=>?_);obtain⟨it,fp,tn,J,H1,e,I2,T,xD,f2,h2⟩:=h2;subst e;refine mK (wpAny_newFunctionEnv L.cell (by intro y hy;simp at hy) (fun h₁ yH yE=>?_) L.kind);dsimp only at yH yE ⊢;generalize yO:s2.heap.push { cls := .type "list",dict:=none,data := .seq ([]:List Value).toArray }=G2 at yH yE ⊢;have OG:G2.objs.size=s2.heap.objs.size+1:=by rw [← yO,zV]
 have HL:H1 s2.heap.objs.size=none:=I2.aH.fresh bP;have Ae:H1 G2.objs.size=none:=I2.aH.fresh (by omega);have Ac:s2.heap.objs.size≠G2.objs.size:=by omega
 have Ab:G2.get? s2.heap.objs.size=some { cls := .type "list",dict:=none,data := .seq ([]:List Value).toArray }:=by rw [← yO];exact eY _ rfl
 have xU:∀b o,s2.heap.get? b=some o→G2.get? b=some o:=fun b o e=>by rw [← yO];exact cH _ e
 have I3:Inv X pins σ (upd H1 s2.heap.objs.size (.lst [])) { s2 with heap:=G2,toks:=s2.toks } :=
  I2.laid (t':=s2.toks) xU bP (show fN X.prog X.w _ G2 _ (.lst [])from⟨by simp,[],0,.nil,Ab⟩)
 have xV:∀b o,G2.get? b=some o→h₁.get? b=some o:=fun b o e=>(yE.2 b (dA (cO e))).trans (cH _ e);have I4:Inv X pins σ (upd H1 s2.heap.objs.size (.lst [])) { s2 with heap:=h₁,toks:=s2.toks+0 }:=I3.kept (h':=h₁) (t':=s2.toks+0) xV;generalize hT:(H1,(⟨tg,iter,ifs,0⟩:Comprehension))=YI;clear hT YI;have yT:∀b∈fp,b<s2.heap.objs.size:=fun b hb=>by
  obtain⟨o,e,_⟩:=T.obj 0 _ xD b hb;exact cO e
 have fpD:s2.heap.objs.size∉fp:=fun z=>Nat.lt_irrefl _ (yT _ z);have HX:∀b∈fp,b≠G2.objs.size:=fun b hb=>dA (by rw [OG];exact wJ (yT b hb));have VZ:(eV X scope ls js cl G2.objs.size { s2 with heap:=G2 } (upd H1 s2.heap.objs.size (.lst [])) fp).Ok:=by
  refine Mf L I3 gX iI bP I3.bs (qD I3.ok.nX I3.sz) I3.stack I3.LR (fun b hb=>⟨HX b hb,(f2 b hb).2.2.2.2.1⟩) (fun b o e hb=>?_) (fun b hb z=>?_)
  ·rcases(f2 b hb).2.2.2.1 with q | q
   ·exact I2.ok.rS b o e q
   ·exact absurd (lC (cO (I2.ok.bs b o e).1) q) (Nat.lt_irrefl _)
  ·rcases eN.mp (I3.uU b z)with q | q
   ·exact(f2 b hb).2.1 q
   ·exact(f2 b hb).2.2.1 q
 have IC:Inv (eV X scope ls js cl G2.objs.size { s2 with heap:=G2 } (upd H1 s2.heap.objs.size (.lst [])) fp) [] (rX ls js σ) (upd H1 s2.heap.objs.size (.lst [])) { s2 with heap:=h₁,toks:=s2.toks+0 }:=by
  refine⟨VZ,rfl,I4.bare,Un.kept xV,⟨_,yH,fun i x v e1 e2 e3=>?_⟩,fun x c e=>I4.cell x c (gX x c e),?_,fun x c e=>I4.jM x c (gX x c e),fun p hp=>?_,I4.aH,?_⟩
  ·obtain⟨k,j,tS,hj,hσ⟩:=Me e2;obtain⟨y,hy,yB⟩:=L.Cm j (qF hj);have YO:x=y:=by
    have yY:(ls++js.map (fun j=>X.N.getD j Str.empty))[i]? = some x:=e1;rw [tS,nP (Nat.le_add_right ..),Nat.add_sub_cancel_left,gK,hj]at yY;have Cb:X.N.getD j Str.empty=x:=mF yY;rw [← Cb,Ue,hy];rfl
   subst YO;have GQ:X.env.kindOf x=some .cell∨X.env.kindOf x=some .free:=by
    have hm:(x,NameKind.free)∈scope.names:=by
     have q:=EZ (env:=X.env) L.cell (BF (env:=X.env) yB);exact q
    exact L.free _ hm rfl
   obtain⟨m,hn,hl⟩:=I4.loc;obtain⟨u,r,l⟩:=hl j x v hy hσ (GQ.elim (fun z => .inr (.inl z)) fun z => .inr (.inr z));refine⟨u,r,.inr ⟨BF (env:=X.env) yB,?_⟩⟩
   rcases l with⟨kl,_⟩ | ⟨_,c,pW,z⟩
   ·rcases GQ with q | q
    ·rw [q]at kl;cases kl
    ·rw [q]at kl;cases kl
   ·have hm:(x,NameKind.free)∈scope.names:=EZ (env:=X.env) L.cell (BF (env:=X.env) yB);obtain⟨c',HH⟩:=iI _ hm rfl;have:=gX _ _ HH;rw [pW]at this;cases this;exact⟨c,HH,z⟩
  ·show upd H1 s2.heap.objs.size (.lst []) G2.objs.size=none;rw [aY (bV Ac)];exact Ae
  ·have jK:p∈X.pn:=by simpa [eV]using hp
   obtain⟨e,n,ne,nf,d⟩:=I4.pin p (wM _ jK);obtain⟨e3,_⟩:=I3.pin p (wM _ jK);refine⟨e,n,?_,fun z=>?_,d⟩
   ·exact dA (cO e3)
   ·rcases eN.mp (I3.uU p.1 z)with q | q
    ·exact ne q
    ·exact nf q
  ·simp [rX,eV]
 obtain⟨ZT,ZS,ZU⟩:=hb cl G2.objs.size { s2 with heap:=G2 } (upd H1 s2.heap.objs.size (.lst [])) fp;obtain⟨W,⟨m0,w0⟩,turn⟩:=h2 s2.heap.objs.size HL;have EM:tn 0 h₁:=T.keep _ _ _ xD fun b hb o e=>xV b o (xU b o e);have cV:∀{H':Hp},(∀b∈fp,H' b=none)→∀b∈fp,pH (eV X scope ls js cl G2.objs.size { s2 with heap:=G2 } (upd H1 s2.heap.objs.size (.lst [])) fp) [] H' b:=fun hn b hb=>by
  refine⟨hn b hb,HX b hb,fun z=>?_,.inl hb,fun x c e=>(f2 b hb).2.2.2.2.1 x c (gX x c e),fun p hp=>?_⟩
  ·rcases eN.mp (I3.uU b z)with q | q
   ·exact(f2 b hb).2.1 q
   ·exact(f2 b hb).2.2.1 q
  ·have jK:p∈X.pn:=by simpa [eV]using hp
   exact(f2 b hb).2.2.2.2.2 p (wM _ jK)
 have Bm:∀b∈fp,(upd H1 s2.heap.objs.size (.lst [])) b=none:=fun b hb=>by
  rw [aY (show b≠s2.heap.objs.size from dA (yT b hb))];exact(f2 b hb).1
 have loop:∀s4:Shared,s4 = { s2 with heap:=h₁,toks:=s2.toks+0 } →
   codeAny (model X.prog X.w) X.A (.compLoop (.ListComp elt [⟨tg,iter,ifs,0⟩] scope pos) 0 (.ref it) (.ref s2.heap.objs.size) (compEnvC scope cl G2.objs.size X.env))
    (compPost (model X.prog X.w) X.A X.xe none (EP X pins σ Q) (.ref s2.heap.objs.size) G2.objs.size) s4:=by
  rintro s4 rfl;refine Qp (fun n s'=>∃i σ' H',Inv (eV X scope ls js cl G2.objs.size { s2 with heap:=G2 } (upd H1 s2.heap.objs.size (.lst [])) fp) [] σ' H' s'∧tn i s'.heap∧(∀b∈fp,H' b=none)∧W i n σ' H') ?_ m0 ⟨0,_,_,IC,EM,Bm,w0⟩;rintro n s5 ⟨i,σ5,H5,I5,tD,yS,w5⟩
  rcases turn i n σ5 H5 w5 with⟨stop,qn⟩ | ⟨go,N,hN,step⟩
  ·refine bA (T.done (eV X scope ls js cl G2.objs.size { s2 with heap:=G2 } (upd H1 s2.heap.objs.size (.lst [])) fp) rfl rfl rfl hc i [] s5 σ5 H5 _ I5 (cV yS) tD stop) fun r s6 ⟨hr,I6⟩=>?_;subst hr;obtain⟨m6,ZD,_⟩:=I6.loc;refine⟨m6,ZD,fun h' kW=>⟨.ref s2.heap.objs.size,H5,?_,rfl,qn⟩⟩;have SD:Un (fS X.stack) fp (upd H1 s2.heap.objs.size (.lst [])) H5 G2 s6.heap:=I6.base;have SE:Un (fS X.stack) fp H1 (upd H1 s2.heap.objs.size (.lst [])) s2.heap G2:=Un.laid xU bP HL;have un:=SE.trans SD;have vI:∀b o,s2.heap.get? b=some o→b≠G2.objs.size:=fun b o e=>dA (by rw [OG];exact wJ (cO e));have SF:Un (fS X.stack) fp H1 H5 s2.heap h':=⟨fun b o e n a x=>(kW.2 b (vI b o e)).trans (un.keep b o e n a x),fun b o e n a x=>by
    obtain⟨sl,q⟩:=un.slot b o e n a x;exact⟨sl,(kW.2 b (vI b o e)).trans q⟩,un.free,fun b o e x=>by
    obtain⟨o',q⟩:=un.there b o e x;exact⟨o',(kW.2 b (vI b o e)).trans q⟩,un.kH,un.jL,un.kI⟩
   have GK:eR X.prog X.w H5 h':=fun b o e=>by
    refine(I6.aH b o e).nC (fun c u pW q=>(kW.2 c ?_).trans q) (fun _ q=>q) fun _ _ q=>q;have yJ:H5 G2.objs.size=none:=I6.free;rintro rfl
    rcases pW with z | z
    ·subst z;rw [yJ]at e;cases e
    ·rw [yJ]at z;cases z
   refine I2.IJ (s':={ s6 with heap:=h' }) (ch:=fp) ?_ SF GK I6.bare fun b hb=>⟨(f2 b hb).2.2.2.1,(f2 b hb).2.1,(f2 b hb).2.2.2.2.1,(f2 b hb).2.2.2.2.2⟩
   exact I6.os
  ·refine bA (T.item (eV X scope ls js cl G2.objs.size { s2 with heap:=G2 } (upd H1 s2.heap.objs.size (.lst [])) fp) rfl rfl rfl hc i [] s5 σ5 H5 _ I5 (cV yS) tD go) fun r s6 ⟨u,hr,h6⟩=>?_;subst hr;refine bA h6 fun _ s7 ⟨x,H7,I7,r7,y7,xC,Bl⟩=>?_;have Fm:=I7.pinned (cV Bl) (T.obj _ _ xC);refine bA (ZT _ s7 σ5 H7 x u _ Fm r7 (step x H7 y7)) fun _ s8 ⟨σ8,H8,I8,q8⟩=>?_;refine bA (ZS _ s8 σ8 H8 _ I8 q8) fun ok s9 ⟨H9,I9,q9⟩=>?_;have again:∀{σa:St} {Ha:Hp} {sa:Shared},Inv (eV X scope ls js cl G2.objs.size { s2 with heap:=G2 } (upd H1 s2.heap.objs.size (.lst [])) fp) ([]++AY fp s7.heap) σa Ha sa→N σa Ha →
     ∃m,m<n∧∃i σ' H',Inv (eV X scope ls js cl G2.objs.size { s2 with heap:=G2 } (upd H1 s2.heap.objs.size (.lst [])) fp) [] σ' H' sa∧tn i sa.heap∧(∀b∈fp,H' b=none)∧W i m σ' H':=fun{σa Ha sa} Ia na=>by
    obtain⟨m',hm,wa⟩:=hN σa Ha na;refine⟨m',hm,i+1,σa,Ha,Ia.AK,T.keep _ _ _ xC fun b hb o e=>(Ia.pin (b,o) (nO _ (nO _ (xS hb e)))).1,fun b hb=>?_,wa⟩;obtain⟨o,e,d⟩:=T.obj _ _ xC b hb;exact(Ia.pin (b,o) (nO _ (nO _ (xS hb e)))).2.1
   cases ok with
   | false=>exact again I9 q9
   | true =>
    refine bA (ZU _ s9 σ8 H9 _ I9 q9) fun y UY ⟨z,H10,JI,VM,ys,hD,dD,nn⟩=>?_;obtain⟨zz,aL,k,r,hl,e⟩:=JI.FV hD;refine call_meets F.slot_list_append ⟨_,e,rfl⟩ F.entry_list_append (Uq _ _) (PySem.list_append s2.heap.objs.size aL.toArray k y (by rw [fU];omega)) ⟨e,?_⟩;refine again (JI.WL (its':=aL++[y]) (t':=UY.toks) hD e ?_ (r.append (.cons VM .nil)) ?_) nn
    ·simp
    ·simp;omega
 exact codeAny_compStart_list (loop _ rfl) (T.self _ 0 _ _ _ EM (loop _ rfl))
end
section
variable{X:Cx}
theorem aqD(hc:X.calm=true):jR X (.builtin "sum") (fun xs H Q=>∃(a:Addr) (ns:List Int),xs=[.ref a]∧eX X.K H a (ns.map V.int)∧Q (.int ns.sum) H):=by
 intro pins s σ H xs us Q I r h;obtain⟨a,ns,rfl,hq,q⟩:=h;obtain⟨u,rfl,ru⟩:=vals1 r;cases ru;obtain⟨aL,rv,pl,hz⟩:=I.list hq;have hi:IntsAre aL ns:=intsAre_of rv;obtain⟨xs,Mu⟩:=hi.allInts.items;have hl:s.heap.IsList a (intItems xs):=Mu ▸ pl.isList;refine sum_intListG (I.ok.hd hc) hl fun h' tk t' hk=>?_;have e:preSum (numAt xs) xs.size=ns.sum:=by
  rw [preSum_eq,Er (by simp),← nums_intItems,← Mu,show aL.toArray.toList=aL from rfl,hi.numsOf]
 exact⟨.int ns.sum,H,I.kept (t':=tk) hk,⟨t',by rw [e]⟩,q⟩
theorem aqO:jR X (.builtin "isinstance") (fun xs H Q=>∃x n t b,xs=[x,.ty n]∧nY X.K H x t∧kitOne X.K t (.type n)=some b∧Q (.bl b) H):=by
 intro pins s σ H xs us Q I r h;obtain⟨x,n,t,b,rfl,ty,e,q⟩:=h;obtain⟨u,v,rfl,rx,ry⟩:=vals2 r;cases ry;exact ajW I rx ty e fun tk=>⟨.bl b,H,I.tok tk,rfl,q⟩
end
inductive Dt where
 | int (i:Int) | bl (b:Bool) | str (x:Str) | bH | tup (ds:List Dt) | lst (ds:List Dt)
def Den(K:Frag)(H:Hp):Nat→V→Dt→Prop
 | _,v,.int j=>v = .int j
 | _,v,.bl b=>v = .bl b
 | _,v,.str x=>v = .str x
 | _,v,.bH=>v = .bH
 | 0,_,.tup _=>False
 | 0,_,.lst _=>False
 | n+1,v,.tup ds=>∃a xs,v = .ref a∧fM K H a xs∧Paired (Den K H n) xs ds
 | n+1,v,.lst ds=>∃a xs,v = .ref a∧eX K H a xs∧Paired (Den K H n) xs ds
theorem gJ.MB{K:Frag}{H H':Hp}{a:Addr}{xs:List V}(e:gJ H H')(h:fM K H a xs):fM K H' a xs:=by
 rcases h with(h | ⟨o,h⟩) | h
 ·exact .inl (.inl (e _ _ h))
 ·exact .inl (.inr ⟨o,e _ _ h⟩)
 ·exact .inr h
theorem Den.same{K:Frag}{H H':Hp}(e:gJ H H'):∀{n:Nat} {v:V} {d:Dt},Den K H n v d→Den K H' n v d:=by
 intro n
 induction n with
 | zero=>intro v d h;cases d <;> first | exact h | exact h.elim
 | succ n ih =>
  intro v d h;cases d with
  | tup ds =>
   obtain⟨a,xs,h1,h2,h3⟩:=h;exact⟨a,xs,h1,e.MB h2,Paired.xT h3 fun _ _ q=>ih q⟩
  | lst ds =>
   obtain⟨a,xs,h1,h2,h3⟩:=h;exact⟨a,xs,h1,e.seq h2,Paired.xT h3 fun _ _ q=>ih q⟩
  | int i=>exact h
  | bl b=>exact h
  | str x=>exact h
  | bH=>exact h
theorem Paired.get{α β:Type}{F:α→β→Prop}:∀{l₁:List α} {l₂:List β} {i:Nat} {a:α},Paired F l₁ l₂→l₁[i]? = some a→∃b,l₂[i]? = some b∧F a b
 | _,_,_,_,.nil,e=>by simp at e
 | _,_,0,_,.cons r _,e=>by simp at e;subst e;exact⟨_,rfl,r⟩
 | _,_,i+1,x,.cons _ t,e=>by
  obtain⟨u,h1,h2⟩:=Paired.get (i:=i) (a:=x) t (by simpa using e);exact⟨u,by simpa using h1,h2⟩
structure HasFn(K:Frag)(mg:Str→Option Value)(x:Str)(st:Stmt):Prop where
 ex:∃f fd,mg x=some (.ref f)∧oE K x x st f fd
theorem pY{K:Frag}{h:Heap}{mg:Str→Option Value}{x:Str}{st:Stmt}{f:Addr}{oc:Value}{od an:Option Addr}{iQ:Array (Option Value)}{kV doc pm aV ct:Value}(X:K.In h)(G:h.Ns mainGlobals mg)
  (a:nsIn K mainGlobals x=some (some (.ref f))) (l:K.lookup f=some ⟨oc,od,.func (fnOf x x (kN st) (fB st) (aZ st) .none kV doc pm an aV ct),iQ⟩)
  (c:codeIn K aV x=true) (k:keepIn K (.ref f)=true):HasFn K mg x st:=⟨⟨f,_,mg_of X G a,HV l c k⟩⟩
structure Def(P:Program)(w:World)(K:Frag)(mg:Str→Option Value)(base:Heap)(x:Str)(k:Nat)(ps:List Str)(sp:Sp):Prop where
 ex:∃f fd,gC P w K mg base sS k f fd ps sp∧mg x=some (.ref f)∧keepIn K (.ref f)=true∧Binds K fd ps []
theorem Def.of{P:Program}{w:World}{K:Frag}{mg:Str→Option Value}{base:Heap}{x:Str}{st:Stmt}{N ps:List Str}{k:Nat}{sp:Sp}(h:HasFn K mg x st)(S:dI N ps (aZ st))
  (bind:∀(kV doc pm:Value) (an:Option Addr) (aV ct:Value) (us:List Value),us.length=ps.length→bindArgs (fnOf x x (kN st) (fB st) (aZ st) .none kV doc pm an aV ct) ⟨us,[]⟩=pure (ps.zip us))
  (len:∀vs H Q E,sp vs H Q E→vs.length=ps.length)
  (kD:∀(f:Addr) (aV:Value) (A:Around) (outer:List Env) (s:Shared) (H:Hp) (vs:List V) (Q:VK) (E:XK),cE k (A.deeper (envOfC x (aZ st) s.heap.objs.size f aV))→sp vs H Q E →
   ∃t,mE (rD sS P w K mg base N x (aZ st) f aV A outer s H E).oQ (fB st) t∧t { nx:=fun _ H'=>Q .bH H',rt:=Q } (start N vs) H):Def P w K mg base x (k+1) ps sp:=by
 obtain⟨f,fd,hm,F⟩:=h.ex;exact⟨f,fd,F.ok S len (kD f),hm,F.kp,F.binds bind⟩
theorem gJ.new{H:Hp}{p:Addr}{o:HO}(h:H p=none):gJ H (upd H p o):=fun b u e=>by rw [aY (iF e h)];exact e
def Kept(l:Addr)(H H':Hp):Prop:=∀b o,b≠l→H b=some o→H' b=some o
theorem Kept.upd(l:Addr)(H:Hp)(o:HO):Kept l H (upd H l o):=fun b u hb e=>by rw [aY hb];exact e
theorem gJ.kept{l:Addr}{H H':Hp}(h:gJ H H'):Kept l H H':=fun b o _ e=>h b o e
theorem Kept.trans{l:Addr}{H H1 H2:Hp}(a:Kept l H H1)(b:Kept l H1 H2):Kept l H H2:=fun c o hc e=>b c o hc (a c o hc e)
theorem Kept.MB{K:Frag}{l:Addr}{H H':Hp}{a:Addr}{xs ys:List V}(e:Kept l H H')(hl:H l=some (.lst ys))(h:fM K H a xs):fM K H' a xs:=by
 rcases h with(h | ⟨o,h⟩) | h
 ·exact .inl (.inl (e _ _ (rV h hl (by intro z;cases z)) h))
 ·exact .inl (.inr ⟨o,e _ _ (rV h hl (by intro z;cases z)) h⟩)
 ·exact .inr h
def wO(K:Frag)(H:Hp)(v:V)(ns:List Int):Prop:=∃p,v = .ref p∧fM K H p (ns.map V.int)
theorem wO.same{K:Frag}{H H':Hp}{v:V}{ns:List Int}(e:gJ H H')(h:wO K H v ns):wO K H' v ns:=let ⟨p,a,b⟩:=h; ⟨p,a,e.MB b⟩
theorem wO.kept{K:Frag}{l:Addr}{H H':Hp}{v:V}{ns:List Int}{ys:List V}(e:Kept l H H')(hl:H l=some (.lst ys))(h:wO K H v ns):wO K H' v ns:=let ⟨p,a,b⟩:=h; ⟨p,a,e.MB hl b⟩
def Rows(K:Frag)(H:Hp)(xs:List V)(rs:List (List Int)):Prop:=Paired (wO K H) xs rs
theorem Rows.same{K:Frag}{H H':Hp}{xs:List V}{rs:List (List Int)}(e:gJ H H')(h:Rows K H xs rs):Rows K H' xs rs:=Paired.xT h fun _ _ q=>q.same e
theorem Rows.kept{K:Frag}{l:Addr}{H H':Hp}{xs ys:List V}{rs:List (List Int)}(e:Kept l H H')(hl:H l=some (.lst ys))(h:Rows K H xs rs):Rows K H' xs rs:=Paired.xT h fun _ _ q=>q.kept e hl
theorem Rows.snoc{K:Frag}{H:Hp}{xs:List V}{rs:List (List Int)}{v:V}{r:List Int}(h:Rows K H xs rs)(q:wO K H v r):Rows K H (xs++[v]) (rs++[r]):=Paired.snoc h q
theorem Rows.reverse{K:Frag}{H:Hp}:∀{xs:List V} {rs:List (List Int)},Rows K H xs rs→Rows K H xs.reverse rs.reverse
 | _,_,.nil => .nil
 | _,_,.cons q t=>by rw [JA,JA];exact(Rows.reverse t).snoc q
def arL(h₀ h:Heap)(H:Hp)(x:Addr)(vs:Array Value):Prop :=
 ∃T oT ts,vs[1]? = some (.ref T)∧T≠x∧h₀.get? T=none∧H T=none∧h.get? T=some oT∧oT.data = .fields ts∧3<ts.size
def kP(h₀ h:Heap)(H:Hp)(x:Addr)(cls:Value)(dx:Option Addr)(tb:Bool):Prop :=
 h₀.get? x=none∧H x=none∧∃oe vs,h.get? x=some oe∧oe.cls=cls∧oe.dict=dx∧oe.data = .fields vs∧1<vs.size∧((tb=false∧vs[1]? = some .none)∨arL h₀ h H x vs)
theorem kP.any{h₀ h:Heap}{H:Hp}{x:Addr}{cls:Value}{dx:Option Addr}{tb:Bool}(e:kP h₀ h H x cls dx tb):kP h₀ h H x cls dx false:=by
 obtain⟨a,b,oe,vs,c1,c2,c3,c4,c5,c6⟩:=e;exact⟨a,b,oe,vs,c1,c2,c3,c4,c5,c6.imp (fun z=>⟨rfl,z.2⟩) id⟩
structure nZ(X:Cx):Prop where
 pN:X.stack=X.env::X.outer
 HW:X.env.frame=some X.env.locals
 pn:X.pn=[]
theorem nZ.mem{X:Cx}(t:nZ X){b:Addr}:b∈fS X.stack↔b=X.env.locals∨b∈X.fs:=by
 rw [t.pN];unfold fS;rw [Fb,t.HW];exact eN
section
variable{X:Cx}{σ:St}{H:Hp}{s:Shared}
theorem Inv.VF{h':Heap}{ch:List Addr}(I:Inv X [] σ H s)(t:nZ X)(nI:∀b∈ch,X.s₀.heap.get? b=none∧H b=none∧∃o vs,s.heap.get? b=some o∧o.data = .fields vs)
  (keep:∀b o,b∉fS X.stack→b∉ch→s.heap.get? b=some o→h'.get? b=some o) (slot:∀b o,b∈fS X.stack→s.heap.get? b=some o→∃sl,h'.get? b=some { o with slots:=sl }) :
  Inv X [] σ H { s with heap:=h' }:=by
 have ah3:∀c v,s.heap.IsCell c v→c∉ch:=fun c v ⟨o,ho,hd⟩ hc=>by
  obtain⟨_,_,o',vs,e,d⟩:=nI c hc;rw [ho]at e;cases e;rw [hd]at d;cases d
 have any:∀b o,b∉ch→s.heap.get? b=some o→∃sl,h'.get? b=some { o with slots:=sl }:=fun b o hc e=>by
  by_cases hb:b∈fS X.stack
  ·exact slot b o hb e
  ·exact⟨o.slots,keep b o hb hc e⟩
 have cellK:∀c v,s.heap.IsCell c v→h'.IsCell c v:=fun c v z=>by
  obtain⟨o,ho,hd⟩:=id z;obtain⟨sl,e⟩:=any c o (ah3 c v z) ho;exact⟨_,e,hd⟩
 have old:∀b o,X.s₀.heap.get? b=some o→b≠X.env.locals∧b∉ch:=fun b o e =>
  ⟨dA (lC (cO e) I.ok.above),fun hc=>by rw [(nI b hc).1]at e;cases e⟩
 have nfr:∀b,b≠X.env.locals→b∉X.fs→b∉fS X.stack:=fun b h1 h2 z=>(t.mem.mp z).elim h1 h2;refine⟨I.ok,I.os,I.bare,⟨fun b o e n hb hx=>?_,fun b o e n hb hx=>?_,I.base.free,fun b o e hx=>?_,I.base.kH,I.base.jL,I.base.kI⟩,?_,fun x c e=>?_,I.free,I.jM,fun p hp=>?_,fun b u e=>?_,I.len⟩
 ·exact keep b o (nfr b (old b o e).1 hb) (old b o e).2 (I.base.keep b o e n hb hx)
 ·obtain⟨sl,e1⟩:=I.base.slot b o e n hb hx;obtain⟨ES,e2⟩:=any b _ (old b o e).2 e1;exact⟨ES,e2⟩
 ·obtain⟨o',e1⟩:=I.base.there b o e hx;obtain⟨sl,e2⟩:=any b o' (old b o e).2 e1;exact⟨_,e2⟩
 ·obtain⟨m,hn,hl⟩:=I.loc;obtain⟨o,es,ep,ho,hd,r⟩:=id hn;have hLc:X.env.locals∉ch:=fun hc=>by
   obtain⟨_,_,o',vs,e,d⟩:=nI _ hc;rw [ho]at e;cases e;rw [hd]at d;cases d
  obtain⟨sl,e⟩:=any _ o hLc ho;refine⟨m,⟨_,es,ep,e,hd,r⟩,fun i x v e1 e2 e3=>?_⟩;obtain⟨u,ru,l⟩:=hl i x v e1 e2 e3;refine⟨u,ru,?_⟩
  rcases l with l | ⟨k,c,ec,z⟩
  ·exact .inl l
  ·exact .inr ⟨k,c,ec,cellK c _ z⟩
 ·obtain⟨v,z⟩:=I.cell x c e;exact⟨v,cellK c v z⟩
 ·rw [t.pn]at hp;simp at hp
 ·refine(I.aH b u e).nC (fun c v hc q=>keep c v ?_ ?_ q) (fun _ q=>q) fun _ _ q=>q
  ·intro z;have f:=I.LR c z
   rcases hc with y | y
   ·rw [y,e]at f;cases f
   ·rw [y]at f;cases f
  ·intro z;have f:=(nI c z).2.1
   rcases hc with y | y
   ·rw [y,e]at f;cases f
   ·rw [y]at f;cases f
variable{M:Model}{E:Value→Shared→Prop}{x:Addr}{cls:Value}{dx:Option Addr}
theorem kP.MX(I:Inv X [] σ H s){b:Addr}{o:Obj}{vs:Array Value}(e:s.heap.get? b=some o)(d:o.data = .fields vs):b∉fS X.stack:=fun hm=>by
 obtain⟨_,o',ho,hnf⟩:=I.stack.mem hm;rw [e]at ho;cases ho;exact hnf vs d
theorem Pt(I:Inv X [] σ H s)(t:nZ X){oe:Obj}{vs:Array Value}{head:Value}{had:Bool}{Q:Unit→Shared→Prop}(tO:X.s₀.heap.get? x=none)(qW:H x=none)(he:s.heap.get? x=some oe)(hd:oe.data = .fields vs)(hsz:1<vs.size)
  (q:∀h',Inv X [] σ H { s with heap:=h' }→kP X.s₀.heap h' H x oe.cls oe.dict true→Q () { s with heap:=h' }) :
  wpAny M X.A (do let a ← frameOf X.env;let pl ← entryPlaceOf X.env.locals had;let b ← EntryCells.newEntry head a .none (rawInt X.env.locals) .none pl;setField (.ref x) 1 b) Q E s:=by
 have GW:X.A.frames=some (X.env::X.outer):=by rw [← t.pN];exact I.ok.frames
 have hl:s.heap.FunFrames X.base (X.env::X.outer):=by rw [← t.pN];exact I.stack
 have cA:x∉fS X.stack:=kP.MX I he hd;have efr:(X.env::X.outer).filterMap (·.frame)=fS X.stack:=by rw [t.pN];rfl
 refine aF (wpAny_frameOf_fun GW hl t.HW fun h1 s1=>aF (wpAny_entryPlaceOf fun pl dS=>?_));rw [efr]at s1;unfold EntryCells.newEntry;unfold newFields;refine aF (mK ?_ (dS.sizeOk5 _ _ _ _ _));have Nu:h1.get? x=some oe:=(s1.2.1 x cA).trans he;generalize Mx:({ cls := .type "traceback",dict:=none,data := .fields ([head,.ref X.env.locals,.none,rawInt X.env.locals,.none]++(if pl.isEmpty then List.replicate 6 Value.none else pl)).toArray }:Obj)=to;have hte:∃ts,to.data = .fields ts∧3<ts.size:=⟨_,by rw [← Mx],by simp only [fU,sP,jP,QO];omega⟩;have htf:to.isFreed=false:=by rw [← Mx];rfl
 have Nt:(h1.push to).get? x=some oe:=cH _ Nu;have tV:h1.objs.size≠x:=CW (cO Nu);refine wpAny_setField Nt hd hsz ?_;have HF:=Obj.data_mapFields hd (·.setIfInBounds 1 (Value.ref h1.objs.size));have he3:=JJ (Obj.mapFields (·.setIfInBounds 1 (Value.ref h1.objs.size))) Nt (Obj.isFreed_of_fields HF);have hT3:=(pG (h1.push to) (Obj.mapFields (·.setIfInBounds 1 (Value.ref h1.objs.size))) (bV tV)).trans (eY h1 htf);have kp:∀b o,b≠x→h1.get? b=some o→((h1.push to).update x (Obj.mapFields (·.setIfInBounds 1 (Value.ref h1.objs.size)))).get? b=some o:=fun b o hb e =>
  (pG _ _ (bV hb)).trans (cH _ e)
 have vT:X.s₀.heap.get? h1.objs.size=none:=by
  cases e:X.s₀.heap.get? h1.objs.size with
  | none=>rfl
  | some o =>
   have h2:=lC (cO e) I.sz;rw [s1.1]at h2;exact absurd h2 (Nat.lt_irrefl _)
 have vS:H h1.objs.size=none:=by rw [s1.1];exact I.aH.fresh bP
 refine q _ (I.VF t (ch:=[x]) (fun b hb=>?_) (fun b o hb hc e=>?_) fun b o hb e=>?_) ⟨tO,qW,_,_,he3,Obj.cls_mapFields _ _,?_,HF,by simpa using hsz,.inr ⟨h1.objs.size,to,?_⟩⟩
 ·rw [nN.mp hb];exact⟨tO,qW,oe,vs,he,hd⟩
 ·exact kp b o (fun z=>hc (by rw [z];exact nN.mpr rfl)) ((s1.2.1 b hb).trans e)
 ·obtain⟨sl,e1⟩:=s1.2.2 b o e;exact⟨sl,kp b _ (fun z=>cA (z ▸ hb)) e1⟩
 ·obtain⟨c,d,dt,sl⟩:=oe;cases dt <;> rfl
 ·obtain⟨ts,d1,d2⟩:=hte;exact⟨ts,by simp [hsz],tV,vT,vS,hT3,d1,d2⟩
theorem Le(I:Inv X [] σ H s)(t:nZ X){tb:Bool}{Q:Unit→Shared→Prop}(e:kP X.s₀.heap s.heap H x cls dx tb)
  (q:∀h',Inv X [] σ H { s with heap:=h' }→kP X.s₀.heap h' H x cls dx true→Q () { s with heap:=h' }):wpAny M X.A (noteFrame (.ref x) X.env) Q E s:=by
 obtain⟨tO,qW,oe,vs,he,rfl,rfl,hd,hsz,EK⟩:=id e;unfold noteFrame;simp only [t.HW]
 rcases EK with⟨_,h1⟩ | ⟨T,oT,ts,h1,tV,vT,vS,hT,qY,h3⟩
 ·refine aF (wW he hd h1 ?_);rw [if_neg (by decide)];exact Pt I t tO qW he hd hsz q
 ·refine aF (wW he hd h1 ?_);rw [if_pos (show(Value.ref T != Value.none)=true from by simp)];obtain⟨v3,hv3⟩:∃v3,ts[3]? = some v3:=⟨ts[3],Gd h3⟩;refine aF (wW hT qY hv3 ?_)
  by_cases hb:(v3 == rawInt X.env.locals)=true
  ·rw [if_pos hb];exact aS (q s.heap I ⟨tO,qW,oe,vs,he,rfl,rfl,hd,hsz,.inr ⟨T,oT,ts,h1,tV,vT,vS,hT,qY,h3⟩⟩)
  ·rw [if_neg hb];refine aF (wpAny_setField hT qY h3 ?_);have xM:∀b,b≠T→(s.heap.update T (Obj.mapFields (·.setIfInBounds 3 Value.none))).get? b=s.heap.get? b:=fun b hb=>pG _ _ (bV hb);have ZX:T∉fS X.stack:=kP.MX I hT qY;have I1:Inv X [] σ H { s with heap:=s.heap.update T (Obj.mapFields (·.setIfInBounds 3 Value.none)) }:=I.VF t (ch:=[T]) (fun b hb=>by
    rw [nN.mp hb];exact⟨vT,vS,oT,ts,hT,qY⟩) (fun b o _ hc e=>(xM b (fun z=>hc (by rw [z];exact nN.mpr rfl))).trans e) fun b o hb e=>⟨o.slots,(xM b (fun z=>ZX (z ▸ hb))).trans e⟩
   exact Pt I1 t tO qW ((xM x (bV tV)).trans he) hd hsz q
theorem Pc{A:Around}(I:Inv X [] σ H s)(t:nZ X){fo:Option Addr}{Q:Unit→Shared→Prop}(e:kP X.s₀.heap s.heap H x cls dx true)
  (q:∀h',Inv X [] σ H { s with heap:=h' }→kP X.s₀.heap h' H x cls dx true→Q () { s with heap:=h' }):wpAny M A (setFlight (.ref x) fo) Q E s:=by
 obtain⟨tO,qW,oe,vs,he,rfl,rfl,hd,hsz,EK⟩:=id e
 rcases EK with⟨z,_⟩ | ⟨T,oT,ts,h1,tV,vT,vS,hT,qY,h3⟩
 ·cases z
 unfold setFlight;refine aF (wW he hd h1 ?_);rw [if_pos (show(Value.ref T != Value.none)=true from by simp)];refine wpAny_setField hT qY h3 ?_;generalize (fo.elim Value.none fun f=>rawInt f)=fv;have xM:∀b,b≠T→(s.heap.update T (Obj.mapFields (·.setIfInBounds 3 fv))).get? b=s.heap.get? b:=fun b hb=>pG _ _ (bV hb);have ZX:T∉fS X.stack:=kP.MX I hT qY;have HF:=Obj.data_mapFields qY (·.setIfInBounds 3 fv);refine q _ (I.VF t (ch:=[T]) (fun b hb=>?_) (fun b o _ hc e=>(xM b (fun z=>hc (by rw [z];exact nN.mpr rfl))).trans e) fun b o hb e=>⟨o.slots,(xM b (fun z=>ZX (z ▸ hb))).trans e⟩)
  ⟨tO,qW,oe,vs,(xM x (bV tV)).trans he,rfl,rfl,hd,hsz,.inr ⟨T,_,_,h1,tV,vT,vS,JJ _ hT (Obj.isFreed_of_fields HF),HF,by simpa using h3⟩⟩
 rw [nN.mp hb];exact⟨vT,vS,oT,ts,hT,qY⟩
end
abbrev WX:=St→Value→Option Addr→Hp→Prop
def XE(X:Cx)(W:WX):Value→Shared→Prop:=fun e s'=>∃σ H' x cls dx,e = .ref x∧Inv X [] σ H' s'∧kP X.s₀.heap s'.heap H' x cls dx false∧W σ cls dx H'
section
variable{X:Cx}
theorem agM(t:nZ X){W:WX}:PassesOwn (model X.prog X.w) X.A X.env (XE X W):=by
 rintro e s' ⟨σ,H',x,cls,dx,rfl,I,ex,w⟩;unfold notedBy;refine Le I t ex fun h1 I1 e1=>?_;unfold cameBackBy;obtain⟨tO,qW,oe,vs,he,hc,OB,hd,hsz,EK⟩:=id e1
 rcases EK with⟨z,_⟩ | ⟨T,oT,ts,tW,tV,vT,vS,hT,qY,h3⟩
 ·cases z
 refine aF (wW he hd tW ?_);rw [if_neg (show ¬((Value.ref T == Value.none)=true)from by simp)];exact Pc I1 t e1 fun h2 I2 e2=>⟨σ,H',x,cls,dx,rfl,I2,e2.any,w⟩
def mI(P:Program)(w:World):nQ:=fun outer H s E e s'=>∃x cls dx H',e = .ref x∧s'.os=s.os∧AllBare s'.gens∧Un (fS outer) [] H H' s.heap s'.heap∧eR P w H' s'.heap∧kP s.heap s'.heap H' x cls dx true∧E cls dx H'
end
structure pF(X:Cx)(W:WX):Prop where
 top:nZ X
 ex:X.ex=[]
 to:∀e s',XE X W e s'→X.xe e s'
 passes:PassesOwn (model X.prog X.w) X.A X.env X.xe
theorem pF.of{X:Cx}(t:nZ X)(hx:X.ex=[])(W:WX):pF (X.mL (XE X W)) W where
 top:=⟨t.pN,t.HW,t.pn⟩
 ex:=hx
 to:=fun e s' ⟨σ,H',x,cls,dx,a,I,b,c⟩=>⟨σ,H',x,cls,dx,a,I.oJ,b,c⟩
 passes:=agM t
theorem Inv.Kn{X:Cx}{pins:List (Addr×Obj)}{σ:St}{H:Hp}{s:Shared}(I:Inv X pins σ H s):Inv X [] σ H s:=I.VV fun p hp=>absurd hp (by simp)
theorem Inv.first{X:Cx}{pins:List (Addr×Obj)}{σ:St}{H:Hp}{s:Shared}(I:Inv X pins σ H s)(hx:X.ex=[]){b:Addr}(h:s.heap.get? b=none):X.s₀.heap.get? b=none:=by
 cases e:X.s₀.heap.get? b with
 | none=>rfl
 | some o =>
  obtain⟨o',e'⟩:=I.base.there b o e (by rw [hx];simp);rw [h]at e';cases e'
theorem kP.first{X:Cx}{pins:List (Addr×Obj)}{σ:St}{H H':Hp}{s:Shared}{h':Heap}{x:Addr}{cls:Value}{dx:Option Addr}{tb:Bool}(I:Inv X pins σ H s)(hx:X.ex=[])(e:kP s.heap h' H' x cls dx tb) :
  kP X.s₀.heap h' H' x cls dx tb:=by
 obtain⟨a,b,oe,vs,c1,c2,c3,c4,c5,c6⟩:=e;refine⟨I.first hx a,b,oe,vs,c1,c2,c3,c4,c5,c6.imp id fun⟨T,oT,ts,d1,d2,d3,d4,d5,d6,d7⟩=>⟨T,oT,ts,d1,d2,I.first hx d3,d4,d5,d6,d7⟩⟩
theorem fN.at{P:Program}{w:World}{H:Hp}{h:Heap}{a:Addr}{o:HO}(x:fN P w H h a o):∃ob,h.get? a=some ob:=by
 cases o with
 | lst xs=>obtain⟨_,_,_,_,e⟩:=x;exact⟨_,e⟩
 | tup xs=>obtain⟨_,_,_,_,e,_⟩:=x;exact⟨_,e⟩
 | dK kvs=>obtain⟨_,_,_,_,o,_,_,e,_⟩:=x;exact⟨_,e⟩
 | dT kvs=>obtain⟨_,_,_,_,o,_,_,e,_⟩:=x;exact⟨_,e⟩
 | set S n=>obtain⟨o,_,_,_,e,_⟩:=x;exact⟨_,e⟩
 | ins C dx fs=>obtain⟨_,_,_,e,_⟩:=x;exact⟨_,e⟩
 | own y=>exact x
 | xd fs=>obtain⟨_,⟨_,_,_,e,_⟩,_⟩:=x;exact⟨_,e⟩
 | MH lo hi=>obtain⟨_,_,_,e⟩:=x;exact⟨_,e⟩
 | cV ob u=>obtain⟨e,_⟩:=x;exact⟨_,e⟩
 | sZ ps=>exact⟨_,show h.get? a=some _ from x⟩
 | met f y=>exact⟨_,show h.get? a=some _ from x⟩
 | ext φ=>obtain⟨_,e,_⟩:=x;exact e
section
variable{P:Program}{w:World}{K:Frag}{mg:Str→Option Value}{base:Heap}
abbrev pB(P:Program)(w:World)(K:Frag)(mg:Str→Option Value)(base:Heap)(N:List Str)(qual:Str)(scope:Scope)(f:Addr)(cd:Value)(A:Around)(outer:List Env)(s:Shared)(H:Hp)(E:XK):Cx :=
 (rD (mI P w) P w K mg base N qual scope f cd A outer s H E).mL (XE (rD (mI P w) P w K mg base N qual scope f cd A outer s H E) fun _=>E)
theorem SM{CX:nQ}{N:List Str}{qual:Str}{scope:Scope}{f:Addr}{cd:Value}{A:Around}{outer:List Env}{s:Shared}{H:Hp}{E:XK}:nZ (rD CX P w K mg base N qual scope f cd A outer s H E):=⟨rfl,rfl,rfl⟩
theorem cQ{N:List Str}{qual:Str}{scope:Scope}{f:Addr}{cd:Value}{A:Around}{outer:List Env}{s:Shared}{H:Hp}{E:XK}:pF (pB P w K mg base N qual scope f cd A outer s H E) (fun _=>E):=pF.of SM rfl _
theorem ND{N:List Str}{qual:Str}{scope:Scope}{f:Addr}{cd:Value}{A:Around}{outer:List Env}{s:Shared}{H:Hp}{E:XK}{st:List Stmt}{t:TS}(h:mE (pB P w K mg base N qual scope f cd A outer s H E) st t) :
  mE (rD (mI P w) P w K mg base N qual scope f cd A outer s H E) st t:=by
 intro pins s1 σ H1 D I hw;refine lF (h pins s1 σ H1 D (I.mL _) hw) (fun _ _ q=>q.oJ) fun e s' hx=>?_;obtain⟨σ',H',x,cls,dx,rfl,I',ex,q⟩:=hx;show wpAny _ _ (leaving _ _) _ _ _;unfold leaving;refine aF (Le (E:=fun e' tF=>mI P w outer H s E e' tF) I' SM ex fun h1 I1 e1=>?_);refine Pc I1 SM e1 fun h2 I2 e2=>?_;exact⟨x,cls,dx,H',rfl,I2.os,I2.bare,I2.base,I2.aH,e2,q⟩
structure RD(P:Program)(w:World)(K:Frag)(mg:Str→Option Value)(base:Heap)(x:Str)(k:Nat)(ps:List Str)(sp:Sp):Prop where
 ex:∃f fd,gC P w K mg base (mI P w) k f fd ps sp∧mg x=some (.ref f)∧keepIn K (.ref f)=true∧Binds K fd ps []
theorem RD.of{x:Str}{st:Stmt}{N ps:List Str}{k:Nat}{sp:Sp}(h:HasFn K mg x st)(S:dI N ps (aZ st))
  (bind:∀(kV doc pm:Value) (an:Option Addr) (aV ct:Value) (us:List Value),us.length=ps.length→bindArgs (fnOf x x (kN st) (fB st) (aZ st) .none kV doc pm an aV ct) ⟨us,[]⟩=pure (ps.zip us))
  (len:∀vs H Q E,sp vs H Q E→vs.length=ps.length)
  (kD:∀(f:Addr) (aV:Value) (A:Around) (outer:List Env) (s:Shared) (H:Hp) (vs:List V) (Q:VK) (E:XK),cE k (A.deeper (envOfC x (aZ st) s.heap.objs.size f aV))→sp vs H Q E →
   ∃t,mE (pB P w K mg base N x (aZ st) f aV A outer s H E) (fB st) t∧t { nx:=fun _ H'=>Q .bH H',rt:=Q } (start N vs) H):RD P w K mg base x (k+1) ps sp:=by
 obtain⟨f,fd,hm,F⟩:=h.ex;refine⟨f,fd,?_,hm,F.kp,F.binds bind⟩;obtain⟨oc,od,kV,doc,pm,an,aV,ct,iQ,rfl,lk,kB⟩:=F.ex;refine HY lk kB S len fun A outer s H vs Q E hr jZ=>?_;obtain⟨t,h,q⟩:=kD f aV A outer s H vs Q E hr jZ;exact⟨t,ND h,q⟩
end
section
variable{X:Cx}{W:WX}{x:Str}{p pos np jN:Pos}{e:Expr}{es:List Expr}{t:TA}
def Ii(sp:Sp)(W:WX)(t:TA):TE:=fun σ H Q=>t σ H fun vs H1=>sp vs H1 Q fun cls dx H'=>W σ cls dx H'
theorem agD{k:Nat}{ps:List Str}{sp:Sp}(T:pF X W)(D:RD X.prog X.w X.K X.mg X.base x k ps sp)(hr:cE k X.A)(hg:Gl X x)(ha:PA X (e::es) t)
  (gH:(x == ("__debug__" : Str))=false:=by decide) (he:starEach (e::es) X.env=(false,eval e X.env)::starEach es X.env:=by rfl) (dS:(backTo pos (starEach es X.env)).any (·.1)=false:=by rfl) :
  PE X (.Call (.Name x p) (e::es) [] pos) (Ii sp W t):=by
 obtain⟨f,fd,F,hm,hk,hb⟩:=D.ex;intro pins s σ H Q I h;refine uO (NF I hg hm ?_ gH);refine callWith_K (h₀:=X.base) I.ok.mod.vL hk (bA (ha pos pins s σ H _ I h) fun us s1 ⟨vs,H1,I1,r,q⟩=>⟨I1.fK,?_⟩) he dS;have hl:us.length=ps.length:=by rw [← r.length];exact F.len _ _ _ _ q
 have pX:=hb s1 us I1.fK (by rw [DI];exact hl);rw [DI]at pX;refine wpAny_call (uA (F.run X.A X.stack s1 H1 ⟨us,[]⟩ us vs Q _ hr I1.OQ pX r q) fun r s' hq=>?_);cases r with
 | error ev =>
  obtain⟨a,cls,dx,H',rfl,os,bare,un,aH,ex,q'⟩:=hq;have I2:=(I1.IJ os un aH bare (fun b z=>absurd z (by simp))).Kn;exact T.to _ _ ⟨σ,H',a,cls,dx,rfl,I2,(ex.first I1 T.ex).any,q'⟩
 | ok fl =>
  cases fl with
  | ret u=>exact I1.after hq
  | next=>exact False.elim hq
  | brk=>exact False.elim hq
  | cont=>exact False.elim hq
abbrev PB:List Value:=[.type "ValueError",.type "Exception",.type "BaseException",.type "object"]
structure Tn(K:Frag)(C:Addr):Prop where
 YM:PySem.W.excIn K C PB "ValueError.__new__" = true
theorem Tn.obj{K:Frag}{C:Addr}(O:Tn K C){h:Heap}(X:K.In h):∃bm N nm q bs HE sn sub ab col dd k0 k1 k2 k3 k5 mN,h.get? C=some (excClassObj nm q C N bs bm HE sn sub ab col dd k0 k1 k2 k3 k5 "ValueError.__new__")∧h.Ns N mN∧mN "__init__" = none∧OwnTail h PB bm:=by
 have q:=O.YM;unfold PySem.W.excIn at q;split at q
 ·rename_i dd cd sl ho;split at q
  ·rename_i C' bm k0 k1 k2 k3 n k5 hm hs;simp only [kR,sI,Uu]at q;obtain⟨⟨⟨⟨⟨rfl,rfl⟩,HC⟩,ht⟩,aH⟩,GN⟩:=q;obtain⟨nm,bs,mro,ns,qn,hd,sn,sub,ab,col,del⟩:=cd;dsimp only at hm HC aH GN;subst hm HC;have lL:sl = #[k0,k1,k2,k3,some (.builtin "ValueError.__new__"),k5]:=by
    obtain⟨l⟩:=sl;simp only at hs;rw [hs]
   subst lL;exact⟨bm,ns,nm,qn,bs,hd,sn,sub,ab,col,dd,k0,k1,k2,k3,k5,_,X _ _ ho,.of_isNs (isNs_of_in X aH),PySem.W.nsMap_none_of_in X aH GN,PySem.W.tail_of_in X ht⟩
  ·cases q
 ·cases q
end
structure XC(K:Frag)(C:Addr):Prop where
 ob:∃nm q N bs bm HE sn sub ab col dd k0 k1 k2 k3 k5,K.lookup C=some (excClassObj nm q C N bs bm HE sn sub ab col dd k0 k1 k2 k3 k5 "ValueError.__new__")
 ga:findIn K (.ref C) "__getattribute__" = some (some (.builtin "BaseException.__getattribute__"))
 gt:findIn K (.ref C) "__getattr__" = some none
 cl:findIn K (.ref C) "__class__" = some (some (.builtin "object.__class__"))
 be:subIn K (.ref C) (.type "BaseException")=some true
 oj:subIn K (.ref C) (.type "object")=some true
section
variable{K:Frag}{C D x:Addr}{oe:Obj}{b:Bool}
theorem XC.get(c:XC K C):∃cd,clsIn K C=some cd∧cd.mro.isEmpty=false∧cd.mro.contains (.ref C)=true∧typeIn K (.ref C)=some (.type "type"):=by
 obtain⟨nm,q,N,bs,bm,HE,sn,sub,ab,col,dd,k0,k1,k2,k3,k5,e⟩:=c.ob;refine⟨{ name:=nm,bases:=bs,mro := .ref C::bm,ns:=N,qualname:=q,hasDict:=HE,slotNames:=sn,subclasses:=sub,abstract:=ab,collection:=col,hasDel:=false },?_,rfl,?_,?_⟩
 ·unfold clsIn;rw [e]
 ·simp
 ·show(K.lookup C).map (·.cls)=_;rw [e];rfl
theorem ai6(cD:XC K D)(cC:XC K C)(s:subIn K (.ref D) (.ref C)=some b):kitOne K (.ref D) (.ref C)=some b:=by
 unfold kitOne;split
 ·rename_i q;have e:D=C:=Value.ref.inj (sI.mp q);subst e;obtain⟨cd,h1,h2,h3,_⟩:=cD.get;change mroIn K D (.ref D)=some b at s;unfold mroIn at s;rw [h1]at s;simp only [Eb,h2,h3]at s;simpa using s
 ·obtain⟨cd,h1,_,_,h4⟩:=cC.get;unfold PySem.W.kitCls;simp only [h1,h4];exact s
end
def Cx.II(X:Cx)(x:Addr)(oe:Obj):Cx:={ X with A:=X.A.mark (some (.ref x)),calm:=false,pn:=X.pn++[(x,oe)],xe:=fun _ _=>False }
theorem Cx.Ok.II{X:Cx}(ok:X.Ok)(x:Addr)(oe:Obj):(X.II x oe).Ok :=
 ⟨ok.mod,ok.kind,ok.glob,ok.blt,ok.above,ok.inj,ok.has,ok.zF,fun h=>Bool.noConfusion h,ok.frames,ok.pN,ok.yX,ok.bs,ok.nX,ok.rS,ok.vZ,ok.mU,ok.rB⟩
section
variable{X:Cx}{σ:St}{H:Hp}{s:Shared}{x:Addr}{oe:Obj}
theorem Inv.II(I:Inv X [] σ H s)(p:s.heap.get? x=some oe∧H x=none∧x≠X.env.locals∧x∉X.fs∧∀v,oe.data ≠ .cell v):Inv (X.II x oe) [] σ H s :=
 ⟨I.ok.II x oe,I.os,I.bare,I.base,I.loc,I.cell,I.free,I.jM,fun q hq=>by
  have hq:q∈(X.pn++[(x,oe)])++[]:=hq;rw [DI]at hq
  rcases JC.mp hq with z | z
  ·exact I.pin q (wM _ z)
  ·rw [nN.mp z];exact p,I.aH,I.len⟩
theorem kP.pin{cls:Value}{dx:Option Addr}{tb:Bool}(I:Inv X [] σ H s)(t:nZ X)(e:kP X.s₀.heap s.heap H x cls dx tb):∃oe vs,oe.cls=cls∧oe.dict=dx∧oe.data = .fields vs∧s.heap.get? x=some oe∧H x=none∧x≠X.env.locals∧x∉X.fs∧∀v,oe.data ≠ .cell v:=by
 obtain⟨_,qW,oe,vs,he,hc,OB,hd,_⟩:=e;have nf:=kP.MX I he hd;exact⟨oe,vs,hc,OB,hd,he,qW,fun z=>nf (t.mem.mpr (.inl z)),fun z=>nf (t.mem.mpr (.inr z)),fun v z=>by rw [hd]at z;cases z⟩
end
def Ea(X:Cx)(st:List Stmt)(t:TS):Prop:=∀(s:Shared) (σ:St) (H:Hp) (D:Ends),Inv X [] σ H s→t D σ H→wpAny (model X.prog X.w) X.A (execs st X.env) (SP X [] D) X.xe s
abbrev TH:=Addr→Value→Option Addr→TS
section
variable{P:Program}{w:World}{K:Frag}{mg:Str→Option Value}{base:Heap}
theorem Ea.oQ{X:Cx}{st:List Stmt}{t:TS}(h:Ea X.oQ st t):Ea X st t:=fun s σ H D I hw =>
 lF (h s σ H D (I.mL _) hw) (fun _ _ q=>q.oJ) fun _ _ z=>False.elim z
end
def WR(scope sc:Scope)(N:List Str)(js:List Nat):Bool :=
 scope.kind == .function&&(scope.names.all fun y=>y.2 != .cell&&(y.2 != .local||scope.names.lookup y.1 == some .local)&&(y.2 != .free||(sc.names.lookup y.1 == some .cell||sc.names.lookup y.1 == some .free))) &&
 js.all fun j=>match N[j]? with
  | some x=>scope.names.lookup x == some .free
  | none=>false
theorem wN.of{X:Cx}{scope:Scope}{ls:List Str}{js:List Nat}(sc:Scope)(N:List Str)(yD:X.env.scope=sc)(hN:X.N=N)(ok:WR scope sc N js=true):wN X scope ls js:=by
 unfold WR at ok;rw [kR,kR]at ok;obtain⟨⟨h1,h2⟩,h3⟩:=ok;rw [JH]at h2 h3;refine⟨by simpa using h1,fun y hy=>?_,fun y hy hl=>?_,fun y hy hf=>?_,fun j hj=>?_⟩
 ·have q:=h2 y hy;rw [kR,kR]at q;simpa using q.1.1
 ·have q:=h2 y hy;rw [kR,kR]at q;simpa [hl]using q.1.2
 ·have q:=h2 y hy;rw [kR,kR]at q;have q2:=q.2;rw [hf]at q2;unfold Env.kindOf;rw [yD];simpa using q2
 ·have q:=h3 j hj;rw [hN];cases e:N[j]? with
  | none=>rw [e]at q;cases q
  | some x=>rw [e]at q;exact⟨x,rfl,by simpa using q⟩
theorem Kept.same{l:Addr}{H H':Hp}(e:Kept l H H')(hl:H l=none):gJ H H':=fun b o h=>e b o (iF h hl) h
theorem Rows.take{K:Frag}{H:Hp}:∀{xs:List V} {rs:List (List Int)} (k:Nat),Rows K H xs rs→Rows K H (xs.take k) (rs.take k)
 | _,_,0,_ => .nil
 | _,_,_+1,.nil => .nil
 | _,_,k+1,.cons q t => .cons q (Rows.take k t)
theorem Rows.append{K:Frag}{H:Hp}:∀{xs ys:List V} {rs qs:List (List Int)},Rows K H xs rs→Rows K H ys qs→Rows K H (xs++ys) (rs++qs)
 | _,_,_,_,.nil,h=>h
 | _,_,_,_,.cons q t,h => .cons q (Rows.append t h)
end L2
namespace V2
open PySem PySem.Spec PyProof.Rows L2
inductive A where
 | int (i:Int) | bl (b:Bool) | str (x:Str) | bH | ty (n:String) | adr (p:Addr) | CC (p d:Addr) (f:Str) (i:Int) | gl (x:Str) | bK (ns:List Int)
 | tup (ds:List A) | lst (ds:List A) | aB (k:Nat)
inductive Fd where
 | val (a:A) | lst (ds:List A) | aU (kvs:List (Key×A))
@[simp] def Fd.own:Fd→Bool
 | .val _=>false
 | _=>true
inductive Cell where
 | lst (ds:List A) | aU (kvs:List (Key×A)) | ins (cls:Str) (fs:List (Str×Fd)) | tab (x:Str) (pos:Pos) (qual:Str) | dead
@[simp] def Cell.noOwn:Cell→Bool
 | .ins _ fs=>fs.all fun p=>!p.2.own
 | _=>true
structure Exc where
 cls:Str
 fs:List (Str×A)
inductive Rs(α:Type)where
 | ok (a:α) | exc (x:Exc)
abbrev aI:=List Cell
abbrev Ev:=List (Option A)
abbrev Mo(α:Type):=aI→Option (Rs α×aI)
@[simp] def ret{α:Type}(a:α):Mo α:=fun Ω=>some (.ok a,Ω)
@[simp] def mb{α β:Type}(m:Mo α)(k:α→Mo β):Mo β:=fun Ω =>
 match m Ω with
 | some (.ok a,Ω1)=>k a Ω1
 | some (.exc x,Ω1)=>some (.exc x,Ω1)
 | none=>none
@[simp] def stuck{α:Type}:Mo α:=fun _=>none
@[simp] def need{α:Type}(o:Option α):Mo α:=fun Ω=>o.map fun a=>(.ok a,Ω)
@[simp] def mV(p:Prop) [Decidable p]:Mo Unit:=fun Ω=>if p then some (.ok (),Ω)else none
mutual
def Den(K:Frag)(G:Hp)(ι:List Addr):V→A→Prop
 | v,.int j=>v = .int j
 | v,.bl b=>v = .bl b
 | v,.str x=>v = .str x
 | v,.bH=>v = .bH
 | v,.ty n=>v = .ty n
 | v,.adr p=>v = .ref p
 | v, .CC p d f i=>v = .ref p∧G d=some (.xd [(f,.int i)])
 | v,.gl x=>∃C,nsIn K mainGlobals x=some (some (.ref C))∧v = .ref C
 | v,.bK ns=>∃a,v = .ref a∧eX K G a (ns.map V.int)
 | v,.tup ds=>∃a xs,v = .ref a∧G a=some (.tup xs)∧aN K G ι xs ds
 | v,.lst ds=>∃a xs,v = .ref a∧G a=some (.lst xs)∧aN K G ι xs ds
 | v,.aB k=>∃a,v = .ref a∧ι[k]? = some a
def aN(K:Frag)(G:Hp)(ι:List Addr):List V→List A→Prop
 | xs,[]=>xs=[]
 | xs,d::ds=>∃x r,xs=x::r∧Den K G ι x d∧aN K G ι r ds
end
structure Ext(G:Hp)(ι:List Addr)(G':Hp)(ι':List Addr):Prop where
 same:gJ G G'
 pre:∀(k:Nat) (a:Addr),ι[k]? = some a→ι'[k]? = some a
theorem Ext.refl(G:Hp)(ι:List Addr):Ext G ι G ι:=⟨gJ.refl _,fun _ _ h=>h⟩
theorem Ext.trans{G G1 G2:Hp}{ι ι1 ι2:List Addr}(a:Ext G ι G1 ι1)(b:Ext G1 ι1 G2 ι2):Ext G ι G2 ι2:=⟨a.same.trans b.same,fun k x h=>b.pre k x (a.pre k x h)⟩
section
variable{K:Frag}{G G':Hp}{ι ι':List Addr}
mutual
theorem Den.ext(e:Ext G ι G' ι'):∀{v:V} {d:A},Den K G ι v d→Den K G' ι' v d
 | _,.int _,h=>by simpa only [Den]using h
 | _,.bl _,h=>by simpa only [Den]using h
 | _,.str _,h=>by simpa only [Den]using h
 | _,.bH,h=>by simpa only [Den]using h
 | _,.ty _,h=>by simpa only [Den]using h
 | _,.adr _,h=>by simpa only [Den]using h
 | _, .CC _ _ _ _,h=>by
  simp only [Den]at h ⊢;exact⟨h.1,e.same _ _ h.2⟩
 | _,.gl _,h=>by simpa only [Den]using h
 | _,.bK _,h=>by
  simp only [Den]at h ⊢;obtain⟨a,h1,h2⟩:=h;exact⟨a,h1,e.same.seq h2⟩
 | _,.tup ds,h=>by
  simp only [Den]at h ⊢;obtain⟨a,xs,h1,h2,h3⟩:=h;exact⟨a,xs,h1,e.same _ _ h2,aN.ext e h3⟩
 | _,.lst ds,h=>by
  simp only [Den]at h ⊢;obtain⟨a,xs,h1,h2,h3⟩:=h;exact⟨a,xs,h1,e.same _ _ h2,aN.ext e h3⟩
 | _,.aB k,h=>by
  simp only [Den]at h ⊢;obtain⟨a,h1,h2⟩:=h;exact⟨a,h1,e.pre _ _ h2⟩
theorem aN.ext(e:Ext G ι G' ι'):∀{xs:List V} {ds:List A},aN K G ι xs ds→aN K G' ι' xs ds
 | _,[],h=>by simpa only [aN]using h
 | _,d::ds,h=>by
  simp only [aN]at h ⊢;obtain⟨x,r,h1,h2,h3⟩:=h;exact⟨x,r,h1,Den.ext e h2,aN.ext e h3⟩
end
theorem mD{xs:List V}:aN K G ι xs []↔xs=[]:=by simp only [aN]
theorem aN.length:∀{xs:List V} {ds:List A},aN K G ι xs ds→xs.length=ds.length
 | _,[],h=>by simp only [aN]at h;subst h;rfl
 | _,d::ds,h=>by
  simp only [aN]at h;obtain⟨x,r,rfl,h2,h3⟩:=h;simp only [jP,aN.length h3]
theorem aN.nil:aN K G ι [] []:=by simp only [aN]
theorem aN.cons{x:V}{xs:List V}{d:A}{ds:List A}(h:Den K G ι x d)(t:aN K G ι xs ds):aN K G ι (x::xs) (d::ds):=by
 simp only [aN];exact⟨x,xs,rfl,h,t⟩
theorem aN.jF{xs:List V}{d:A}{ds:List A}(h:aN K G ι xs (d::ds)):∃x r,xs=x::r∧Den K G ι x d∧aN K G ι r ds:=by simpa only [aN]using h
theorem aN.get:∀{xs:List V} {ds:List A} {i:Nat} {d:A},aN K G ι xs ds→ds[i]? = some d→∃x,xs[i]? = some x∧Den K G ι x d
 | _,[],_,_,_,e=>by simp at e
 | _,_::_,0,_,h,e=>by
  obtain⟨x,r,rfl,h2,h3⟩:=h.jF;simp at e;subst e;exact⟨x,rfl,h2⟩
 | _,_::_,i+1,_,h,e=>by
  obtain⟨x,r,rfl,h2,h3⟩:=h.jF;simp at e;obtain⟨y,q1,q2⟩:=aN.get h3 e;exact⟨y,by simpa using q1,q2⟩
theorem aN.append:∀{xs ys:List V} {ds es:List A},aN K G ι xs ds→aN K G ι ys es→aN K G ι (xs++ys) (ds++es)
 | _,_,[],_,h,t=>by rw [mD]at h;subst h;exact t
 | _,_,d::ds,_,h,t=>by
  obtain⟨x,r,rfl,h2,h3⟩:=h.jF;exact .cons h2 (aN.append h3 t)
theorem aN.take:∀{xs:List V} {ds:List A} (n:Nat),aN K G ι xs ds→aN K G ι (xs.take n) (ds.take n)
 | _,_,0,_=>by simpa using aN.nil
 | _,[],n+1,h=>by rw [mD]at h;subst h;exact aN.nil
 | _,d::ds,n+1,h=>by
  obtain⟨x,r,rfl,h2,h3⟩:=h.jF;exact .cons h2 (aN.take n h3)
theorem aN.drop:∀{xs:List V} {ds:List A} (n:Nat),aN K G ι xs ds→aN K G ι (xs.drop n) (ds.drop n)
 | _,_,0,h=>by simpa using h
 | _,[],n+1,h=>by rw [mD]at h;subst h;exact aN.nil
 | _,d::ds,n+1,h=>by
  obtain⟨x,r,rfl,h2,h3⟩:=h.jF;exact aN.drop n h3
theorem aN.reverse:∀{xs:List V} {ds:List A},aN K G ι xs ds→aN K G ι xs.reverse ds.reverse
 | _,[],h=>by rw [mD]at h;subst h;exact aN.nil
 | _,d::ds,h=>by
  obtain⟨x,r,rfl,h2,h3⟩:=h.jF;rw [JA,JA];exact(aN.reverse h3).append (.cons h2 .nil)
theorem aN.set{x:V}{d:A}(hx:Den K G ι x d):∀{xs:List V} {ds:List A} (n:Nat),aN K G ι xs ds→aN K G ι (xs.set n x) (ds.set n d)
 | _,[],n,h=>by rw [mD]at h;subst h;exact aN.nil
 | _,e::ds,0,h=>by
  obtain⟨y,r,rfl,h2,h3⟩:=h.jF;exact .cons hx h3
 | _,e::ds,n+1,h=>by
  obtain⟨y,r,rfl,h2,h3⟩:=h.jF;exact .cons h2 (aN.set hx n h3)
theorem ID:∀(ns:List Int),aN K G ι (ns.map V.int) (ns.map A.int)
 | [] => .nil
 | n::ns => .cons (by simp only [Den]) (ID ns)
end
def arM(K:Frag)(G H:Hp)(a:Addr)(x:Str)(pos:Pos)(qual:Str):Prop :=
 G a=none∧(∃c,PySem.W.tabIn K x=some (c,a))∧∃ps,H a=some (.sZ ps)∧TriplesOk ps.toList ∧
  (codeAmong pos ps.toList=none∨∃c' oc vs t,codeAmong pos ps.toList=some (.ref c')∧G c'=some (.cV oc (.own 0))∧oc.data = .fields vs∧vs[1]? = some (.str qual t))
def gT(K:Frag)(G:Hp)(ι:List Addr)(H:Hp)(v:V):Fd→Prop
 | .val a=>Den K G ι v a
 | .lst ds=>∃b xs,v = .ref b∧G b=none∧b∉ι∧H b=some (.lst xs)∧aN K G ι xs ds
 | .aU kvs=>∃b,∃ws:List (Key×V),v = .ref b∧G b=none∧b∉ι∧H b=some (.dK ws)∧ws.map (·.1)=kvs.map (·.1)∧aN K G ι (ws.map (·.2)) (kvs.map (·.2))
def iB(K:Frag)(G:Hp)(ι:List Addr)(H:Hp):List (Str×V)→List (Str×Fd)→Prop
 | [],[]=>True
 | (f,v)::ws,(g,d)::fs=>f=g∧gT K G ι H v d∧iB K G ι H ws fs
 | _,_=>False
def mZ(K:Frag)(G:Hp)(ι:List Addr)(H:Hp)(a:Addr):Cell→Prop
 | .lst ds=>G a=none∧∃xs,H a=some (.lst xs)∧aN K G ι xs ds
 | .aU kvs=>G a=none∧∃ws:List (Key×V),H a=some (.dK ws)∧ws.map (·.1)=kvs.map (·.1)∧aN K G ι (ws.map (·.2)) (kvs.map (·.2))
 | .ins cls fs=>G a=none∧∃C dx,∃ws:List (Str×V),nsIn K mainGlobals cls=some (some (.ref C))∧H a=some (.ins C dx ws)∧iB K G ι H ws fs
 | .tab x pos qual=>arM K G H a x pos qual
 | .dead=>True
def gP(H:Hp)(ι:List Addr)(Ω:aI)(k i:Nat)(b:Addr):Prop:=∃a cls fs C dx ws g h fd,ι[k]? = some a∧Ω[k]? = some (.ins cls fs)∧H a=some (.ins C dx ws)∧fs[i]? = some (g,fd)∧fd.own=true∧ws[i]? = some (h,.ref b)
structure Wd(K:Frag)(G:Hp)(ι:List Addr)(Ω:aI)(H:Hp):Prop where
 sub:gJ G H
 inj:ι.Nodup
 len:ι.length=Ω.length
 live:∀a∈ι,∃o,H a=some o
 aB:∀(k:Nat) (c:Cell) (a:Addr),Ω[k]? = some c→ι[k]? = some a→mZ K G ι H a c
 sep:∀(b:Addr) (k i k' i':Nat),gP H ι Ω k i b→gP H ι Ω k' i' b→k=k'∧i=i'
section
variable{K:Frag}{G G' H H':Hp}{ι ι':List Addr}{Ω:aI}{a p:Addr}
theorem gT.mono{v:V}{fd:Fd}(h:gT K G ι H v fd)(e:Ext G ι G' ι')(ho:∀b o,b∉ι→G b=none→H b=some o→b∉ι'∧G' b=none∧H' b=some o):gT K G' ι' H' v fd:=by
 cases fd with
 | val a=>exact Den.ext e h
 | lst ds =>
  obtain⟨b,xs,h1,h2,h3,h4,h5⟩:=h;obtain⟨q1,q2,q3⟩:=ho b _ h3 h2 h4;exact⟨b,xs,h1,q2,q1,q3,h5.ext e⟩
 | aU kvs =>
  obtain⟨b,ws,h1,h2,h3,h4,h5,h6⟩:=h;obtain⟨q1,q2,q3⟩:=ho b _ h3 h2 h4;exact⟨b,ws,h1,q2,q1,q3,h5,h6.ext e⟩
theorem iB.map{K':Frag}{G' H':Hp}{ι':List Addr}(f:∀v fd,gT K G ι H v fd→gT K' G' ι' H' v fd):∀{ws:List (Str×V)} {fs:List (Str×Fd)},iB K G ι H ws fs→iB K' G' ι' H' ws fs
 | [],[],_=>trivial
 | (_,_)::_,(_,_)::_,h=>⟨h.1,f _ _ h.2.1,iB.map f h.2.2⟩
 | [],_::_,h=>h.elim
 | _::_,[],h=>h.elim
theorem mZ.mono{c:Cell}(h:mZ K G ι H a c)(e:Ext G ι G' ι')(hg:G' a=G a)(hh:H' a=H a)(ho:∀b o,b∉ι→G b=none→H b=some o→b∉ι'∧G' b=none∧H' b=some o):mZ K G' ι' H' a c:=by
 cases c with
 | lst ds=>obtain⟨g,xs,h1,h2⟩:=h;exact⟨hg.trans g,xs,hh.trans h1,h2.ext e⟩
 | aU kvs=>obtain⟨g,ws,h1,h2,h3⟩:=h;exact⟨hg.trans g,ws,hh.trans h1,h2,h3.ext e⟩
 | ins cls fs=>obtain⟨g,C,dx,ws,h0,h1,h2⟩:=h;exact⟨hg.trans g,C,dx,ws,h0,hh.trans h1,h2.map fun _ _ q=>q.mono e ho⟩
 | tab x pos qual =>
  obtain⟨g,hc,ps,h1,h2,h3⟩:=h;exact⟨hg.trans g,hc,ps,hh.trans h1,h2,h3.imp id fun⟨c',oc,vs,t,q1,q2,q3⟩=>⟨c',oc,vs,t,q1,e.same _ _ q2,q3⟩⟩
 | dead=>trivial
theorem Wd.addr(w:Wd K G ι Ω H){k:Nat}{c:Cell}(h:Ω[k]? = some c):∃a,ι[k]? = some a:=by
 have hk:=(bX.mp h).1;exact⟨ι[k]'(by rw [w.len];exact hk),jC _⟩
theorem Wd.ne(w:Wd K G ι Ω H)(hp:H p=none)(ha:a∈ι):a≠p:=by
 obtain⟨o,ho⟩:=w.live a ha;exact iF ho hp
theorem Wd.nV(w:Wd K G ι Ω H)(hp:H p=none):G p=none:=by
 cases e:G p with
 | none=>rfl
 | some o=>rw [w.sub _ _ e]at hp;cases hp
theorem gP.to{k i:Nat}{b:Addr}{ι':List Addr}{Ω Ω':aI}(h:gP H ι Ω k i b)(h1:∀a,ι[k]? = some a→ι'[k]? = some a∧∀o,H a=some o→H' a=some o)(h2:∀cls fs,Ω[k]? = some (.ins cls fs)→Ω'[k]? = some (.ins cls fs)):gP H' ι' Ω' k i b:=by
 obtain⟨a,cls,fs,C,dx,ws,g,h',fd,q1,q2,q3,q4,q5,q6⟩:=h;exact⟨a,cls,fs,C,dx,ws,g,h',fd,(h1 a q1).1,h2 _ _ q2,(h1 a q1).2 _ q3,q4,q5,q6⟩
theorem gP.no{k i:Nat}{b:Addr}{c:Cell}(h:gP H ι Ω k i b)(hc:Ω[k]? = some c)(hn:c.noOwn=true):False:=by
 obtain⟨a,cls,fs,C,dx,ws,g,h',fd,q1,q2,q3,q4,q5,q6⟩:=h;rw [hc]at q2;cases q2;simp only [Cell.noOwn,JH]at hn;have:=hn _ (qF q4);simp only []at this;rw [q5]at this;cases this
theorem Wd.grow(w:Wd K G ι Ω H)(s:gJ H H'):Wd K G ι Ω H' where
 sub:=w.sub.trans s
 inj:=w.inj
 len:=w.len
 live:=fun a ha=>let ⟨o,ho⟩:=w.live a ha; ⟨o,s _ _ ho⟩
 aB:=fun k c a h1 h2=>by
  have q:=w.aB k c a h1 h2;cases c with
  | lst ds=>obtain⟨g,xs,h1,h2⟩:=q;exact⟨g,xs,s _ _ h1,h2⟩
  | aU kvs=>obtain⟨g,ws,h1,h2,h3⟩:=q;exact⟨g,ws,s _ _ h1,h2,h3⟩
  | ins cls fs=>obtain⟨g,C,dx,ws,h0,h1,h2⟩:=q;exact⟨g,C,dx,ws,h0,s _ _ h1,h2.map fun _ _ q=>q.mono (Ext.refl _ _) fun b o x y z=>⟨x,y,s _ _ z⟩⟩
  | tab x pos qual =>
   obtain⟨g,hc,ps,h1,h2⟩:=q;exact⟨g,hc,ps,s _ _ h1,h2⟩
  | dead=>trivial
 sep:=fun b k i k' i' h1 h2=>by
  have back:∀{k i},gP H' ι Ω k i b→gP H ι Ω k i b:=fun h=>h.to (fun a ha=>⟨ha,fun o ho=>by
   obtain⟨o',lM⟩:=w.live a (qF ha);have:=s _ _ lM;rw [ho]at this;cases this;exact lM⟩) fun _ _ q=>q
  exact w.sep b k i k' i' (back h1) (back h2)
theorem rT{α:Type}:∀{l:List α} {i j:Nat} {x:α},l.Nodup→l[i]? = some x→l[j]? = some x→i=j
 | [],_,_,_,_,h,_=>by simp at h
 | y::l,0,0,_,_,_,_=>rfl
 | y::l,0,j+1,x,n,h1,h2=>by
  simp at h1 h2;subst h1;exact absurd (qF h2) (mX.mp n).1
 | y::l,i+1,0,x,n,h1,h2=>by
  simp at h1 h2;subst h2;exact absurd (qF h1) (mX.mp n).1
 | y::l,i+1,j+1,x,n,h1,h2=>by
  simp at h1 h2;rw [rT (mX.mp n).2 h1 h2]
theorem pQ{α:Type}{l:List α}{k:Nat}{x:α}(h:l[k]? = some x):x∈l:=qF h
theorem Ext.new(hp:G p=none)(o:HO):Ext G ι (upd G p o) ι:=⟨gJ.new hp,fun _ _ h=>h⟩
theorem Wd.new(w:Wd K G ι Ω H)(hp:H p=none)(o:HO):Wd K (upd G p o) ι Ω (upd H p o)where
 sub:=fun b u h=>by
  by_cases e:b=p
  ·subst e;rw [dR]at h ⊢;exact h
  ·rw [aY e]at h ⊢;exact w.sub _ _ h
 inj:=w.inj
 len:=w.len
 live:=fun a ha=>by rw [aY (w.ne hp ha)];exact w.live a ha
 aB:=fun k c a h1 h2=>by
  have n:=w.ne hp (pQ h2);exact(w.aB k c a h1 h2).mono (Ext.new (w.nV hp) o) (aY n) (aY n) fun b u x y z=>by
   have nb:b≠p:=iF z hp;exact⟨x,by rw [aY nb];exact y,by rw [aY nb];exact z⟩
 sep:=fun b k i k' i' h1 h2=>by
  have back:∀{k i},gP (upd H p o) ι Ω k i b→gP H ι Ω k i b:=fun h=>h.to (fun a ha=>⟨ha,fun u hu=>by rwa [aY (w.ne hp (qF ha))]at hu⟩) fun _ _ q=>q;exact w.sep b k i k' i' (back h1) (back h2)
theorem Ext.cell(x:Addr):Ext G ι G (ι++[x]):=⟨gJ.refl _,fun k a h=>by
 rw [fV (bX.mp h).1];exact h⟩
theorem Wd.cell(w:Wd K G ι Ω H)(hp:H p=none){o:HO}{c:Cell}(hc:mZ K G (ι++[p]) (upd H p o) p c)(tQ:c.noOwn=true:=by rfl):Wd K G (ι++[p]) (Ω++[c]) (upd H p o)where
 sub:=fun b u h=>by
  have e:b≠p:=fun e=>by subst e;rw [w.sub _ _ h]at hp;cases hp
  rw [aY e];exact w.sub _ _ h
 inj:=by
  rw [zN];exact⟨w.inj,by simp,fun a ha b hb=>by simp at hb;subst hb;exact w.ne hp ha⟩
 len:=by simp [w.len]
 live:=fun a ha=>by
  rcases JC.mp ha with h | h
  ·rw [aY (w.ne hp h)];exact w.live a h
  ·simp at h;subst h;exact⟨o,dR⟩
 aB:=fun k c' a h1 h2=>by
  by_cases hk:k<ι.length
  ·rw [fV hk]at h2;rw [fV (by rw [← w.len];exact hk)]at h1;exact(w.aB k c' a h1 h2).mono (Ext.cell p) rfl (aY (w.ne hp (pQ h2))) fun b u x y z=>by
    have nb:b≠p:=iF z hp;exact⟨by simp [x,nb],y,by rw [aY nb];exact z⟩
  ·have iI:k=ι.length:=by
    have:=(bX.mp h2).1;simp at this;omega
   subst iI;simp at h2;subst h2;rw [w.len]at h1;simp at h1;subst h1;exact hc
 sep:=fun b k i k' i' h1 h2=>by
  have back:∀{k i},gP (upd H p o) (ι++[p]) (Ω++[c]) k i b→gP H ι Ω k i b:=fun{k i} h=>by
   have h0:=h;obtain⟨a,cls,fs,C,dx,ws,g,h',fd,q1,q2,q3,q4,q5,q6⟩:=h
   by_cases hk:k<Ω.length
   ·rw [fV hk]at q2;rw [fV (by rw [w.len];exact hk)]at q1;rw [aY (w.ne hp (pQ q1))]at q3;exact⟨a,cls,fs,C,dx,ws,g,h',fd,q1,q2,q3,q4,q5,q6⟩
   ·have iI:k=Ω.length:=by
     have:=(bX.mp q2).1;simp at this;omega
    subst iI;exact(h0.no (by simp) tQ).elim
  exact w.sep b k i k' i' (back h1) (back h2)
theorem Wd.put(w:Wd K G ι Ω H){k:Nat}{c:Cell}{o:HO}(hk:ι[k]? = some a)(hg:G a=none)(hc:mZ K G ι (upd H a o) a c)(tQ:c.noOwn=true:=by rfl):Wd K G ι (Ω.set k c) (upd H a o)where
 sub:=fun b u h=>by
  have e:b≠a:=fun e=>by subst e;rw [hg]at h;cases h
  rw [aY e];exact w.sub _ _ h
 inj:=w.inj
 len:=by rw [zO];exact w.len
 live:=fun b hb=>by
  by_cases e:b=a
  ·subst e;exact⟨o,dR⟩
  ·rw [aY e];exact w.live b hb
 aB:=fun j c' b h1 h2=>by
  by_cases hj:j=k
  ·subst hj;rw [hk]at h2;cases h2;have hl:j<Ω.length:=by rw [← w.len];exact(bX.mp hk).1
   rw [gR hl]at h1;cases h1;exact hc
  ·rw [gS (bV hj)]at h1;have cA:b≠a:=fun e=>by
    subst e;exact hj (rT w.inj h2 hk)
   exact(w.aB j c' b h1 h2).mono (Ext.refl _ _) rfl (aY cA) fun b u x y z=>by
    have nb:b≠a:=fun e=>by subst e;exact x (pQ hk)
    exact⟨x,y,by rw [aY nb];exact z⟩
 sep:=fun b j i j' i' h1 h2=>by
  have back:∀{j i},gP (upd H a o) ι (Ω.set k c) j i b→gP H ι Ω j i b:=fun{j i} h=>by
   have h0:=h;obtain⟨a',cls,fs,C,dx,ws,g,h',fd,q1,q2,q3,q4,q5,q6⟩:=h
   by_cases hj:j=k
   ·subst hj;have hl:j<Ω.length:=by rw [← w.len];exact(bX.mp hk).1
    exact(h0.no (by rw [gR hl]) tQ).elim
   ·rw [gS (bV hj)]at q2;have cA:a'≠a:=fun e=>by subst e;exact hj (rT w.inj q1 hk)
    rw [aY cA]at q3;exact⟨a',cls,fs,C,dx,ws,g,h',fd,q1,q2,q3,q4,q5,q6⟩
  exact w.sep b j i j' i' (back h1) (back h2)
theorem Wd.freeze(w:Wd K G ι Ω H){k:Nat}{o:HO}(hk:ι[k]? = some a)(hg:G a=none)(ho:H a=some o):Wd K (upd G a o) ι (Ω.set k .dead) H where
 sub:=fun b u h=>by
  by_cases e:b=a
  ·subst e;rw [dR]at h;cases h;exact ho
  ·rw [aY e]at h;exact w.sub _ _ h
 inj:=w.inj
 len:=by rw [zO];exact w.len
 live:=w.live
 aB:=fun j c' b h1 h2=>by
  by_cases hj:j=k
  ·subst hj;have hl:j<Ω.length:=by rw [← w.len];exact(bX.mp hk).1
   rw [gR hl]at h1;cases h1;trivial
  ·rw [gS (bV hj)]at h1;have cA:b≠a:=fun e=>by
    subst e;exact hj (rT w.inj h2 hk)
   exact(w.aB j c' b h1 h2).mono (Ext.new hg o) (aY cA) rfl fun b u x y z=>by
    have nb:b≠a:=fun e=>by subst e;exact x (pQ hk)
    exact⟨x,by rw [aY nb];exact y,z⟩
 sep:=fun b j i j' i' h1 h2=>by
  have back:∀{j i},gP H ι (Ω.set k .dead) j i b→gP H ι Ω j i b:=fun{j i} h=>by
   have h0:=h;obtain⟨a',cls,fs,C,dx,ws,g,h',fd,q1,q2,q3,q4,q5,q6⟩:=h
   by_cases hj:j=k
   ·subst hj;have hl:j<Ω.length:=by rw [← w.len];exact(bX.mp hk).1
    exact(h0.no (by rw [gR hl]) rfl).elim
   ·rw [gS (bV hj)]at q2;exact⟨a',cls,fs,C,dx,ws,g,h',fd,q1,q2,q3,q4,q5,q6⟩
  exact w.sep b j i j' i' (back h1) (back h2)
end
def fW(K:Frag)(G:Hp)(ι:List Addr)(σ:L2.St)(ρ:Ev):Prop:=σ.length=ρ.length∧∀(i:Nat) (d:A),ρ[i]? = some (some d)→∃v,σ[i]? = some (some v)∧Den K G ι v d
theorem fW.ext{K:Frag}{G G':Hp}{ι ι':List Addr}{σ:L2.St}{ρ:Ev}(r:fW K G ι σ ρ)(e:Ext G ι G' ι'):fW K G' ι' σ ρ:=⟨r.1,fun i d h=>let ⟨v,h1,h2⟩:=r.2 i d h; ⟨v,h1,h2.ext e⟩⟩
theorem fW.set{K:Frag}{G:Hp}{ι:List Addr}{σ:L2.St}{ρ:Ev}(r:fW K G ι σ ρ)(j:Nat){v:V}{d:A}(h:Den K G ι v d):fW K G ι (σ.set j (some v)) (ρ.set j (some d)):=by
 refine⟨by rw [zO,zO];exact r.1,fun i e he=>?_⟩
 by_cases kX:i=j
 ·subst kX;have hl:i<ρ.length:=by
   have:=(bX.mp he).1;rwa [zO]at this
  rw [gR hl]at he;cases he;exact⟨v,gR (by rw [r.1];exact hl),h⟩
 ·rw [gS (bV kX)]at he ⊢;exact r.2 i e he
def Ur(K:Frag)(G:Hp)(ι:List Addr)(H:Hp)(x:Exc)(cls:Value)(dx:Option Addr):Prop :=
 (∃C,nsIn K mainGlobals x.cls=some (some (.ref C))∧cls = .ref C)∧((x.fs=[]∧dx=none)∨∃d f i,dx=some d∧x.fs=[(f,.int i)]∧G d=some (.xd [(f,.int i)]))
abbrev Rl(α β:Type):=Hp→List Addr→β→α→Prop
def bF{α β:Type}(K:Frag)(rel:Rl α β)(W:WX)(G:Hp)(ι:List Addr)(σ:L2.St)(Q:β→Hp→Prop):Option (Rs α×aI)→Prop
 | some (.ok a,Ω')=>∀v H' G' ι',Ext G ι G' ι'→Wd K G' ι' Ω' H'→rel G' ι' v a→Q v H'
 | some (.exc x,Ω')=>∀cls dx H' G' ι',Ext G ι G' ι'→Wd K G' ι' Ω' H'→Ur K G' ι' H' x cls dx→W σ cls dx H'
 | none=>False
theorem bF.ext{α β:Type}{K:Frag}{rel:Rl α β}{W:WX}{G G1:Hp}{ι ι1:List Addr}{σ:L2.St}{Q:β→Hp→Prop}{r:Option (Rs α×aI)}(h:bF K rel W G ι σ Q r)(e:Ext G ι G1 ι1):bF K rel W G1 ι1 σ Q r:=by
 match r,h with
 | some (.ok a,Ω'),h=>exact fun v H' G' ι' x w d=>h v H' G' ι' (e.trans x) w d
 | some (.exc x,Ω'),h=>exact fun cls dx H' G' ι' x w d=>h cls dx H' G' ι' (e.trans x) w d
theorem bF.mb{α β γ δ:Type}{K:Frag}{rel:Rl α β}{vC:Rl γ δ}{W:WX}{G:Hp}{ι:List Addr}{σ:L2.St}{Q:δ→Hp→Prop}{Q1:β→Hp→Prop}{m:Mo α}{k:α→Mo γ}{Ω:aI}(h:bF K vC W G ι σ Q (mb m k Ω))
  (hk:∀a Ω1 v H1 G1 ι1,Ext G ι G1 ι1→Wd K G1 ι1 Ω1 H1→rel G1 ι1 v a→bF K vC W G1 ι1 σ Q (k a Ω1)→Q1 v H1):bF K rel W G ι σ Q1 (m Ω):=by
 unfold V2.mb at h
 revert h
 generalize m Ω=r;intro h
 match r,h with
 | some (.ok a,Ω1),h=>exact fun v H1 G1 ι1 x w d=>hk a Ω1 v H1 G1 ι1 x w d (bF.ext h x)
 | some (.exc x,Ω1),h=>exact h
theorem bF.need{α β γ:Type}{K:Frag}{vC:Rl α β}{W:WX}{G:Hp}{ι:List Addr}{σ:L2.St}{Q:β→Hp→Prop}{o:Option γ}{k:γ→Mo α}{Ω:aI}(h:bF K vC W G ι σ Q (V2.mb (need o) k Ω)):∃a,o=some a∧bF K vC W G ι σ Q (k a Ω):=by
 cases o with
 | none=>exact False.elim h
 | some a=>exact⟨a,rfl,h⟩
theorem bF.mV{α β:Type}{K:Frag}{vC:Rl α β}{W:WX}{G:Hp}{ι:List Addr}{σ:L2.St}{Q:β→Hp→Prop}{p:Prop} [Decidable p]{k:Unit→Mo α}{Ω:aI}(h:bF K vC W G ι σ Q (V2.mb (mV p) k Ω)):p∧bF K vC W G ι σ Q (k () Ω):=by
 unfold V2.mb V2.mV at h
 by_cases hp:p
 ·rw [if_pos hp]at h;exact⟨hp,h⟩
 ·rw [if_neg hp]at h;exact False.elim h
def eQ{α β:Type}(K:Frag)(rel:Rl α β)(W:WX)(t:L2.St→Hp→(β→Hp→Prop)→Prop)(f:Ev→Mo α):Prop :=
 ∀G ι Ω H σ ρ Q,Wd K G ι Ω H→fW K G ι σ ρ→bF K rel W G ι σ Q (f ρ Ω)→t σ H Q
def AS:Rl Bool Bool:=fun _ _ b c=>b=c
def VE(X:Cx)(W:WX)(e:Expr)(f:Ev→Mo A):Prop:=∃t,PE X e t∧eQ X.K (Den X.K) W t f
def VT(X:Cx)(W:WX)(e:Expr)(f:Ev→Mo Bool):Prop:=∃t,PT X e t∧eQ X.K AS W t f
def VW(X:Cx)(W:WX)(e:Expr)(f:Ev→Mo Bool):Prop:=∃t,PW X e t∧eQ X.K AS W t f
def VA(X:Cx)(W:WX)(es:List Expr)(f:Ev→Mo (List A)):Prop:=∃t,PA X es t∧eQ X.K (aN X.K) W t f
end V2
namespace V2
open PySem PySem.Spec PyProof.Rows L2
section
variable{K:Frag}{G H:Hp}{ι:List Addr}{Ω:aI}{v:V}{a:A}
def dF(Ω:aI):A→Option (List A)
 | .lst ds=>some ds
 | .bK ns=>some (ns.map A.int)
 | .aB k=>match Ω[k]? with
  | some (.lst ds)=>some ds
  | _=>none
 | _=>none
def fH(Ω:aI):A→Option (List A)
 | .tup ds=>some ds
 | a=>dF Ω a
theorem pS(w:Wd K G ι Ω H)(d:Den K G ι v a){ds:List A}(h:dF Ω a=some ds):∃p xs,v = .ref p∧eX K H p xs∧aN K G ι xs ds:=by
 cases a with
 | lst es =>
  simp only [dF,jB]at h;subst h;simp only [Den]at d;obtain⟨p,xs,h1,h2,h3⟩:=d;exact⟨p,xs,h1,eX.of (w.sub _ _ h2),h3⟩
 | bK ns =>
  simp only [dF,jB]at h;subst h;simp only [Den]at d;obtain⟨p,h1,h2⟩:=d;exact⟨p,_,h1,w.sub.seq h2,ID ns⟩
 | aB k =>
  simp only [dF]at h;cases e:Ω[k]? with
  | none=>rw [e]at h;cases h
  | some c =>
   rw [e]at h;cases c with
   | lst es =>
    simp only [jB]at h;subst h;simp only [Den]at d;obtain⟨p,h1,h2⟩:=d;obtain⟨g,xs,h3,h4⟩:=w.aB k _ p e h2;exact⟨p,xs,h1,eX.of h3,h4⟩
   | _=>cases h
 | _=>simp [dF]at h
theorem LW(w:Wd K G ι Ω H)(d:Den K G ι v a){ds:List A}(h:fH Ω a=some ds):∃p xs,v = .ref p∧(eX K H p xs∨fM K H p xs)∧aN K G ι xs ds:=by
 cases a with
 | tup es =>
  simp only [fH,jB]at h;subst h;simp only [Den]at d;obtain⟨p,xs,h1,h2,h3⟩:=d;exact⟨p,xs,h1,.inr (fM.of (w.sub _ _ h2)),h3⟩
 | _ =>
  obtain⟨p,xs,h1,h2,h3⟩:=pS w d h;exact⟨p,xs,h1,.inl h2,h3⟩
theorem Km(w:Wd K G ι Ω H)(d:Den K G ι v a){ds:List A}(h:dF Ω a=some ds)(hs:∀ns,a ≠ .bK ns):∃p xs,v = .ref p∧H p=some (.lst xs)∧aN K G ι xs ds:=by
 cases a with
 | lst es =>
  simp only [dF,jB]at h;subst h;simp only [Den]at d;obtain⟨p,xs,h1,h2,h3⟩:=d;exact⟨p,xs,h1,w.sub _ _ h2,h3⟩
 | bK ns=>exact absurd rfl (hs ns)
 | aB k =>
  simp only [dF]at h;cases e:Ω[k]? with
  | none=>rw [e]at h;cases h
  | some c =>
   rw [e]at h;cases c with
   | lst es =>
    simp only [jB]at h;subst h;simp only [Den]at d;obtain⟨p,h1,h2⟩:=d;obtain⟨g,xs,h3,h4⟩:=w.aB k _ p e h2;exact⟨p,xs,h1,h3,h4⟩
   | _=>cases h
 | _=>simp [dF]at h
end
@[simp] def iR(c:Bool)(ds:List A):Mo A:=fun Ω=>if c then some (.ok (.aB Ω.length),Ω++[.lst ds])else some (.ok (.lst ds),Ω)
section
variable{K:Frag}{G H:Hp}{ι:List Addr}{Ω:aI}{W:WX}{σ:L2.St}{Q:VK}
theorem nT{c:Bool}{ds:List A}{xs:List V}{p:Addr}(w:Wd K G ι Ω H)(hp:H p=none)(d:aN K G ι xs ds)(h:bF K (Den K) W G ι σ Q (iR c ds Ω)):Q (.ref p) (upd H p (.lst xs)):=by
 cases c with
 | true =>
  refine h _ _ G (ι++[p]) (Ext.cell p) (w.cell hp ⟨w.nV hp,xs,dR,d.ext (Ext.cell p)⟩) ?_;simp only [Den];exact⟨p,rfl,by rw [← w.len];simp⟩
 | false =>
  refine h _ _ _ _ (Ext.new (w.nV hp) (.lst xs)) (w.new hp _) ?_;simp only [Den];exact⟨p,xs,rfl,dR,d.ext (Ext.new (w.nV hp) _)⟩
@[simp] def WI(ds:List A):Mo A:=ret (.tup ds)
theorem WH{ds:List A}{xs:List V}{p:Addr}(w:Wd K G ι Ω H)(hp:H p=none)(d:aN K G ι xs ds)(h:bF K (Den K) W G ι σ Q (WI ds Ω)):Q (.ref p) (upd H p (.tup xs)):=by
 refine h _ _ _ _ (Ext.new (w.nV hp) (.tup xs)) (w.new hp _) ?_;simp only [Den];exact⟨p,xs,rfl,dR,d.ext (Ext.new (w.nV hp) _)⟩
theorem jH{α β:Type}{rel:Rl α β}{Q:β→Hp→Prop}{a:α}{b:β}(w:Wd K G ι Ω H)(d:rel G ι b a)(h:bF K rel W G ι σ Q (ret a Ω)):Q b H:=h b H G ι (Ext.refl _ _) w d
end
section
variable{X:Cx}{W:WX}{e a b:Expr}{es:List Expr}{pos:Pos}{fa fb:Ev→Mo A}{fs:Ev→Mo (List A)}
@[simp] def dH(i:Nat):Ev→Mo A:=fun ρ=>need (ρ[i]?).join
theorem join_some{α:Type}{o:Option (Option α)}{x:α}(h:o.join=some x):o=some (some x):=by
 cases o with
 | none=>cases h
 | some y=>cases y with
  | none=>cases h
  | some z=>cases h;rfl
theorem acW{K:Frag}{i:Nat}:eQ K (Den K) W (SS i) (dH i):=by
 intro G ι Ω H σ ρ Q w r h;unfold dH need at h;cases e:(ρ[i]?).join with
 | none=>rw [e]at h;exact False.elim h
 | some d =>
  rw [e]at h;obtain⟨v,h1,h2⟩:=r.2 i d (join_some e);exact⟨v,h1,h v H G ι (Ext.refl _ _) w h2⟩
theorem vv(i:Nat){x:Str}(hN:X.N[i]? = some x:=by rfl)(hv:QH X.env.scope x:=by first | exact Or.inl rfl | exact Or.inr (Or.inl rfl) | exact Or.inr (Or.inr rfl))(hd:(x == ("__debug__" : Str))=false:=by decide)
  (kB:(x == ("__classdict__" : Str))=false:=by decide):VE X W (.Name x pos) (dH i):=⟨_,Kr hN hv hd kB,acW⟩
@[simp] def EF(i:Nat):Ev→Mo A:=fun ρ Ω=>match (ρ[i]?).join with
 | some (.aB k)=>match Ω[k]? with
  | some (.lst ds)=>some (.ok (.lst ds),Ω.set k .dead)
  | _=>none
 | _=>none
theorem acY{K:Frag}{i:Nat}:eQ K (Den K) W (SS i) (EF i):=by
 intro G ι Ω H σ ρ Q w r h;unfold EF at h;cases e:(ρ[i]?).join with
 | none=>rw [e]at h;exact False.elim h
 | some d =>
  rw [e]at h;cases d with
  | aB k =>
   simp only at h;cases e2:Ω[k]? with
   | none=>rw [e2]at h;exact False.elim h
   | some c =>
    rw [e2]at h;cases c with
    | lst ds =>
     obtain⟨v,h1,h2⟩:=r.2 i _ (join_some e);simp only [Den]at h2;obtain⟨p,rfl,h4⟩:=h2;obtain⟨g,xs,h5,h6⟩:=w.aB k _ p e2 h4;refine⟨_,h1,h _ H (upd G p (.lst xs)) ι (Ext.new g _) (w.freeze h4 g h5) ?_⟩;simp only [Den];exact⟨p,xs,rfl,dR,h6.ext (Ext.new g _)⟩
    | _=>exact False.elim h
  | _=>exact False.elim h
theorem vf(i:Nat){x:Str}(hN:X.N[i]? = some x:=by rfl)(hv:QH X.env.scope x:=by first | exact Or.inl rfl | exact Or.inr (Or.inl rfl) | exact Or.inr (Or.inr rfl))(hd:(x == ("__debug__" : Str))=false:=by decide)
  (kB:(x == ("__classdict__" : Str))=false:=by decide):VE X W (.Name x pos) (EF i):=⟨_,Kr hN hv hd kB,acY⟩
theorem AO{K:Frag}{v:V}{d:A}(h:∀G ι,Den K G ι v d):eQ K (Den K) W (tC v) (fun _=>ret d):=fun G ι _ _ _ _ _ w _ q=>jH w (h G ι) q
theorem aM{i:Int}{j}:VE X W (.Constant (.int i) j pos) (fun _=>ret (.int i)):=⟨_,af9,AO fun _ _=>by simp only [Den]⟩
theorem rL{i:Bool}{j}:VE X W (.Constant (.bool i) j pos) (fun _=>ret (.bl i)):=⟨_,agI,AO fun _ _=>by simp only [Den]⟩
theorem wZ{j}:VE X W (.Constant .none j pos) (fun _=>ret .bH):=⟨_,afZ,AO fun _ _=>by simp only [Den]⟩
theorem Vr{x:Str}{p:Addr}(hg:Gl X x)(hm:X.mg x=some (.ref p))(hK:nsIn X.K mainGlobals x=some (some (.ref p)))(hd:(x == ("__debug__" : Str))=false:=by decide):VE X W (.Name x pos) (fun _=>ret (.gl x)) :=
 ⟨_,Kt (v := .ref p) hg hm rfl hd,AO fun _ _=>by simp only [Den];exact⟨p,hK,rfl⟩⟩
theorem Vq{x:Str}{i:Int}(hg:Gl X x)(hm:∃t,X.mg x=some (.int i t))(hd:(x == ("__debug__" : Str))=false:=by decide):VE X W (.Name x pos) (fun _=>ret (.int i)):=by
 obtain⟨t,hm⟩:=hm;exact⟨_,Kt (v := .int i) hg hm ⟨t,rfl⟩ hd,AO fun _ _=>by simp only [Den]⟩
theorem EB{x:Str}{n:String}(hg:Gl X x)(hm:X.mg x=none)(hv:bootBuiltins x=some (.type n))(hn:x ≠ "__name__":=by decide)(hd:(x == ("__debug__" : Str))=false:=by decide):VE X W (.Name x pos) (fun _=>ret (.ty n)) :=
 ⟨_,agH (v := .ty n) hg hm hv rfl hn hd,AO fun _ _=>by simp only [Den]⟩
theorem bG:VA X W [] (fun _=>ret []):=⟨_,vE,fun _ _ _ _ _ _ _ w _ q=>jH w .nil q⟩
@[simp] def aE(f:Ev→Mo A)(g:Ev→Mo (List A)):Ev→Mo (List A):=fun ρ=>mb (f ρ) fun x=>mb (g ρ) fun xs=>ret (x::xs)
theorem aO(h1:VE X W e fa)(h2:VA X W es fs)(hs:starEach (e::es) X.env=(false,eval e X.env)::starEach es X.env:=by rfl):VA X W (e::es) (aE fa fs):=by
 obtain⟨t,p1,s1⟩:=h1;obtain⟨u,p2,s2⟩:=h2;refine⟨_,vF p1 p2 hs,fun G ι Ω H σ ρ Q w r h=>?_⟩;refine s1 G ι Ω H σ ρ _ w r (bF.mb h fun x Ω1 v H1 G1 ι1 x1 w1 d1 h1=>?_);refine s2 G1 ι1 Ω1 H1 σ ρ _ w1 (r.ext x1) (bF.mb h1 fun xs Ω2 vs H2 G2 ι2 x2 w2 d2 h2=>?_);exact jH w2 (.cons (d1.ext x2) d2) h2
@[simp] def sW(g:Ev→Mo (List A)):Ev→Mo A:=fun ρ=>mb (g ρ) fun xs=>mb (mV (xs.length≤sizeLine)) fun _=>WI xs
theorem KP{k}(h:VA X W es fs):VE X W (.Tuple es k pos) (sW fs):=by
 obtain⟨t,p,s⟩:=h;refine⟨_,afS p,fun G ι Ω H σ ρ Q w r h=>?_⟩;refine s G ι Ω H σ ρ _ w r (bF.mb h fun xs Ω1 vs H1 G1 ι1 x1 w1 d1 h1=>?_);obtain⟨hl,h2⟩:=bF.mV h1;exact⟨by rw [d1.length];exact hl,fun p hp=>WH w1 hp d1 h2⟩
@[simp] def mP(c:Bool)(g:Ev→Mo (List A)):Ev→Mo A:=fun ρ=>mb (g ρ) fun xs=>mb (mV (xs.length≤sizeLine)) fun _=>iR c xs
theorem uR(c:Bool)(h:VA X W es fs):VE X W (.List es pos) (mP c fs):=by
 obtain⟨t,p,s⟩:=h;refine⟨_,af4 p,fun G ι Ω H σ ρ Q w r h=>?_⟩;refine s G ι Ω H σ ρ _ w r (bF.mb h fun xs Ω1 vs H1 G1 ι1 x1 w1 d1 h1=>?_);obtain⟨hl,h2⟩:=bF.mV h1;exact⟨by rw [d1.length];exact hl,fun p hp=>nT w1 hp d1 h2⟩
def uE(K:Frag)(W:WX)(r:R2)(g:A→A→Mo A):Prop :=
 ∀G ι Ω H σ x y a b Q,Wd K G ι Ω H→Den K G ι x a→Den K G ι y b→bF K (Den K) W G ι σ Q (g a b Ω)→r x y H Q
def kO(X:Cx)(W:WX)(f:Value→Value→Sem Value)(g:A→A→Mo A):Prop:=∃r,gB X f r∧uE X.K W r g
@[simp] def aC(g:A→A→Mo A)(f h:Ev→Mo A):Ev→Mo A:=fun ρ=>mb (f ρ) fun x=>mb (h ρ) fun y=>g x y
theorem LX{K:Frag}{r:R2}{g:A→A→Mo A}{ta tb:TE}(ho:uE K W r g)(h1:eQ K (Den K) W ta fa)(h2:eQ K (Den K) W tb fb):eQ K (Den K) W (EL r ta tb) (aC g fa fb):=by
 intro G ι Ω H σ ρ Q w q h;refine h1 G ι Ω H σ ρ _ w q (bF.mb h fun x Ω1 v H1 G1 ι1 x1 w1 d1 h1=>?_);refine h2 G1 ι1 Ω1 H1 σ ρ _ w1 (q.ext x1) (bF.mb h1 fun y Ω2 u H2 G2 ι2 x2 w2 d2 h2=>?_);exact ho G2 ι2 Ω2 H2 σ v u x y Q w2 (d1.ext x2) d2 h2
theorem aT{op:Operator}{g:A→A→Mo A}(ho:kO X W (binaryOp op) g)(ha:VE X W a fa)(hb:VE X W b fb):VE X W (.BinOp a op b pos) (aC g fa fb):=by
 obtain⟨r,o1,o2⟩:=ho;obtain⟨t,p1,s1⟩:=ha;obtain⟨u,p2,s2⟩:=hb;exact⟨_,afW o1 p1 p2,LX o2 s1 s2⟩
@[simp] def gI(C:Int→Int→Prop) [∀i j,Decidable (C i j)](g:Int→Int→A):A→A→Mo A
 | .int i,.int j=>mb (mV (C i j)) fun _=>ret (g i j)
 | _,_=>stuck
theorem FJ{K:Frag}{C:Int→Int→Prop} [∀i j,Decidable (C i j)]{g:Int→Int→V}{g':Int→Int→A}(hg:∀G ι i j,Den K G ι (g i j) (g' i j)):uE K W (rI C g) (gI C g'):=by
 intro G ι Ω H σ x y a b Q w d1 d2 h;cases a with
 | int i =>
  cases b with
  | int j =>
   simp only [Den]at d1 d2;obtain⟨hc,h2⟩:=bF.mV h;exact⟨i,j,d1,d2,hc,jH w (hg _ _ _ _) h2⟩
  | _=>exact False.elim h
 | _=>exact False.elim h
@[simp] def BY(g:Int→Int→A):A→A→Mo A
 | .int i,.int j=>ret (g i j)
 | _,_=>stuck
theorem FI{K:Frag}{g:Int→Int→V}{g':Int→Int→A}(hg:∀G ι i j,Den K G ι (g i j) (g' i j)):uE K W (tH g) (BY g'):=by
 intro G ι Ω H σ x y a b Q w d1 d2 h;cases a with
 | int i =>
  cases b with
  | int j =>
   simp only [Den]at d1 d2;exact⟨i,j,d1,d2,jH w (hg _ _ _ _) h⟩
  | _=>exact False.elim h
 | _=>exact False.elim h
instance:∀i j,Decidable (kE i j):=fun i j=>by unfold kE;infer_instance
instance:∀i j,Decidable (kQ i j):=fun i j=>by unfold kQ;infer_instance
instance:∀i j,Decidable (JY i j):=fun i j=>by unfold JY;infer_instance
@[simp] def nW:=BY fun i j => .int (i - j)
@[simp] def fD:=gI kE fun i j => .int (i*j)
@[simp] def eI:=gI kQ fun i j => .int (i/j)
@[simp] def bY:=gI (fun _ j=>0<j) fun i j => .int (i%j)
@[simp] def Ot:=gI JY fun i j => .int (i ^ j.toNat)
theorem BC:kO X W (binaryOp .Sub) nW:=⟨_,agT,FI fun _ _ _ _=>by simp only [Den]⟩
theorem nE:kO X W (binaryOp .Mult) fD:=⟨_,agX,FJ fun _ _ _ _=>by simp only [Den]⟩
theorem lI:kO X W (binaryOp .FloorDiv) eI:=⟨_,ag5,FJ fun _ _ _ _=>by simp only [Den]⟩
theorem fJ:kO X W (binaryOp .Mod) bY:=⟨_,agY,FJ fun _ _ _ _=>by simp only [Den]⟩
theorem ahG:kO X W (binaryOp .Pow) Ot:=⟨_,agU,FJ fun _ _ _ _=>by simp only [Den]⟩
@[simp] def xX:A→Bool
 | .bK _=>true
 | _=>false
theorem Lf{a:A}(h:xX a=false):∀ns,a ≠ .bK ns:=fun ns e=>by subst e;cases h
@[simp] def HU(c:Bool)(a b:A):Mo A:=fun Ω=>match dF Ω a,dF Ω b with
  | some xs,some ys=>if xX a||xX b||decide (sizeLine<xs.length+ys.length)then none else iR c (xs++ys) Ω
  | _,_=>none
@[simp] def Bj(c:Bool):A→A→Mo A
 | .int i,.int j=>ret (.int (i+j))
 | .tup xs,.tup ys=>mb (mV (0<xs.length∧xs.length+ys.length≤sizeLine)) fun _=>WI (xs++ys)
 | a,b=>HU c a b
theorem agS{K:Frag}{c:Bool}:uE K W Kb (HU c):=by
 intro G ι Ω H σ x y a b Q w d1 d2 h;unfold HU at h
 match e1:dF Ω a,e2:dF Ω b with
 | none,_=>rw [e1]at h;exact False.elim h
 | some xs,none=>rw [e1,e2]at h;exact False.elim h
 | some xs,some ys =>
  rw [e1,e2]at h;simp only at h
  by_cases hb:(xX a||xX b||decide (sizeLine<xs.length+ys.length))=true
  ·rw [if_pos hb]at h;exact False.elim h
  ·rw [if_neg hb]at h;simp only [Bool.or_eq_true,CI,not_or,Bool.not_eq_true]at hb;obtain⟨p,us,rfl,h2,h3⟩:=Km w d1 e1 (Lf hb.1.1);obtain⟨q,ws,rfl,h5,h6⟩:=Km w d2 e2 (Lf hb.1.2);exact⟨p,q,us,ws,rfl,rfl,h2,h5,by rw [h3.length,h6.length];omega,fun r hr=>nT w hr (h3.append h6) h⟩
theorem dN(c:Bool):kO X W (binaryOp .Add) (Bj c):=by
 refine⟨_,ag9.or (ag8.or ag7),?_⟩;intro G ι Ω H σ x y a b Q w d1 d2 h;unfold Bj at h;split at h
 ·simp only [Den]at d1 d2;exact .inl ⟨_,_,d1,d2,jH w (by simp only [Den]) h⟩
 ·rename_i xs ys;simp only [Den]at d1 d2;obtain⟨p,us,rfl,h2,h3⟩:=d1;obtain⟨q,ws,rfl,h5,h6⟩:=d2;obtain⟨⟨c1,c2⟩,h⟩:=bF.mV h;refine .inr (.inr ⟨p,q,us,ws,rfl,rfl,fM.of (w.sub _ _ h2),fM.of (w.sub _ _ h5),?_,by rw [h3.length,h6.length];exact c2,fun e=>?_,fun _ r hr=>WH w hr (h3.append h6) h⟩)
  ·intro e;subst e;have:=h3.length;simp at this;omega
  ·subst e;refine jH w ?_ h;simp only [Den];exact⟨p,us,rfl,h2,by simpa using h3.append h6⟩
 ·exact .inr (.inl (agS G ι Ω H σ x y _ _ Q w d1 d2 h))
end
def cS:Nat→A→Bool
 | _,.int _=>true
 | _,.bl _=>true
 | _,.bH=>true
 | _,.str x=>PyData.canLay0 (.str x)
 | n+1,.tup ds=>ds.all (cS n)
 | n+1,.lst ds=>ds.all (cS n)
 | _,_=>false
def wC(f:A→A→Bool):List A→List A→Bool
 | [],[]=>true
 | x::xs,y::ys=>f x y&&wC f xs ys
 | _,_=>false
def fL:Nat→A→A→Bool
 | _,.int i,.int j=>i == j
 | _,.bl i,.bl j=>i == j
 | _,.bl i,.int j=>(if i then 1 else 0) == j
 | _,.int i,.bl j=>i == (if j then 1 else 0)
 | _,.bH,.bH=>true
 | _,.str x,.str y=>x == y
 | n+1,.tup xs,.tup ys=>wC (fL n) xs ys
 | n+1,.lst xs,.lst ys=>wC (fL n) xs ys
 | _,_,_=>false
def toPy:Nat→A→PyData
 | _,.int i => .int i
 | _,.bl i => .bool i
 | _,.str x => .str x
 | n+1,.tup ds => .tuple (ds.map (toPy n))
 | n+1,.lst ds => .list (ds.map (toPy n))
 | _,_ => .none
theorem OY:∀(ds:List A) (n:Nat),(∀d∈ds,cS n d=true→PyData.canLay0 (toPy n d)=true)→ds.all (cS n)=true→PyData.canLayAll0 (ds.map (toPy n))=true
 | [],_,_,_=>rfl
 | d::ds,n,ih,h=>by
  simp only [Fe,kR]at h;simp only [cX,PyData.canLayAll0,kR];exact⟨ih d pR h.1,OY ds n (fun e he=>ih e (gQ _ he)) h.2⟩
theorem AM:∀(n:Nat) (a:A),cS n a=true→PyData.canLay0 (toPy n a)=true:=by
 intro n
 induction n with
 | zero=>intro a h;cases a <;> first | rfl | exact h | cases h
 | succ n ih =>
  intro a h;cases a with
  | tup ds=>exact OY ds n (fun d _=>ih d) h
  | lst ds=>exact OY ds n (fun d _=>ih d) h
  | str x=>exact h
  | int i=>rfl
  | bl b=>rfl
  | bH=>rfl
  | _=>cases h
theorem Cc:∀(ds:List A) (n:Nat),(∀d∈ds,(toPy n d).depth≤n)→PyData.depthAll (ds.map (toPy n))≤n
 | [],_,_=>CU _
 | d::ds,n,ih=>by
  simp only [cX,PyData.depthAll];exact Nat.max_le.mpr ⟨ih d pR,Cc ds n fun e he=>ih e (gQ _ he)⟩
theorem SO:∀(n:Nat) (a:A),(toPy n a).depth≤n:=by
 intro n
 induction n with
 | zero=>intro a;cases a <;> exact oB _
 | succ n ih =>
  intro a;cases a with
  | tup ds=>exact Nat.succ_le_succ (Cc ds n fun d _=>ih d)
  | lst ds=>exact Nat.succ_le_succ (Cc ds n fun d _=>ih d)
  | _=>exact CU _
theorem Pq:∀(xs ys:List A) (n:Nat),(∀x∈xs,∀y∈ys,PyData.eqv (toPy n x) (toPy n y)=fL n x y)→PyData.eqvAll (xs.map (toPy n)) (ys.map (toPy n))=wC (fL n) xs ys
 | [],[],_,_=>rfl
 | [],_::_,_,_=>rfl
 | _::_,[],_,_=>rfl
 | x::xs,y::ys,n,ih=>by
  simp only [cX,PyData.eqvAll,wC];rw [ih x pR y pR,Pq xs ys n fun a ha b hb=>ih a (gQ _ ha) b (gQ _ hb)]
theorem SN:∀(n:Nat) (a b:A),cS n a=true→cS n b=true→PyData.eqv (toPy n a) (toPy n b)=fL n a b:=by
 intro n
 induction n with
 | zero=>intro a b ha hb;cases a <;> cases b <;> first | rfl | (simp [cS]at ha;done) | (simp [cS]at hb;done)
 | succ n ih =>
  intro a b ha hb;have lst:∀xs ys:List A,xs.all (cS n)=true→ys.all (cS n)=true→PyData.eqvAll (xs.map (toPy n)) (ys.map (toPy n))=wC (fL n) xs ys:=fun xs ys h1 h2 =>
   Pq xs ys n fun x hx y hy=>ih x y (JH.mp h1 x hx) (JH.mp h2 y hy)
  cases a <;> cases b <;> first | rfl | (simp [cS]at ha;done) | (simp [cS]at hb;done) | exact lst _ _ ha hb
section
variable{X:Cx}{pins:List (Addr×Obj)}{σ:L2.St}{H:Hp}{s:Shared}{ι:List Addr}
theorem readsAll(n:Nat)(ih:∀(v:V) (u:Value) (a:A),cS n a=true→Den X.K H ι v a→RelV v u→∃as,Reads s.heap u (toPy n a) as) :
  ∀(ds:List A) (xs:List V) (us:List Value),ds.all (cS n)=true→aN X.K H ι xs ds→Vals xs us→∃as,ReadsAll s.heap us (ds.map (toPy n)) as
 | [],xs,us,_,d,r=>by
  rw [mD]at d;subst d;cases r;exact⟨_,.nil⟩
 | a::ds,xs,us,h,d,r=>by
  obtain⟨x,t,rfl,d1,d2⟩:=d.jF;simp only [Fe,kR]at h;cases r with
  | cons r1 r2 =>
   obtain⟨as,q1⟩:=ih _ _ _ h.1 d1 r1;obtain⟨bs,q2⟩:=readsAll n ih ds _ _ h.2 d2 r2;exact⟨_,.cons q1 q2⟩
theorem AU(I:Inv X pins σ H s):∀(n:Nat) (v:V) (u:Value) (a:A),cS n a=true→Den X.K H ι v a→RelV v u→∃as,Reads s.heap u (toPy n a) as:=by
 intro n
 induction n with
 | zero =>
  intro v u a h d r;cases a with
  | int i=>simp only [Den]at d;subst d;obtain⟨t,rfl⟩:=r;exact⟨_,.int i t⟩
  | bl b=>simp only [Den]at d;subst d;cases r;exact⟨_,.bool b⟩
  | str x=>simp only [Den]at d;subst d;obtain⟨t,rfl⟩:=r;exact⟨_,.str x t⟩
  | bH=>simp only [Den]at d;subst d;cases r;exact⟨_,.none⟩
  | _=>cases h
 | succ n ih =>
  intro v u a h d r;cases a with
  | int i=>simp only [Den]at d;subst d;obtain⟨t,rfl⟩:=r;exact⟨_,.int i t⟩
  | bl b=>simp only [Den]at d;subst d;cases r;exact⟨_,.bool b⟩
  | str x=>simp only [Den]at d;subst d;obtain⟨t,rfl⟩:=r;exact⟨_,.str x t⟩
  | bH=>simp only [Den]at d;subst d;cases r;exact⟨_,.none⟩
  | tup ds =>
   simp only [Den]at d;obtain⟨p,xs,rfl,h2,h3⟩:=d;cases r;obtain⟨aL,rv,pl,hz⟩:=I.tuple (fM.of h2);obtain⟨as,q⟩:=readsAll n ih ds xs aL h h3 rv;obtain⟨o,ho,hc,m,hd⟩:=(show s.heap.IsTuple p aL.toArray from pl);exact⟨_,.tuple ho hc hd (by simpa using q)⟩
  | lst ds =>
   simp only [Den]at d;obtain⟨p,xs,rfl,h2,h3⟩:=d;cases r;obtain⟨aL,rv,pl,hz⟩:=I.list (eX.of h2);obtain⟨as,q⟩:=readsAll n ih ds xs aL h h3 rv;obtain⟨o,ho,hc,m,hd⟩:=pl.isList;exact⟨_,.list ho hc hd (by simpa using q)⟩
  | _=>cases h
end
def VL(K:Frag)(neg:Bool):R2:=fun x y H Q=>∃ι a b,cS 8 a=true∧cS 8 b=true∧Den K H ι x a∧Den K H ι y b∧Q (.bl (if neg then !fL 8 a b else fL 8 a b)) H
theorem ag6{X:Cx}(hu:X.A.units+64<cLine):gB X (compareOp .Eq) (VL X.K false):=by
 intro pins s σ H x y v u Q I rx ry h;obtain⟨ι,a,b,h1,h2,d1,d2,q⟩:=h;obtain⟨as,q1⟩:=AU I 8 x v a h1 d1 rx;obtain⟨bs,q2⟩:=AU I 8 y u b h2 d2 ry;have e1:=SO 8 a;refine SeqAt.compareEq_reads q1 q2 (AM 8 a h1) (AM 8 b h2) (by omega) ?_;rw [SN 8 a b h1 h2];exact⟨.bl (fL 8 a b),H,I,rfl,q⟩
theorem agW{X:Cx}(hu:X.A.units+64<cLine):gB X (compareOp .NotEq) (VL X.K true):=by
 intro pins s σ H x y v u Q I rx ry h;obtain⟨ι,a,b,h1,h2,d1,d2,q⟩:=h;obtain⟨as,q1⟩:=AU I 8 x v a h1 d1 rx;obtain⟨bs,q2⟩:=AU I 8 y u b h2 d2 ry;have e1:=SO 8 a;refine SeqAt.compareNe_reads q1 q2 (AM 8 a h1) (AM 8 b h2) (by omega) ?_;rw [SN 8 a b h1 h2];exact⟨.bl (!fL 8 a b),H,I,rfl,q⟩
def rW(f:A→Option A):List A→Option (List A)
 | []=>some []
 | x::xs=>match f x,rW f xs with
  | some y,some ys=>some (y::ys)
  | _,_=>none
def res(Ω:aI):Nat→A→Option A
 | 0,a=>if cS 8 a=true then some a else none
 | n+1,a=>if cS 8 a=true then some a else match a with
  | .tup ds=>(rW (res Ω n) ds).map .tup
  | .lst ds=>(rW (res Ω n) ds).map .lst
  | .aB k=>match Ω[k]? with
   | some (.lst ds)=>(rW (res Ω n) ds).map .lst
   | _=>none
  | _=>none
section
variable{K:Frag}{G H:Hp}{ι:List Addr}{Ω:aI}
theorem Wd.Pk(w:Wd K G ι Ω H):Ext G ι H ι:=⟨w.sub,fun _ _ h=>h⟩
theorem MZ{f:A→Option A}(ih:∀v a b,Den K G ι v a→f a=some b→Den K H ι v b):∀(ds es:List A) (xs:List V),aN K G ι xs ds→rW f ds=some es→aN K H ι xs es
 | [],es,xs,d,h=>by
  simp only [rW,jB]at h;subst h;rw [mD]at d ⊢;exact d
 | a::ds,es,xs,d,h=>by
  obtain⟨x,t,rfl,d1,d2⟩:=d.jF;simp only [rW]at h;split at h
  ·rename_i y ys e1 e2;cases h;exact .cons (ih _ _ _ d1 e1) (MZ ih ds ys t d2 e2)
  ·cases h
theorem MJ(w:Wd K G ι Ω H):∀(n:Nat) (v:V) (a b:A),Den K G ι v a→res Ω n a=some b→Den K H ι v b:=by
 intro n
 induction n with
 | zero =>
  intro v a b d h;simp only [res]at h;split at h
  ·cases h;exact d.ext w.Pk
  ·cases h
 | succ n ih =>
  intro v a b d h;simp only [res]at h;split at h
  ·cases h;exact d.ext w.Pk
  ·split at h
   ·rename_i ds _;simp only [uD]at h;obtain⟨es,h1,rfl⟩:=h;simp only [Den]at d ⊢;obtain⟨p,xs,q1,q2,q3⟩:=d;exact⟨p,xs,q1,w.sub _ _ q2,MZ ih ds es xs q3 h1⟩
   ·rename_i ds _;simp only [uD]at h;obtain⟨es,h1,rfl⟩:=h;simp only [Den]at d ⊢;obtain⟨p,xs,q1,q2,q3⟩:=d;exact⟨p,xs,q1,w.sub _ _ q2,MZ ih ds es xs q3 h1⟩
   ·rename_i k _;split at h
    ·rename_i ds e;simp only [uD]at h;obtain⟨es,h1,rfl⟩:=h;simp only [Den]at d ⊢;obtain⟨p,q1,q2⟩:=d;obtain⟨g,xs,q3,q4⟩:=w.aB k _ p e q2;exact⟨p,xs,q1,q3,MZ ih ds es xs q4 h1⟩
    ·cases h
   ·cases h
end
def vW(neg:Bool)(a b:A):Mo A:=fun Ω=>match res Ω 6 a,res Ω 6 b with
 | some x,some y=>if(cS 8 x&&cS 8 y)=true then some (.ok (.bl (if neg then !fL 8 x y else fL 8 x y)),Ω)else none
 | _,_=>none
def iZ:=vW false
def iY:=vW true
section
variable{X:Cx}{W:WX}{e a b c:Expr}{pos:Pos}{fa fb fc:Ev→Mo A}{ta tb:Ev→Mo Bool}
theorem Kz{K:Frag}{neg:Bool}:uE K W (VL K neg) (vW neg):=by
 intro G ι Ω H σ x y a b Q w d1 d2 h;unfold vW at h;split at h
 ·rename_i a' b' e1 e2;split at h
  ·rename_i hp;rw [kR]at hp;exact⟨ι,a',b',hp.1,hp.2,MJ w 6 x a a' d1 e1,MJ w 6 y b b' d2 e2,h _ H G ι (Ext.refl _ _) w (by simp only [Den])⟩
  ·exact False.elim h
 ·exact False.elim h
theorem rR(hu:X.A.units+64<cLine):kO X W (compareOp .Eq) iZ:=⟨_,ag6 hu,Kz⟩
theorem rQ(hu:X.A.units+64<cLine):kO X W (compareOp .NotEq) iY:=⟨_,agW hu,Kz⟩
@[simp] def HR:=BY fun i j => .bl (decide (i<j))
@[simp] def yQ:=BY fun i j => .bl (decide (i≤j))
@[simp] def oY:=BY fun i j => .bl (decide (j<i))
@[simp] def BZ:=BY fun i j => .bl (decide (j≤i))
theorem WA:kO X W (compareOp .Lt) HR:=⟨_,agZ,FI fun _ _ _ _=>by simp only [Den]⟩
theorem WB:kO X W (compareOp .LtE) yQ:=⟨_,ag0,FI fun _ _ _ _=>by simp only [Den]⟩
theorem vH:kO X W (compareOp .Gt) oY:=⟨_,ag2,FI fun _ _ _ _=>by simp only [Den]⟩
theorem WC:kO X W (compareOp .GtE) BZ:=⟨_,ag3,FI fun _ _ _ _=>by simp only [Den]⟩
def xY:A→Option Bool
 | .bH=>some true
 | _=>some false
theorem ajZ{K:Frag}{G:Hp}{ι:List Addr}{v:V}{a:A}(d:Den K G ι v a):xY a=some (decide (v = .bH)):=by
 cases a with
 | bH=>simp only [Den]at d;subst d;rfl
 | tup ds=>simp only [Den]at d;obtain⟨p,xs,rfl,_⟩:=d;rfl
 | lst ds=>simp only [Den]at d;obtain⟨p,xs,rfl,_⟩:=d;rfl
 | bK ds=>simp only [Den]at d;obtain⟨p,rfl,_⟩:=d;rfl
 | aB ds=>simp only [Den]at d;obtain⟨p,rfl,_⟩:=d;rfl
 | gl x=>simp only [Den]at d;obtain⟨p,_,rfl⟩:=d;rfl
 | CC p d' f i=>simp only [Den]at d;obtain⟨rfl,_⟩:=d;rfl
 | _=>simp only [Den]at d;subst d;rfl
@[simp] def Ov(neg:Bool):A→A→Mo A
 | a,.bH=>mb (need (xY a)) fun k=>ret (.bl (if neg then !k else k))
 | _,_=>stuck
theorem ahI:kO X W (compareOp .Is) (Ov false):=by
 refine⟨_,ag1,?_⟩;intro G ι Ω H σ x y a b Q w d1 d2 h;cases b with
 | bH =>
  simp only [Den]at d2;obtain⟨k,e,h⟩:=bF.need h;rw [ajZ d1]at e;cases e;exact⟨d2,jH w (by simp only [Den];rfl) h⟩
 | _=>exact False.elim h
@[simp] def OL:A→Mo Bool
 | .bl b=>ret b
 | _=>stuck
@[simp] def bJ(f:Ev→Mo A):Ev→Mo Bool:=fun ρ=>mb (f ρ) OL
theorem TL{K:Frag}{t:TE}(h:eQ K (Den K) W t fa):eQ K AS W (Hx t) (bJ fa):=by
 intro G ι Ω H σ ρ Q w r q;refine h G ι Ω H σ ρ _ w r (bF.mb q fun x Ω1 v H1 G1 ι1 x1 w1 d1 h1=>?_);cases x with
 | bl b=>simp only [Den]at d1;exact⟨b,d1,jH w1 rfl h1⟩
 | _=>exact False.elim h1
theorem RS{op:CmpOp}{g:A→A→Mo A}(ho:kO X W (compareOp op) g)(ha:VE X W a fa)(hb:VE X W b fb)(hm:behindInMarks op b=false):VE X W (.Compare a [op] [b] pos) (aC g fa fb):=by
 obtain⟨r,o1,o2⟩:=ho;obtain⟨t,p1,s1⟩:=ha;obtain⟨u,p2,s2⟩:=hb;exact⟨_,agE o1 p1 p2 hm,LX o2 s1 s2⟩
theorem eZ{op:CmpOp}{g:A→A→Mo A}(ho:kO X W (compareOp op) g)(ha:VE X W a fa)(hb:VE X W b fb)(hm:behindInMarks op b=false):VT X W (.Compare a [op] [b] pos) (bJ (aC g fa fb)):=by
 obtain⟨r,o1,o2⟩:=ho;obtain⟨t,p1,s1⟩:=ha;obtain⟨u,p2,s2⟩:=hb;exact⟨_,aeY o1 p1 p2 hm,TL (LX o2 s1 s2)⟩
@[simp] def EG(g g':A→A→Mo A)(f1 f2 f3:Ev→Mo A):Ev→Mo A:=fun ρ=>mb (f1 ρ) fun x=>mb (f2 ρ) fun y=>mb (g x y) fun z=>mb (OL z) fun k=>if k then mb (f3 ρ) fun u=>g' y u else ret (.bl false)
theorem ac2{K:Frag}{r r':R2}{g g':A→A→Mo A}{t1 t2 t3:TE}(ho:uE K W r g)(lM:uE K W r' g')(h1:eQ K (Den K) W t1 fa)(h2:eQ K (Den K) W t2 fb)(h3:eQ K (Den K) W t3 fc):eQ K (Den K) W (Ig r r' t1 t2 t3) (EG g g' fa fb fc):=by
 intro G ι Ω H σ ρ Q w q h;refine h1 G ι Ω H σ ρ _ w q (bF.mb h fun x Ω1 v H1 G1 ι1 x1 w1 d1 h1=>?_);refine h2 G1 ι1 Ω1 H1 σ ρ _ w1 (q.ext x1) (bF.mb h1 fun y Ω2 u H2 G2 ι2 x2 w2 d2 h2=>?_);refine ho G2 ι2 Ω2 H2 σ v u x y _ w2 (d1.ext x2) d2 (bF.mb h2 fun z Ω3 z' H3 G3 ι3 x3 w3 d3 OH=>?_);cases z with
 | bl k =>
  simp only [Den]at d3;refine⟨k,d3,?_⟩;cases k with
  | true=>exact h3 G3 ι3 Ω3 H3 σ ρ _ w3 (q.ext ((x1.trans x2).trans x3)) (bF.mb OH fun m Ω4 m' H4 G4 ι4 x4 w4 d4 h4=>lM G4 ι4 Ω4 H4 σ u m' y m Q w4 (d2.ext (x3.trans x4)) d4 h4)
  | false=>exact jH w3 (by simp only [Den]) OH
 | _=>exact False.elim OH
theorem Vy{op xO:CmpOp}{g g':A→A→Mo A}(ho:kO X W (compareOp op) g)(lM:kO X W (compareOp xO) g')(ha:VE X W a fa)(hb:VE X W b fb)(hc:VE X W c fc)
  (hm:lastMarks [op,xO] [b,c]=false:=by with_unfolding_all rfl):VE X W (.Compare a [op,xO] [b,c] pos) (EG g g' fa fb fc):=by
 obtain⟨r,o1,o2⟩:=ho;obtain⟨r',o1',o2'⟩:=lM;obtain⟨t,p1,s1⟩:=ha;obtain⟨u,p2,s2⟩:=hb;obtain⟨u',p3,s3⟩:=hc;exact⟨_,agF o1 o1' p1 p2 p3 hm,ac2 o2 o2' s1 s2 s3⟩
theorem pJ(h:VE X W e fa)(he:∀whole,isTrue e X.env whole=(do let v ← whole;standAt e.pos;holding [v] (truthy v)):=by intro _;rfl):VT X W e (bJ fa):=by
 obtain⟨t,p,s⟩:=h;exact⟨_,aeW p he,TL s⟩
@[simp] def uS(f g:Ev→Mo Bool):Ev→Mo Bool:=fun ρ=>mb (f ρ) fun c=>if c then g ρ else ret false
@[simp] def iP(f g:Ev→Mo Bool):Ev→Mo Bool:=fun ρ=>mb (f ρ) fun c=>if c then ret true else g ρ
@[simp] def lT(f:Ev→Mo Bool):Ev→Mo Bool:=fun ρ=>mb (f ρ) fun c=>ret (!c)
variable{rest:List Expr}
theorem Gq(h:VT X W a ta):VW X W (.BoolOp .And [a] pos) ta:=let ⟨t,p,s⟩:=h; ⟨t,pw_and1 p,s⟩
theorem wY(h:VT X W a ta):VW X W (.BoolOp .Or [a] pos) ta:=let ⟨t,p,s⟩:=h; ⟨t,pw_or1 p,s⟩
theorem RN(h1:VT X W a ta)(h2:VW X W (.BoolOp .And (b::rest) pos) tb):VW X W (.BoolOp .And (a::b::rest) pos) (uS ta tb):=by
 obtain⟨t,p1,s1⟩:=h1;obtain⟨u,p2,s2⟩:=h2;refine⟨_,pw_and p1 p2,fun G ι Ω H σ ρ Q w r h=>?_⟩;refine s1 G ι Ω H σ ρ _ w r (bF.mb h fun c Ω1 c' H1 G1 ι1 x1 w1 d1 h1=>?_);cases(show c'=c from d1);cases c with
 | true=>exact s2 G1 ι1 Ω1 H1 σ ρ Q w1 (r.ext x1) h1
 | false=>exact jH w1 rfl h1
theorem nS(h1:VT X W a ta)(h2:VW X W (.BoolOp .Or (b::rest) pos) tb):VW X W (.BoolOp .Or (a::b::rest) pos) (iP ta tb):=by
 obtain⟨t,p1,s1⟩:=h1;obtain⟨u,p2,s2⟩:=h2;refine⟨_,pw_or p1 p2,fun G ι Ω H σ ρ Q w r h=>?_⟩;refine s1 G ι Ω H σ ρ _ w r (bF.mb h fun c Ω1 c' H1 G1 ι1 x1 w1 d1 h1=>?_);cases(show c'=c from d1);cases c with
 | false=>exact s2 G1 ι1 Ω1 H1 σ ρ Q w1 (r.ext x1) h1
 | true=>exact jH w1 rfl h1
theorem VW.vt(h:VW X W e ta):VT X W e ta:=let ⟨t,p,s⟩:=h; ⟨t,p.pt,s⟩
theorem qL(h:VT X W a ta):VT X W (.UnaryOp .Not a pos) (lT ta):=by
 obtain⟨t,p,s⟩:=h;refine⟨_,aeX p,fun G ι Ω H σ ρ Q w r h=>?_⟩;refine s G ι Ω H σ ρ _ w r (bF.mb h fun c Ω1 c' H1 G1 ι1 x1 w1 d1 h1=>?_);cases(show c'=c from d1);exact jH w1 rfl h1
@[simp] def EI(f g:Ev→Mo A):Ev→Mo A:=fun ρ=>mb (f ρ) fun x=>mb (OL x) fun c=>if c then g ρ else ret (.bl false)
@[simp] def Hj(f:Ev→Mo A):Ev→Mo A:=fun ρ=>mb (f ρ) fun x=>mb (OL x) fun c=>ret (.bl (!c))
theorem Gw{op}(h:VE X W a fa):VE X W (.BoolOp op [a] pos) fa:=let ⟨t,p,s⟩:=h; ⟨t,afX p,s⟩
theorem Hc(h1:VE X W a fa)(h2:VE X W (.BoolOp .And (b::rest) pos) fb):VE X W (.BoolOp .And (a::b::rest) pos) (EI fa fb):=by
 obtain⟨t,p1,s1⟩:=h1;obtain⟨u,p2,s2⟩:=h2;refine⟨_,agK p1 p2,fun G ι Ω H σ ρ Q w r h=>?_⟩;refine s1 G ι Ω H σ ρ _ w r (bF.mb h fun x Ω1 v H1 G1 ι1 x1 w1 d1 h1=>?_);cases x with
 | bl c =>
  simp only [Den]at d1;refine⟨c,d1,?_⟩;cases c with
  | true=>exact s2 G1 ι1 Ω1 H1 σ ρ Q w1 (r.ext x1) h1
  | false=>exact jH w1 (by simp only [Den]) h1
 | _=>exact False.elim h1
theorem Vl(h:VE X W a fa):VE X W (.UnaryOp .Not a pos) (Hj fa):=by
 obtain⟨t,p,s⟩:=h;refine⟨_,afY p,fun G ι Ω H σ ρ Q w r h=>?_⟩;refine s G ι Ω H σ ρ _ w r (bF.mb h fun x Ω1 v H1 G1 ι1 x1 w1 d1 h1=>?_);cases x with
 | bl c =>
  simp only [Den]at d1;exact⟨c,d1,jH w1 (by simp only [Den]) h1⟩
 | _=>exact False.elim h1
end
inductive Out where
 | nx | bk | ct | ret (a:A) | exc (x:Exc)
abbrev OS:=Option (Out×Ev×aI)
abbrev MS:=Ev→aI→OS
def To(K:Frag)(W:WX)(G:Hp)(ι:List Addr)(D:Ends)(σ:L2.St)(H:Hp):Out→Prop
 | .nx=>D.nx σ H
 | .bk=>D.bk σ H
 | .ct=>D.ct σ H
 | .ret a=>∀v,Den K G ι v a→D.rt v H
 | .exc x=>∀cls dx,Ur K G ι H x cls dx→W σ cls dx H
def dU(K:Frag)(W:WX)(G:Hp)(ι:List Addr)(D:Ends):OS→Prop
 | some (o,ρ',Ω')=>∀σ' H' G' ι',Ext G ι G' ι'→Wd K G' ι' Ω' H'→fW K G' ι' σ' ρ'→To K W G' ι' D σ' H' o
 | none=>False
@[simp] def sM{α:Type}(m:Mo α)(ρ:Ev)(k:α→aI→OS):aI→OS:=fun Ω=>match m Ω with
 | some (.ok a,Ω1)=>k a Ω1
 | some (.exc x,Ω1)=>some (.exc x,ρ,Ω1)
 | none=>none
section
variable{K:Frag}{W:WX}{G:Hp}{ι:List Addr}{Ω:aI}{σ:L2.St}{ρ:Ev}{D:Ends}
theorem dU.ext{G1:Hp}{ι1:List Addr}{r:OS}(h:dU K W G ι D r)(e:Ext G ι G1 ι1):dU K W G1 ι1 D r:=by
 match r,h with
 | some (o,ρ',Ω'),h=>exact fun σ' H' G' ι' x w d=>h σ' H' G' ι' (e.trans x) w d
theorem dU.sM{α β:Type}{rel:Rl α β}{m:Mo α}{k:α→aI→OS}{Q1:β→Hp→Prop}(h:dU K W G ι D (V2.sM m ρ k Ω))(r:fW K G ι σ ρ)
  (hk:∀a Ω1 v H1 G1 ι1,Ext G ι G1 ι1→Wd K G1 ι1 Ω1 H1→rel G1 ι1 v a→dU K W G1 ι1 D (k a Ω1)→Q1 v H1):bF K rel W G ι σ Q1 (m Ω):=by
 unfold V2.sM at h
 revert h
 generalize m Ω=q;intro h
 match q,h with
 | some (.ok a,Ω1),h=>exact fun v H1 G1 ι1 x w d=>hk a Ω1 v H1 G1 ι1 x w d (dU.ext h x)
 | some (.exc x,Ω1),h=>exact fun cls dx H' G' ι' e w d=>h σ H' G' ι' e w (r.ext e) cls dx d
end
def sL(K:Frag)(W:WX)(t:TS)(f:MS):Prop:=∀G ι Ω H σ ρ D,Wd K G ι Ω H→fW K G ι σ ρ→dU K W G ι D (f ρ Ω)→t D σ H
def VS(X:Cx)(W:WX)(st:Stmt)(f:MS):Prop:=∃t,PS X st t∧sL X.K W t f
def lO(X:Cx)(W:WX)(st:List Stmt)(f:MS):Prop:=∃t,mE X st t∧sL X.K W t f
def CQ(K:Frag)(W:WX)(t:TG)(g:A→MS):Prop:=∀G ι Ω H σ ρ v a D,Wd K G ι Ω H→fW K G ι σ ρ→Den K G ι v a→dU K W G ι D (g a ρ Ω)→t v σ H D.nx
def arN(K:Frag)(W:WX)(t:wH)(g:List A→MS):Prop:=∀G ι Ω H σ ρ vs as D,Wd K G ι Ω H→fW K G ι σ ρ→aN K G ι vs as→dU K W G ι D (g as ρ Ω)→t vs σ H D.nx
def VG(X:Cx)(W:WX)(tg:Expr)(g:A→MS):Prop:=∃t,PG X tg t∧CQ X.K W t g
def QI(X:Cx)(W:WX)(Xb:List Expr)(g:List A→MS):Prop:=∃t,IW X Xb t∧arN X.K W t g
@[simp] def fP:MS:=fun ρ Ω=>some (.nx,ρ,Ω)
@[simp] def bC(f g:MS):MS:=fun ρ Ω=>match f ρ Ω with
 | some (.nx,ρ1,Ω1)=>g ρ1 Ω1
 | r=>r
section
variable{X:Cx}{W:WX}{st:Stmt}{rest:List Stmt}{f g:MS}{e:Expr}{fe:Ev→Mo A}{pos:Pos}
theorem qQ{K:Frag}{G H:Hp}{ι:List Addr}{Ω:aI}{σ:L2.St}{ρ:Ev}{D:Ends}(w:Wd K G ι Ω H)(r:fW K G ι σ ρ)(h:dU K W G ι D (some (.nx,ρ,Ω))):D.nx σ H:=h σ H G ι (Ext.refl _ _) w r
theorem hU:lO X W [] fP:=⟨_,ae1,fun _ _ _ _ _ _ _ w r h=>qQ w r h⟩
theorem acX{K:Frag}{t u:TS}(h1:sL K W t f)(h2:sL K W u g):sL K W (Hy t u) (bC f g):=by
 intro G ι Ω H σ ρ D w r h;refine h1 G ι Ω H σ ρ _ w r ?_;unfold bC at h
 revert h
 generalize f ρ Ω=q;intro h
 match q,h with
 | some (.nx,ρ1,Ω1),h=>exact fun σ' H' G' ι' x w' r'=>h2 G' ι' Ω1 H' σ' ρ1 D w' r' (dU.ext h x)
 | some (.bk,ρ1,Ω1),h=>exact h
 | some (.ct,ρ1,Ω1),h=>exact h
 | some (.ret a,ρ1,Ω1),h=>exact h
 | some (.exc a,ρ1,Ω1),h=>exact h
theorem bN(h1:VS X W st f)(h2:lO X W rest g):lO X W (st::rest) (bC f g):=by
 obtain⟨t,p1,s1⟩:=h1;obtain⟨u,p2,s2⟩:=h2;exact⟨_,ae2 p1 p2,acX s1 s2⟩
theorem bU(h1:VS X W st f):lO X W [st] f:=let ⟨t,p,s⟩:=h1; ⟨t,ae0 p,s⟩
@[simp] def jG(fe:Ev→Mo A):MS:=fun ρ=>sM (fe ρ) ρ fun _ Ω=>some (.nx,ρ,Ω)
theorem lS(h:VE X W e fe)(hs:swapsWith e none pos.line X.env=pure false:=by rfl):VS X W (.Expr e pos) (jG fe):=by
 obtain⟨t,p,s⟩:=h;refine⟨_,afA p hs,fun G ι Ω H σ ρ D w r h=>?_⟩;exact s G ι Ω H σ ρ _ w r (dU.sM h r fun a Ω1 v H1 G1 ι1 x1 w1 d1 h1=>qQ w1 (r.ext x1) h1)
@[simp] def dE(fe:Ev→Mo A):MS:=fun ρ=>sM (fe ρ) ρ fun a Ω=>some (.ret a,ρ,Ω)
theorem eL(h:VE X W e fe):VS X W (.Return (some e) pos) (dE fe):=by
 obtain⟨t,p,s⟩:=h;refine⟨_,ae6 p,fun G ι Ω H σ ρ D w r h=>?_⟩;exact s G ι Ω H σ ρ _ w r (dU.sM h r fun a Ω1 v H1 G1 ι1 x1 w1 d1 h1=>h1 σ H1 G1 ι1 (Ext.refl _ _) w1 (r.ext x1) v d1)
@[simp] def dZ(c:Ev→Mo Bool)(f g:MS):MS:=fun ρ=>sM (c ρ) ρ fun b Ω=>if b then f ρ Ω else g ρ Ω
theorem gW{c:Expr}{a b:List Stmt}{fc:Ev→Mo Bool}(hc:VT X W c fc)(h1:lO X W a f)(h2:lO X W b g):VS X W (.If c a b pos) (dZ fc f g):=by
 obtain⟨t0,p0,s0⟩:=hc;obtain⟨t,p1,s1⟩:=h1;obtain⟨u,p2,s2⟩:=h2;refine⟨_,ae8 p0 p1 p2,fun G ι Ω H σ ρ D w r h=>?_⟩;refine s0 G ι Ω H σ ρ _ w r (dU.sM h r fun c Ω1 c' H1 G1 ι1 x1 w1 d1 h1=>?_);cases(show c'=c from d1);cases c with
 | true=>exact s1 G1 ι1 Ω1 H1 σ ρ D w1 (r.ext x1) h1
 | false=>exact s2 G1 ι1 Ω1 H1 σ ρ D w1 (r.ext x1) h1
@[simp] def gN(i:Nat):A→MS:=fun a ρ Ω=>some (.nx,ρ.set i (some a),Ω)
theorem jE{i:Nat}{x:Str}(hN:X.N.Nodup)(hi:X.N[i]? = some x)(hx:Loc X.env.scope x)(hf:X.fn x=true∨X.env.scope.names.lookup x=some .local:=by first | exact .inl rfl | exact .inr rfl | assumption):VG X W (.Name x pos) (gN i) :=
 ⟨_,Kq hN hi hx hf,fun _ _ _ _ _ _ _ _ _ w r d h=>qQ w (r.set i d) h⟩
@[simp] def qA:List A→MS:=fun as ρ Ω=>match as with
 | []=>some (.nx,ρ,Ω)
 | _=>none
@[simp] def iU(g:A→MS)(gs:List A→MS):List A→MS:=fun as=>match as with
 | a::r=>bC (g a) (gs r)
 | []=>fun _ _=>none
theorem DZ:QI X W [] qA:=⟨_,afO,fun G ι Ω H σ ρ vs as D w r d h=>by
 cases as with
 | nil=>rw [mD]at d;exact⟨d,qQ w r h⟩
 | cons=>exact False.elim h⟩
theorem rK{es:List Expr}{g:A→MS}{gs:List A→MS}(h1:VG X W e g)(h2:QI X W es gs)
  (hs:(assignEach (e::es) X.env).map (·.2)=assign e X.env::(assignEach es X.env).map (·.2):=by rfl):QI X W (e::es) (iU g gs):=by
 obtain⟨t,p1,s1⟩:=h1;obtain⟨u,p2,s2⟩:=h2;refine⟨_,afP p1 p2 hs,fun G ι Ω H σ ρ vs as D w r d h=>?_⟩;cases as with
 | nil=>exact False.elim h
 | cons a as =>
  obtain⟨x,xs,rfl,d1,d2⟩:=d.jF;refine⟨x,xs,rfl,s1 G ι Ω H σ ρ x a { D with nx:=fun σ' H'=>u xs σ' H' D.nx } w r d1 ?_⟩;simp only [iU,bC]at h
  revert h
  generalize g a ρ Ω=q;intro h
  match q,h with
  | some (.nx,ρ1,Ω1),h=>exact fun σ' H' G' ι' x w' r'=>s2 G' ι' Ω1 H' σ' ρ1 xs as D w' r' (d2.ext x) (dU.ext h x)
  | some (.bk,ρ1,Ω1),h=>exact h
  | some (.ct,ρ1,Ω1),h=>exact h
  | some (.ret a,ρ1,Ω1),h=>exact h
  | some (.exc a,ρ1,Ω1),h=>exact h
@[simp] def oX(n:Nat)(gs:List A→MS):A→MS:=fun a ρ Ω=>match a with
 | .tup ds=>if ds.length=n then gs ds ρ Ω else none
 | _=>none
theorem EA{es:List Expr}{k:Nat}{n:Nat}{gs:List A→MS}(hc:X.calm=true)(h:QI X W es gs)
  (hn:(assignEach es X.env).length=n:=by rfl) (iG:(assignEach es X.env).findIdx? (·.1)=none:=by rfl):VG X W (.Tuple es k pos) (oX n gs):=by
 obtain⟨t,p,s⟩:=h;refine⟨_,afQ hc p hn iG,fun G ι Ω H σ ρ v a D w r d h=>?_⟩;unfold oX at h;cases a with
 | tup ds =>
  simp only at h
  by_cases hl:ds.length=n
  ·rw [if_pos hl]at h;simp only [Den]at d;obtain⟨p,xs,rfl,h2,h3⟩:=d;exact⟨p,xs,rfl,fM.of (w.sub _ _ h2),by rw [h3.length];exact hl,s G ι Ω H σ ρ xs ds D w r h3 h⟩
  ·rw [if_neg hl]at h;exact False.elim h
 | _=>exact False.elim h
@[simp] def setCell(o i v:A)(Ω:aI):Option aI:=match o,i with
 | .aB k,.int n=>match Ω[k]? with
  | some (.lst ds)=>match qU ds.length n with
   | some j=>some (Ω.set k (.lst (ds.set j v)))
   | none=>none
  | _=>none
 | _,_=>none
@[simp] def yP(fo fi:Ev→Mo A):A→MS:=fun a ρ=>sM (fo ρ) ρ fun o=>sM (fi ρ) ρ fun i Ω=>match setCell o i a Ω with
 | some Ω'=>some (.nx,ρ,Ω')
 | none=>none
theorem Gv{o i:Expr}{fo fi:Ev→Mo A}(ho:VE X W o fo)(hi:VE X W i fi)
  (ha:∀v,assign (.Subscript o i pos) X.env v=(do
   let ov ← holding [v] (eval o X.env)
   let iv ← holding [v,ov] (eval i X.env)
   standAt pos
   holding [v,ov,iv] (setItem ov iv v)
   release [v,ov,iv] []):=by intro _;rfl):VG X W (.Subscript o i pos) (yP fo fi):=by
 obtain⟨t,p1,s1⟩:=ho;obtain⟨u,p2,s2⟩:=hi;refine⟨_,afR p1 p2 set_list ha,fun G ι Ω H σ ρ v a D w r d h=>?_⟩;refine s1 G ι Ω H σ ρ _ w r (dU.sM h r fun x Ω1 v1 H1 G1 ι1 x1 w1 d1 h1=>?_);refine s2 G1 ι1 Ω1 H1 σ ρ _ w1 (r.ext x1) (dU.sM h1 (r.ext x1) fun y Ω2 v2 H2 G2 ι2 x2 w2 d2 h2=>?_);unfold setCell at h2;cases x with
 | aB k =>
  cases y with
  | int n =>
   simp only at h2;cases e:Ω2[k]? with
   | none=>rw [e]at h2;exact False.elim h2
   | some c =>
    rw [e]at h2;cases c with
    | lst ds =>
     simp only at h2;cases e2:qU ds.length n with
     | none=>rw [e2]at h2;exact False.elim h2
     | some j =>
      rw [e2]at h2;have Qi:=d1.ext x2;simp only [Den]at Qi d2;obtain⟨p,rfl,hk⟩:=Qi;obtain⟨gg,xs,h5,h6⟩:=w2.aB k _ p e hk;refine⟨p,xs,n,j,rfl,d2,h5,by rw [h6.length];exact e2,?_⟩;refine qQ (w2.put (c := .lst (ds.set j a)) hk gg ⟨gg,_,dR,?_⟩) (r.ext (x1.trans x2)) h2;exact aN.set (d.ext (x1.trans x2)) j h6
    | _=>exact False.elim h2
  | _=>exact False.elim h2
 | _=>exact False.elim h2
@[simp] def cM(fe:Ev→Mo A)(g:A→MS):MS:=fun ρ=>sM (fe ρ) ρ fun a Ω=>g a ρ Ω
theorem TN{K:Frag}{te:TE}{t:TG}{g:A→MS}(h1:eQ K (Den K) W te fe)(h2:CQ K W t g):sL K W (LM te t) (cM fe g):=by
 intro G ι Ω H σ ρ D w r h;exact h1 G ι Ω H σ ρ _ w r (dU.sM h r fun a Ω1 v H1 G1 ι1 x1 w1 d1 h1=>h2 G1 ι1 Ω1 H1 σ ρ v a D w1 (r.ext x1) d1 h1)
theorem Gu{tg:Expr}{g:A→MS}(he:VE X W e fe)(hg:VG X W tg g)(hs:swapsWithSole [tg] e pos.line X.env=pure false:=by rfl)(hw:swappedStores [tg] e X.env=pure none:=by rfl)
  (h1:(assignEach [tg] X.env).map (·.2)=[assign tg X.env]:=by rfl):VS X W (.Assign [tg] e pos) (cM fe g):=by
 obtain⟨t,p1,s1⟩:=he;obtain⟨u,p2,s2⟩:=hg;exact⟨_,afC p1 p2 hs hw h1,TN s1 s2⟩
theorem fG{i:Nat}{x:Str}{pos':Pos}(hN:X.N.Nodup)(hi:X.N[i]? = some x)(hx:Loc X.env.scope x)(he:VE X W e fe)(hs:swapsWith e (some (.Name x pos')) pos.line X.env=pure false:=by rfl)(hf:X.fn x=true∨X.env.scope.names.lookup x=some .local:=by first | exact .inl rfl | exact .inr rfl | assumption) :
  VS X W (.Assign [.Name x pos'] e pos) (cM fe (gN i)):=by
 obtain⟨t,p1,s1⟩:=he;exact⟨_,ae5 hN hi hx p1 hs hf,TN s1 fun _ _ _ _ _ _ _ _ _ w r d h=>qQ w (r.set i d) h⟩
structure Src where
 ds:List A
 ok:aI→Prop
structure uI(K:Frag)(G:Hp)(ι:List Addr)(J:It)(S:Src):Prop where
 go:∀G' ι' Ω' H',Ext G ι G' ι'→Wd K G' ι' Ω' H'→S.ok Ω'→∀i,i<S.ds.length→J.go i H'
 stop:∀G' ι' Ω' H',Ext G ι G' ι'→Wd K G' ι' Ω' H'→S.ok Ω'→∀i,S.ds.length≤i→J.stop i H'
 sU:∀G' ι' Ω' H',Ext G ι G' ι'→Wd K G' ι' Ω' H'→S.ok Ω'→∀i x H2 d,S.ds[i]? = some d→J.sU i H' x H2→∃G2,Ext G' ι' G2 ι'∧Wd K G2 ι' Ω' H2∧Den K G2 ι' x d
def VD(K:Frag):Rl Src It:=fun G ι J S=>uI K G ι J S
theorem uI.ext{K:Frag}{G G1:Hp}{ι ι1:List Addr}{J:It}{S:Src}(h:uI K G ι J S)(e:Ext G ι G1 ι1):uI K G1 ι1 J S :=
 ⟨fun G' ι' Ω' H' x=>h.go G' ι' Ω' H' (e.trans x),fun G' ι' Ω' H' x=>h.stop G' ι' Ω' H' (e.trans x),fun G' ι' Ω' H' x=>h.sU G' ι' Ω' H' (e.trans x)⟩
def VI(X:Cx)(W:WX)(tg iter:Expr)(f:Ev→Mo Src):Prop:=∃t,PI X tg iter t∧eQ X.K (VD X.K) W t f
open Classical in
noncomputable def dO(ok:aI→Prop)(g:A→MS)(b:MS):List A→MS
 | [],ρ,Ω=>if ok Ω then some (.nx,ρ,Ω)else none
 | x::xs,ρ,Ω=>if ok Ω then(match g x ρ Ω with
  | some (.nx,ρ0,Ω0)=>(match b ρ0 Ω0 with
   | some (.nx,ρ1,Ω1)=>dO ok g b xs ρ1 Ω1
   | some (.ct,ρ1,Ω1)=>dO ok g b xs ρ1 Ω1
   | some (.bk,ρ1,Ω1)=>some (.nx,ρ1,Ω1)
   | r=>r)
  | some (.exc e,ρ0,Ω0)=>some (.exc e,ρ0,Ω0)
  | _=>none)else none
@[simp] noncomputable def oO(fi:Ev→Mo Src)(g:A→MS)(b:MS):MS:=fun ρ=>sM (fi ρ) ρ fun S Ω=>dO S.ok g b S.ds ρ Ω
theorem Pj{K:Frag}{G:Hp}{ι:List Addr}{D:Ends}{ok:aI→Prop}{g:A→MS}{b:MS}{xs:List A}{ρ:Ev}{Ω:aI}(h:dU K W G ι D (dO ok g b xs ρ Ω)):ok Ω:=by
 cases xs with
 | nil =>
  unfold dO at h
  by_cases hp:ok Ω
  ·exact hp
  ·rw [if_neg hp]at h;exact False.elim h
 | cons =>
  unfold dO at h
  by_cases hp:ok Ω
  ·exact hp
  ·rw [if_neg hp]at h;exact False.elim h
theorem ac0{K:Frag}{wi:TI}{tg:TG}{tb:TS}{fi:Ev→Mo Src}{g:A→MS}{b:MS}(hi:eQ K (VD K) W wi fi)(hg:CQ K W tg g)(hb:sL K W tb b):sL K W (SV wi tg tb) (oO fi g b):=by
 intro G ι Ω H σ ρ D w r h;refine hi G ι Ω H σ ρ _ w r (dU.sM h r fun S Ω1 J H1 G1 ι1 x1 w1 j1 h1=>?_);refine⟨fun i m σ' H'=>m=S.ds.length - i∧i≤S.ds.length∧∃G' ι' Ω' ρ',Ext G1 ι1 G' ι'∧Wd K G' ι' Ω' H'∧fW K G' ι' σ' ρ'∧dU K W G' ι' D (dO S.ok g b (S.ds.drop i) ρ' Ω'),
  ⟨_,rfl,CU _,G1,ι1,Ω1,ρ,Ext.refl _ _,w1,r.ext x1,by simpa using h1⟩,?_⟩
 rintro i m σ' H' ⟨rfl,Nn,G',ι',Ω',ρ',e',w',r',h'⟩;have aH:=Pj h'
 by_cases dD:i<S.ds.length
 ·right
  refine⟨j1.go G' ι' Ω' H' e' w' aH i dD,fun σ2 H2=>∃G2 ι2 Ω2 ρ2,Ext G1 ι1 G2 ι2∧Wd K G2 ι2 Ω2 H2∧fW K G2 ι2 σ2 ρ2∧dU K W G2 ι2 D (dO S.ok g b (S.ds.drop (i+1)) ρ2 Ω2),fun σ2 H2 n=>?_,fun x H2 y=>?_⟩
  ·exact⟨S.ds.length - (i+1),by omega,rfl,dD,n⟩
  ·obtain⟨G2,e2,w2,d2⟩:=j1.sU G' ι' Ω' H' e' w' aH i x H2 S.ds[i] (jC dD) y;rw [Uh dD]at h';unfold dO at h';rw [if_pos aH]at h';refine hg G2 ι' Ω' H2 σ' ρ' x S.ds[i] { D with nx:=fun σ3 H3=>tb _ σ3 H3 } w2 (r'.ext e2) d2 ?_
   revert h'
   generalize g S.ds[i] ρ' Ω'=q;intro h'
   match q,h' with
   | some (.nx,ρ3,Ω3),h' =>
    intro σ3 H3 G3 ι3 x3 w3 r3;refine hb G3 ι3 Ω3 H3 σ3 ρ3 _ w3 r3 ?_;simp only at h'
    revert h'
    generalize b ρ3 Ω3=q2;intro h'
    match q2,h' with
    | some (.nx,ρ4,Ω4),h'=>exact fun σ4 H4 G4 ι4 x4 w4 r4=>⟨G4,ι4,Ω4,ρ4,(e'.trans (e2.trans x3)).trans x4,w4,r4,dU.ext h' ((e2.trans x3).trans x4)⟩
    | some (.ct,ρ4,Ω4),h'=>exact fun σ4 H4 G4 ι4 x4 w4 r4=>⟨G4,ι4,Ω4,ρ4,(e'.trans (e2.trans x3)).trans x4,w4,r4,dU.ext h' ((e2.trans x3).trans x4)⟩
    | some (.bk,ρ4,Ω4),h'=>exact fun σ4 H4 G4 ι4 x4 w4 r4=>h' σ4 H4 G4 ι4 ((e2.trans x3).trans x4) w4 r4
    | some (.ret a,ρ4,Ω4),h'=>exact fun σ4 H4 G4 ι4 x4 w4 r4=>h' σ4 H4 G4 ι4 ((e2.trans x3).trans x4) w4 r4
    | some (.exc a,ρ4,Ω4),h'=>exact fun σ4 H4 G4 ι4 x4 w4 r4=>h' σ4 H4 G4 ι4 ((e2.trans x3).trans x4) w4 r4
   | some (.exc a,ρ3,Ω3),h'=>exact fun σ4 H4 G4 ι4 x4 w4 r4=>h' σ4 H4 G4 ι4 (e2.trans x4) w4 r4
 ·have GS:i=S.ds.length:=by omega
  subst GS
  left
  rw [List.drop_length]at h';unfold dO at h';rw [if_pos aH]at h';exact⟨j1.stop G' ι' Ω' H' e' w' aH _ bP,qQ w' r' h'⟩
theorem uP{tg iter:Expr}{body:List Stmt}{fi:Ev→Mo Src}{g:A→MS}{b:MS}(hp:PassesOwn (model X.prog X.w) X.A X.env X.xe)(hc:X.calm=true)(hi:VI X W tg iter fi)(hg:VG X W tg g)(hb:lO X W body b)
  (hs:∀x,foldedSetIterable iter X.env x=pure x:=by intro _;rfl):VS X W (.For tg iter body [] pos) (oO fi g b):=by
 obtain⟨t1,p1,s1⟩:=hi;obtain⟨t2,p2,s2⟩:=hg;obtain⟨t3,p3,s3⟩:=hb;exact⟨_,Kl hp hc p1 p2 p3 hs,ac0 s1 s2 s3⟩
@[simp] def srcOf(a:A)(ds:List A):Src:=⟨ds,fun Ω=>fH Ω a=some ds⟩
theorem Lv{Ω:aI}{a:A}{ds:List A}(h:fH Ω a=some ds)(ha:∀es,a ≠ .tup es):dF Ω a=some ds:=by
 cases a with
 | tup es=>exact absurd rfl (ha es)
 | _=>exact h
theorem afL{tg l:Expr}{tl:TE}(hl:PE X l tl):PI X tg l (fun σ H R=>tl σ H fun x H1=>∃a,x = .ref a∧(((∃xs,eX X.K H1 a xs)∧R (Fi X.K a) H1)∨((∃xs,fM X.K H1 a xs)∧R (Fh X.K a) H1))):=by
 intro pins s σ H R I h;refine bA (hl pins s σ H _ I h) fun v s1 ⟨x,H1,I1,r1,q1⟩=>?_;obtain⟨a,e,q⟩:=q1;subst e;cases r1
 rcases q with⟨⟨xs,hq⟩,q⟩ | ⟨⟨xs,hq⟩,q⟩
 ·obtain⟨aL,rv,p,hz⟩:=I1.list hq;refine wpAny_pyIter_list p.isList ?_;refine⟨s1.heap.objs.size,[s1.heap.objs.size],_,_,H1,rfl,I1.kept (t':=s1.toks) fun b o e=>cH _ e,Wm a _,⟨_,eY _ rfl,rfl,rfl⟩,fun b hb=>?_,q⟩;have e:b=s1.heap.objs.size:=by simpa using hb
  subst e;exact I1.yU bP (I1.aH.fresh bP)
 ·obtain⟨aL,rv,p,hz⟩:=I1.tuple hq;refine wpAny_pyIter_tuple (show s1.heap.IsTuple a aL.toArray from p) ?_;refine⟨s1.heap.objs.size,[s1.heap.objs.size],_,_,H1,rfl,I1.kept (t':=s1.toks) fun b o e=>cH _ e,Wk a _,⟨_,eY _ rfl,rfl,rfl⟩,fun b hb=>?_,q⟩;have e:b=s1.heap.objs.size:=by simpa using hb
  subst e;exact I1.yU bP (I1.aH.fresh bP)
@[simp] def fY(f:Ev→Mo A):Ev→Mo Src:=fun ρ=>mb (f ρ) fun a Ω=>match fH Ω a with
 | some ds=>some (.ok (srcOf a ds),Ω)
 | none=>none
theorem ajP{K:Frag}{G:Hp}{ι:List Addr}{p:Addr}{a:A}{ds:List A}(d:Den K G ι (.ref p) a)(ha:∀es,a ≠ .tup es):uI K G ι (Fi K p) (srcOf a ds):=by
 have key:∀G' ι' Ω' H',Ext G ι G' ι'→Wd K G' ι' Ω' H'→fH Ω' a=some ds→∃xs,eX K H' p xs∧aN K G' ι' xs ds:=fun G' ι' Ω' H' e w h=>by
  obtain⟨q,xs,h1,h2,h3⟩:=pS w (d.ext e) (Lv h ha);cases h1;exact⟨xs,h2,h3⟩
 refine⟨fun G' ι' Ω' H' e w h i hi=>?_,fun G' ι' Ω' H' e w h i hi=>?_,fun G' ι' Ω' H' e w h i x H2 y hy hd=>?_⟩
 ·obtain⟨xs,h2,h3⟩:=key G' ι' Ω' H' e w h;have hl:i<xs.length:=by rw [h3.length];exact hi
  exact⟨xs,xs[i],h2,jC hl⟩
 ·obtain⟨xs,h2,h3⟩:=key G' ι' Ω' H' e w h;exact⟨xs,h2,by rw [h3.length];exact hi⟩
 ·obtain⟨xs,h2,h3⟩:=key G' ι' Ω' H' e w h;obtain⟨e1,e2⟩:=hd;subst e1;obtain⟨z,q1,q2⟩:=h3.get hy;rw [e2 xs h2]at q1;cases q1;exact⟨G',Ext.refl _ _,w,q2⟩
theorem ajO{K:Frag}{G:Hp}{ι:List Addr}{p:Addr}{ds es:List A}(d:Den K G ι (.ref p) (.tup es)):uI K G ι (Fh K p) (srcOf (.tup es) ds):=by
 have key:∀G' ι' Ω' H',Ext G ι G' ι'→Wd K G' ι' Ω' H'→fH Ω' (.tup es)=some ds→∃xs,fM K H' p xs∧aN K G' ι' xs ds:=fun G' ι' Ω' H' e w h=>by
  simp only [fH,jB]at h;subst h;have d':=d.ext e;simp only [Den]at d';obtain⟨q,xs,h1,h2,h3⟩:=d';cases h1;exact⟨xs,fM.of (w.sub _ _ h2),h3⟩
 refine⟨fun G' ι' Ω' H' e w h i hi=>?_,fun G' ι' Ω' H' e w h i hi=>?_,fun G' ι' Ω' H' e w h i x H2 y hy hd=>?_⟩
 ·obtain⟨xs,h2,h3⟩:=key G' ι' Ω' H' e w h;have hl:i<xs.length:=by rw [h3.length];exact hi
  exact⟨xs,xs[i],h2,jC hl⟩
 ·obtain⟨xs,h2,h3⟩:=key G' ι' Ω' H' e w h;exact⟨xs,h2,by rw [h3.length];exact hi⟩
 ·obtain⟨xs,h2,h3⟩:=key G' ι' Ω' H' e w h;obtain⟨e1,e2⟩:=hd;subst e1;obtain⟨z,q1,q2⟩:=h3.get hy;rw [e2 xs h2]at q1;cases q1;exact⟨G',Ext.refl _ _,w,q2⟩
theorem pL{tg l:Expr}{fe:Ev→Mo A}(h:VE X W l fe):VI X W tg l (fY fe):=by
 obtain⟨t,p,s⟩:=h;refine⟨_,afL p,fun G ι Ω H σ ρ R w r h=>?_⟩;refine s G ι Ω H σ ρ _ w r (bF.mb h fun a Ω1 v H1 G1 ι1 x1 w1 d1 h1=>?_);cases e:fH Ω1 a with
 | none=>simp only [e]at h1;exact False.elim h1
 | some ds =>
  simp only [e]at h1;obtain⟨q,xs,h2,h3,h4⟩:=LW w1 d1 e;subst h2;refine⟨q,rfl,?_⟩;cases a with
  | tup es =>
   right
   simp only [Den]at d1;obtain⟨q',Ux,e1,e2,e3⟩:=id d1;cases e1;exact⟨⟨_,fM.of (w1.sub _ _ e2)⟩,h1 _ H1 G1 ι1 (Ext.refl _ _) w1 (ajO (by simpa only [Den]using d1))⟩
  | _ =>
   left
   obtain⟨q',Ux,e1,e2,e3⟩:=pS w1 d1 (Lv e (by intro _ z;cases z));cases e1;exact⟨⟨_,e2⟩,h1 _ H1 G1 ι1 (Ext.refl _ _) w1 (ajP d1 (by intro _ z;cases z))⟩
@[simp] def vA(lo:Int)(n:Nat):Src:=⟨(List.range n).map fun(i:Nat)=>A.int (lo+(i:Int)),fun _=>True⟩
def tE(i:Int):Prop:=-(2 ^ 62)≤i∧i<2 ^ 62
instance (i:Int):Decidable (tE i):=by unfold tE;infer_instance
theorem ajQ{K:Frag}{G:Hp}{ι:List Addr}{lo:Int}{n:Nat}:uI K G ι (QR lo n) (vA lo n):=by
 refine⟨fun _ _ _ _ _ _ _ i hi=>show i<n by simpa [vA]using hi,fun _ _ _ _ _ _ _ i hi=>show n≤i by simpa [vA]using hi,fun G' ι' Ω' H' e w h i x H2 y hy hd=>?_⟩;obtain⟨e1,e2⟩:=hd;subst e1 e2;refine⟨G',Ext.refl _ _,w,?_⟩;simp only [vA,gK]at hy;cases e:(List.range n)[i]? with
 | none=>rw [e]at hy;cases hy
 | some j =>
  rw [e]at hy;cases hy;have:=(bX.mp e).2;simp at this;subst this;simp only [Den]
@[simp] def sX(f:Ev→Mo (List A)):Ev→Mo Src:=fun ρ=>mb (f ρ) fun as=>match as with
 | [.int j]=>mb (mV (tE j)) fun _=>ret (vA 0 j.toNat)
 | _=>stuck
theorem KN{tg a:Expr}{fs:Ev→Mo (List A)}{p:Pos}(hg:Gl X "range")(hm:X.mg "range" = none)(ha:VA X W [a] fs)(hs:starEach [a] X.env=[(false,eval a X.env)]:=by rfl):VI X W tg (.Call (.Name "range" p) [a] [] pos) (sX fs):=by
 obtain⟨t,p,s⟩:=ha;refine⟨_,afM hg hm p hs,fun G ι Ω H σ ρ R w r h=>?_⟩;refine s G ι Ω H σ ρ _ w r (bF.mb h fun as Ω1 vs H1 G1 ι1 x1 w1 d1 h1=>?_);split at h1
 ·rename_i j;obtain⟨v,t,rfl,q1,q2⟩:=d1.jF;rw [mD]at q2;subst q2;simp only [Den]at q1;subst q1;obtain⟨hc,h2⟩:=bF.mV h1;exact⟨j,rfl,hc.1,hc.2,jH w1 ajQ h2⟩
 ·exact False.elim h1
end
section
variable{X:Cx}{W:WX}{e a b:Expr}{es:List Expr}{pos:Pos}{fa fb:Ev→Mo A}{fs:Ev→Mo (List A)}
@[simp] def bB(a i:A):Mo A:=fun Ω=>match fH Ω a,i with
 | some ds,.int n=>match jO ds n with
  | some d=>some (.ok d,Ω)
  | none=>none
 | _,_=>none
theorem arC{K:Frag}{G:Hp}{ι:List Addr}{xs:List V}{ds:List A}{n:Int}{d:A}(h:aN K G ι xs ds)(e:jO ds n=some d):∃x,jO xs n=some x∧Den K G ι x d:=by
 unfold jO at e ⊢;rw [h.length];cases q:qU ds.length n with
 | none=>rw [q]at e;cases e
 | some j=>rw [q]at e;exact h.get e
theorem dB(ha:VE X W a fa)(hb:VE X W b fb)(hs:Tg b):VE X W (.Subscript a b pos) (aC bB fa fb):=by
 obtain⟨t,p1,s1⟩:=ha;obtain⟨u,p2,s2⟩:=hb;refine⟨_,af8 ajL p1 p2 hs,LX ?_ s1 s2⟩;intro G ι Ω H σ x y a i Q w d1 d2 h;unfold bB at h;split at h
 ·rename_i ds n e1;split at h
  ·rename_i d e;simp only [Den]at d2;have fin:∀v,Den X.K G ι v d→Q v H:=fun v hv=>h v H G ι (Ext.refl _ _) w hv;obtain⟨p,xs,rfl,hq,hd⟩:=LW w d1 e1;obtain⟨v,q1,q2⟩:=arC hd e
   rcases hq with hq | hq
   ·exact .inl ⟨p,xs,n,v,rfl,d2,hq,q1,fin v q2⟩
   ·exact .inr (.inl ⟨p,xs,n,v,rfl,d2,hq,q1,fin v q2⟩)
  ·exact False.elim h
 ·exact False.elim h
def VO(X:Cx)(W:WX)(e:Option Expr)(f:Ev→Mo (Option Int)):Prop:=∃t,PO X e t∧eQ X.K (fun _ _ o o'=>o=o') W t f
theorem KL:VO X W none (fun _=>ret none):=⟨_,afG,fun _ _ _ _ _ _ _ w _ q=>jH w rfl q⟩
@[simp] def jV(f:Ev→Mo A):Ev→Mo (Option Int):=fun ρ=>mb (f ρ) fun x=>match x with
 | .int i=>ret (some i)
 | _=>stuck
theorem uQ(h:VE X W e fa):VO X W (some e) (jV fa):=by
 obtain⟨t,p,s⟩:=h;refine⟨_,afF p,fun G ι Ω H σ ρ Q w r h=>?_⟩;refine s G ι Ω H σ ρ _ w r (bF.mb h fun x Ω1 v H1 G1 ι1 x1 w1 d1 h1=>?_);cases x with
 | int i=>simp only [Den]at d1;exact⟨i,d1,jH w1 rfl h1⟩
 | _=>exact False.elim h1
def qB(ds:List A)(lo hi:Option Int):List A:=(ds.drop (HT.cJ ds.length 0 lo)).take (HT.cJ ds.length ds.length hi - HT.cJ ds.length 0 lo)
theorem Qm{K:Frag}{G:Hp}{ι:List Addr}{xs:List V}{ds:List A}(h:aN K G ι xs ds)(lo hi:Option Int):aN K G ι (wD xs lo hi) (qB ds lo hi):=by
 unfold wD qB;rw [h.length];exact(h.drop _).take _
@[simp] def Oq(c:Bool)(a:A)(lo hi:Option Int):Mo A:=fun Ω=>match a with
 | .tup ds=>if HT.cJ ds.length 0 lo=0∧HT.cJ ds.length ds.length hi=ds.length then none else some (.ok (.tup (qB ds lo hi)),Ω)
 | a=>match dF Ω a with
  | some ds=>iR c (qB ds lo hi) Ω
  | none=>none
@[simp] def mO(c:Bool)(f:Ev→Mo A)(l h:Ev→Mo (Option Int)):Ev→Mo A:=fun ρ=>mb (f ρ) fun a=>mb (l ρ) fun lo=>mb (h ρ) fun hi=>Oq c a lo hi
theorem AH(c:Bool){lo hi:Option Expr}{fl fh:Ev→Mo (Option Int)}{p2:Pos}(he:VE X W e fa)(hl:VO X W lo fl)(hh:VO X W hi fh):VE X W (.Subscript e (.Slice lo hi none p2) pos) (mO c fa fl fh):=by
 obtain⟨t,p1,s1⟩:=he;obtain⟨u,p2,s2⟩:=hl;obtain⟨u',p3,s3⟩:=hh;refine⟨_,afV (acU.or acT) p1 p2 p3,fun G ι Ω H σ ρ Q w r h=>?_⟩;refine s1 G ι Ω H σ ρ _ w r (bF.mb h fun x Ω1 v H1 G1 ι1 x1 w1 d1 h1=>?_);refine s2 G1 ι1 Ω1 H1 σ ρ _ w1 (r.ext x1) (bF.mb h1 fun o Ω2 o' H2 G2 ι2 x2 w2 d2 h2=>?_);cases(show o'=o from d2);refine s3 G2 ι2 Ω2 H2 σ ρ _ w2 ((r.ext x1).ext x2) (bF.mb h2 fun k Ω3 k' H3 G3 ι3 x3 w3 d3 h3=>?_);cases(show k'=k from d3);have d:=d1.ext (x2.trans x3);unfold Oq at h3;cases x with
 | tup ds =>
  simp only at h3;split at h3
  ·exact False.elim h3
  ·rename_i hn;simp only [Den]at d;obtain⟨p,xs,rfl,q2,q3⟩:=d;exact .inr ⟨p,xs,rfl,fM.of (w3.sub _ _ q2),by rw [q3.length];exact hn,fun l hl=>WH w3 hl (Qm q3 o k) h3⟩
 | _ =>
  simp only at h3;split at h3
  ·rename_i ds e;obtain⟨p,xs,rfl,q2,q3⟩:=pS w3 d e;exact .inl ⟨p,xs,rfl,q2,fun l hl=>nT w3 hl (Qm q3 o k) h3⟩
  ·exact False.elim h3
def Ut(K:Frag)(W:WX)(r:List V→Hp→VK→Prop)(g:List A→Mo A):Prop :=
 ∀G ι Ω H σ xs as Q,Wd K G ι Ω H→aN K G ι xs as→bF K (Den K) W G ι σ Q (g as Ω)→r xs H Q
def qI(X:Cx)(W:WX)(f:Value)(g:List A→Mo A):Prop:=∃r,jR X f r∧Ut X.K W r g
@[simp] def aW(g:List A→Mo A)(f:Ev→Mo (List A)):Ev→Mo A:=fun ρ=>mb (f ρ) g
theorem Je{K:Frag}{r:List V→Hp→VK→Prop}{g:List A→Mo A}{t:TA}(hg:Ut K W r g)(h:eQ K (aN K) W t fs):eQ K (Den K) W (SX r t) (aW g fs):=by
 intro G ι Ω H σ ρ Q w q h2;exact h G ι Ω H σ ρ _ w q (bF.mb h2 fun as Ω1 vs H1 G1 ι1 x1 w1 d1 h1=>hg G1 ι1 Ω1 H1 σ vs as Q w1 d1 h1)
theorem hV{id:String}{x:Str}{g:List A→Mo A}{p:Pos}(hc:qI X W (.builtin id) g)(hg:Gl X x)(hm:X.mg x=none)(hv:bootBuiltins x=some (.builtin id))(ha:VA X W (e::es) fs)(hn:x ≠ "__name__":=by decide)(gH:(x == ("__debug__" : Str))=false:=by decide)
  (he:starEach (e::es) X.env=(false,eval e X.env)::starEach es X.env:=by rfl) (dS:(backTo pos (starEach es X.env)).any (·.1)=false:=by rfl):VE X W (.Call (.Name x p) (e::es) [] pos) (aW g fs):=by
 obtain⟨r,c1,c2⟩:=hc;obtain⟨t,p1,s1⟩:=ha;exact⟨_,MP c1 hg hm hv p1 hn gH he dS,Je c2 s1⟩
theorem ED{T:String}{x:Str}{g:List A→Mo A}{p:Pos}(hc:qI X W (.type T) g)(hg:Gl X x)(hm:X.mg x=none)(hv:bootBuiltins x=some (.type T))(ha:VA X W (e::es) fs)(hn:x ≠ "__name__":=by decide)(gH:(x == ("__debug__" : Str))=false:=by decide)
  (he:starEach (e::es) X.env=(false,eval e X.env)::starEach es X.env:=by rfl) (dS:(backTo pos (starEach es X.env)).any (·.1)=false:=by rfl):VE X W (.Call (.Name x p) (e::es) [] pos) (aW g fs):=by
 obtain⟨r,c1,c2⟩:=hc;obtain⟨t,p1,s1⟩:=ha;exact⟨_,MO c1 hg hm hv p1 hn gH he dS,Je c2 s1⟩
theorem sG{K:Frag}{G:Hp}{ι:List Addr}{xs:List V}{d:A}(h:aN K G ι xs [d]):∃x,xs=[x]∧Den K G ι x d:=by
 obtain⟨x,r,rfl,h1,h2⟩:=h.jF;rw [mD]at h2;subst h2;exact⟨x,rfl,h1⟩
theorem OT{K:Frag}{G:Hp}{ι:List Addr}{xs:List V}{d d':A}(h:aN K G ι xs [d,d']):∃x y,xs=[x,y]∧Den K G ι x d∧Den K G ι y d':=by
 obtain⟨x,r,rfl,h1,h2⟩:=h.jF;obtain⟨y,rfl,h3⟩:=sG h2;exact⟨x,y,rfl,h1,h3⟩
@[simp] def iK(as:List A):Mo A:=fun Ω=>match as with
 | [a]=>(match fH Ω a with
  | some ds=>some (.ok (.int ds.length),Ω)
  | none=>none)
 | _=>none
theorem qC:qI X W (.builtin "len") iK:=by
 refine⟨_,aqL,?_⟩;intro G ι Ω H σ xs as Q w d h;unfold iK at h;split at h
 ·rename_i a;split at h
  ·rename_i ds e;obtain⟨x,rfl,d1⟩:=sG d;obtain⟨p,ys,rfl,h2,h3⟩:=LW w d1 e;exact⟨p,ys,rfl,h2,h _ H G ι (Ext.refl _ _) w (by simp only [Den,h3.length])⟩
  ·exact False.elim h
 ·exact False.elim h
@[simp] def rA(as:List A):Mo A:=match as with
 | [.int i,.int j]=>ret (.int (min i j))
 | _=>stuck
theorem Rg(hc:X.calm=true):qI X W (.builtin "min") rA:=by
 refine⟨_,aqI hc,?_⟩;intro G ι Ω H σ xs as Q w d h;unfold rA at h;split at h
 ·rename_i i j;obtain⟨x,y,rfl,d1,d2⟩:=OT d;simp only [Den]at d1 d2;subst d1 d2;refine⟨i,j,rfl,?_⟩;have e:(if j<i then j else i)=min i j:=by split <;> omega
  rw [e];exact jH w (by simp only [Den]) h
 ·exact False.elim h
def intsOf:List A→Option (List Int)
 | []=>some []
 | .int i::r=>(intsOf r).map (i :: ·)
 | _=>none
theorem yA{K:Frag}{G:Hp}{ι:List Addr}:∀{ds:List A} {xs:List V} {ns:List Int},intsOf ds=some ns→aN K G ι xs ds→xs=ns.map V.int
 | [],xs,ns,h,d=>by
  simp only [intsOf,jB]at h;subst h;rw [mD]at d;subst d;rfl
 | a::ds,xs,ns,h,d=>by
  obtain⟨x,t,rfl,d1,d2⟩:=d.jF;cases a with
  | int i =>
   simp only [intsOf,uD]at h;obtain⟨ms,h1,rfl⟩:=h;simp only [Den]at d1;subst d1;rw [yA h1 d2];rfl
  | _=>simp [intsOf]at h
theorem vM(ns:List Int):intsOf (ns.map A.int)=some ns:=by
 induction ns with
 | nil=>rfl
 | cons n ns ih=>simp [intsOf,ih]
@[simp] def pZ(as:List A):Mo A:=fun Ω=>match as with
 | [a]=>(match (dF Ω a).bind intsOf with
  | some ns=>some (.ok (.int ns.sum),Ω)
  | none=>none)
 | _=>none
theorem Cp(hc:X.calm=true):qI X W (.builtin "sum") pZ:=by
 refine⟨_,aqD hc,?_⟩;intro G ι Ω H σ xs as Q w d h;unfold pZ at h;split at h
 ·rename_i a;split at h
  ·rename_i ns e;obtain⟨x,rfl,d1⟩:=sG d;rw [sO]at e;obtain⟨ds,e1,e2⟩:=e;obtain⟨p,ys,rfl,h2,h3⟩:=pS w d1 e1;rw [yA e2 h3]at h2;exact⟨p,ns,rfl,h2,h _ H G ι (Ext.refl _ _) w (by simp only [Den])⟩
  ·exact False.elim h
 ·exact False.elim h
@[simp] def tY(c:Bool)(as:List A):Mo A:=fun Ω=>match as with
 | [a]=>(match fH Ω a with
  | some ds=>iR c ds Ω
  | none=>none)
 | _=>none
theorem Rh(c:Bool):qI X W (.type "list") (tY c):=by
 refine⟨_,aqJ,?_⟩;intro G ι Ω H σ xs as Q w d h;unfold tY at h;split at h
 ·rename_i a;split at h
  ·rename_i ds e;obtain⟨x,rfl,d1⟩:=sG d;obtain⟨p,ys,rfl,h2,h3⟩:=LW w d1 e;exact⟨p,ys,rfl,h2,fun l hl=>nT w hl h3 h⟩
  ·exact False.elim h
 ·exact False.elim h
def lG(Ω:aI):A→Option String
 | .int _=>some "int"
 | .bl _=>some "bool"
 | .str _=>some "str"
 | .bH=>some "NoneType"
 | .tup _=>some "tuple"
 | .lst _=>some "list"
 | .aB k=>match Ω[k]? with
  | some (.lst _)=>some "list"
  | some (.aU _)=>some "dict"
  | _=>none
 | _=>none
theorem Wi{K:Frag}{G H:Hp}{ι:List Addr}{Ω:aI}{v:V}{a:A}{t:String}(w:Wd K G ι Ω H)(d:Den K G ι v a)(h:lG Ω a=some t):nY K H v (.type t):=by
 cases a with
 | int i=>simp only [lG,jB]at h;subst h;simp only [Den]at d;subst d;exact .int i
 | bl i=>simp only [lG,jB]at h;subst h;simp only [Den]at d;subst d;exact .bl i
 | str i=>simp only [lG,jB]at h;subst h;simp only [Den]at d;subst d;exact .str i
 | bH=>simp only [lG,jB]at h;subst h;simp only [Den]at d;subst d;exact .bH
 | tup ds=>simp only [lG,jB]at h;subst h;simp only [Den]at d;obtain⟨p,xs,rfl,h2,_⟩:=d;exact .tup (w.sub _ _ h2)
 | lst ds=>simp only [lG,jB]at h;subst h;simp only [Den]at d;obtain⟨p,xs,rfl,h2,_⟩:=d;exact .lst (w.sub _ _ h2)
 | aB k =>
  simp only [Den]at d;obtain⟨p,rfl,hk⟩:=d;simp only [lG]at h;split at h
  ·rename_i ds e;cases h;obtain⟨g,xs,h3,_⟩:=w.aB k _ p e hk;exact .lst h3
  ·rename_i ds e;cases h;obtain⟨g,xs,h3,_⟩:=w.aB k _ p e hk;exact .dK h3
  ·cases h
 | _=>simp [lG]at h
theorem XT(K:Frag):kitOne K (.type "int") (.type "int")=some true:=by unfold kitOne;rw [if_pos (beq_self_eq_true _)]
theorem XZ(K:Frag):kitOne K (.type "bool") (.type "int")=some true:=by kernel_rfl
theorem XG(K:Frag):kitOne K (.type "str") (.type "int")=some false:=by kernel_rfl
theorem YE(K:Frag):kitOne K (.type "NoneType") (.type "int")=some false:=by kernel_rfl
theorem WZ(K:Frag):kitOne K (.type "tuple") (.type "int")=some false:=by kernel_rfl
theorem XN(K:Frag):kitOne K (.type "list") (.type "int")=some false:=by kernel_rfl
theorem XU(K:Frag):kitOne K (.type "int") (.type "bool")=some false:=by kernel_rfl
theorem YA(K:Frag):kitOne K (.type "bool") (.type "bool")=some true:=by unfold kitOne;rw [if_pos (beq_self_eq_true _)]
theorem XH(K:Frag):kitOne K (.type "str") (.type "bool")=some false:=by kernel_rfl
theorem YF(K:Frag):kitOne K (.type "NoneType") (.type "bool")=some false:=by kernel_rfl
theorem XA(K:Frag):kitOne K (.type "tuple") (.type "bool")=some false:=by kernel_rfl
theorem XO(K:Frag):kitOne K (.type "list") (.type "bool")=some false:=by kernel_rfl
theorem XQ(K:Frag):kitOne K (.type "int") (.type "tuple")=some false:=by kernel_rfl
theorem XW(K:Frag):kitOne K (.type "bool") (.type "tuple")=some false:=by kernel_rfl
theorem XB(K:Frag):kitOne K (.type "str") (.type "tuple")=some false:=by kernel_rfl
theorem YB(K:Frag):kitOne K (.type "NoneType") (.type "tuple")=some false:=by kernel_rfl
theorem WV(K:Frag):kitOne K (.type "tuple") (.type "tuple")=some true:=by unfold kitOne;rw [if_pos (beq_self_eq_true _)]
theorem XI(K:Frag):kitOne K (.type "list") (.type "tuple")=some false:=by kernel_rfl
theorem XS(K:Frag):kitOne K (.type "int") (.type "list")=some false:=by kernel_rfl
theorem XY(K:Frag):kitOne K (.type "bool") (.type "list")=some false:=by kernel_rfl
theorem XF(K:Frag):kitOne K (.type "str") (.type "list")=some false:=by kernel_rfl
theorem YD(K:Frag):kitOne K (.type "NoneType") (.type "list")=some false:=by kernel_rfl
theorem WY(K:Frag):kitOne K (.type "tuple") (.type "list")=some false:=by kernel_rfl
theorem XM(K:Frag):kitOne K (.type "list") (.type "list")=some true:=by unfold kitOne;rw [if_pos (beq_self_eq_true _)]
theorem XR(K:Frag):kitOne K (.type "int") (.type "str")=some false:=by kernel_rfl
theorem XX(K:Frag):kitOne K (.type "bool") (.type "str")=some false:=by kernel_rfl
theorem XD(K:Frag):kitOne K (.type "str") (.type "str")=some true:=by unfold kitOne;rw [if_pos (beq_self_eq_true _)]
theorem YC(K:Frag):kitOne K (.type "NoneType") (.type "str")=some false:=by kernel_rfl
theorem WW(K:Frag):kitOne K (.type "tuple") (.type "str")=some false:=by kernel_rfl
theorem XJ(K:Frag):kitOne K (.type "list") (.type "str")=some false:=by kernel_rfl
inductive fE:String→String→Bool→Prop where
 | XT:fE "int" "int" true
 | XZ:fE "bool" "int" true
 | XG:fE "str" "int" false
 | YE:fE "NoneType" "int" false
 | WZ:fE "tuple" "int" false
 | XN:fE "list" "int" false
 | XU:fE "int" "bool" false
 | YA:fE "bool" "bool" true
 | XH:fE "str" "bool" false
 | YF:fE "NoneType" "bool" false
 | XA:fE "tuple" "bool" false
 | XO:fE "list" "bool" false
 | XQ:fE "int" "tuple" false
 | XW:fE "bool" "tuple" false
 | XB:fE "str" "tuple" false
 | YB:fE "NoneType" "tuple" false
 | WV:fE "tuple" "tuple" true
 | XI:fE "list" "tuple" false
 | XS:fE "int" "list" false
 | XY:fE "bool" "list" false
 | XF:fE "str" "list" false
 | YD:fE "NoneType" "list" false
 | WY:fE "tuple" "list" false
 | XM:fE "list" "list" true
 | XR:fE "int" "str" false
 | XX:fE "bool" "str" false
 | XD:fE "str" "str" true
 | YC:fE "NoneType" "str" false
 | WW:fE "tuple" "str" false
 | XJ:fE "list" "str" false
theorem fE.ok(K:Frag){t n:String}{b:Bool}(h:fE t n b):kitOne K (.type t) (.type n)=some b:=by
 cases h
 ·exact V2.XT K
 ·exact V2.XZ K
 ·exact V2.XG K
 ·exact V2.YE K
 ·exact V2.WZ K
 ·exact V2.XN K
 ·exact V2.XU K
 ·exact V2.YA K
 ·exact V2.XH K
 ·exact V2.YF K
 ·exact V2.XA K
 ·exact V2.XO K
 ·exact V2.XQ K
 ·exact V2.XW K
 ·exact V2.XB K
 ·exact V2.YB K
 ·exact V2.WV K
 ·exact V2.XI K
 ·exact V2.XS K
 ·exact V2.XY K
 ·exact V2.XF K
 ·exact V2.YD K
 ·exact V2.WY K
 ·exact V2.XM K
 ·exact V2.XR K
 ·exact V2.XX K
 ·exact V2.XD K
 ·exact V2.YC K
 ·exact V2.WW K
 ·exact V2.XJ K
def pT(t n:String):Option Bool:=if t = "int"∧n = "int" then some true else if t = "bool"∧n = "int" then some true else if t = "str"∧n = "int" then some false else if t = "NoneType"∧n = "int" then some false else if t = "tuple"∧n = "int" then some false else if t = "list"∧n = "int" then some false else if t = "int"∧n = "bool" then some false else if t = "bool"∧n = "bool" then some true else if t = "str"∧n = "bool" then some false else if t = "NoneType"∧n = "bool" then some false else if t = "tuple"∧n = "bool" then some false else if t = "list"∧n = "bool" then some false else if t = "int"∧n = "tuple" then some false else if t = "bool"∧n = "tuple" then some false else if t = "str"∧n = "tuple" then some false else if t = "NoneType"∧n = "tuple" then some false else if t = "tuple"∧n = "tuple" then some true else if t = "list"∧n = "tuple" then some false else if t = "int"∧n = "list" then some false else if t = "bool"∧n = "list" then some false else if t = "str"∧n = "list" then some false else if t = "NoneType"∧n = "list" then some false else if t = "tuple"∧n = "list" then some false else if t = "list"∧n = "list" then some true else if t = "int"∧n = "str" then some false else if t = "bool"∧n = "str" then some false else if t = "str"∧n = "str" then some true else if t = "NoneType"∧n = "str" then some false else if t = "tuple"∧n = "str" then some false else if t = "list"∧n = "str" then some false else none
theorem ajX{t n:String}{b:Bool}(h:pT t n=some b):fE t n b:=by
 unfold pT at h
 by_cases h0:t = "int"∧n = "int"
 ·rw [if_pos h0]at h;cases h;obtain⟨rfl,rfl⟩:=h0;exact .XT
 rw [if_neg h0]at h
 by_cases h1:t = "bool"∧n = "int"
 ·rw [if_pos h1]at h;cases h;obtain⟨rfl,rfl⟩:=h1;exact .XZ
 rw [if_neg h1]at h
 by_cases h2:t = "str"∧n = "int"
 ·rw [if_pos h2]at h;cases h;obtain⟨rfl,rfl⟩:=h2;exact .XG
 rw [if_neg h2]at h
 by_cases h3:t = "NoneType"∧n = "int"
 ·rw [if_pos h3]at h;cases h;obtain⟨rfl,rfl⟩:=h3;exact .YE
 rw [if_neg h3]at h
 by_cases h4:t = "tuple"∧n = "int"
 ·rw [if_pos h4]at h;cases h;obtain⟨rfl,rfl⟩:=h4;exact .WZ
 rw [if_neg h4]at h
 by_cases h5:t = "list"∧n = "int"
 ·rw [if_pos h5]at h;cases h;obtain⟨rfl,rfl⟩:=h5;exact .XN
 rw [if_neg h5]at h
 by_cases h6:t = "int"∧n = "bool"
 ·rw [if_pos h6]at h;cases h;obtain⟨rfl,rfl⟩:=h6;exact .XU
 rw [if_neg h6]at h
 by_cases h7:t = "bool"∧n = "bool"
 ·rw [if_pos h7]at h;cases h;obtain⟨rfl,rfl⟩:=h7;exact .YA
 rw [if_neg h7]at h
 by_cases h8:t = "str"∧n = "bool"
 ·rw [if_pos h8]at h;cases h;obtain⟨rfl,rfl⟩:=h8;exact .XH
 rw [if_neg h8]at h
 by_cases h9:t = "NoneType"∧n = "bool"
 ·rw [if_pos h9]at h;cases h;obtain⟨rfl,rfl⟩:=h9;exact .YF
 rw [if_neg h9]at h
 by_cases Az:t = "tuple"∧n = "bool"
 ·rw [if_pos Az]at h;cases h;obtain⟨rfl,rfl⟩:=Az;exact .XA
 rw [if_neg Az]at h
 by_cases Ay:t = "list"∧n = "bool"
 ·rw [if_pos Ay]at h;cases h;obtain⟨rfl,rfl⟩:=Ay;exact .XO
 rw [if_neg Ay]at h
 by_cases Ax:t = "int"∧n = "tuple"
 ·rw [if_pos Ax]at h;cases h;obtain⟨rfl,rfl⟩:=Ax;exact .XQ
 rw [if_neg Ax]at h
 by_cases Aw:t = "bool"∧n = "tuple"
 ·rw [if_pos Aw]at h;cases h;obtain⟨rfl,rfl⟩:=Aw;exact .XW
 rw [if_neg Aw]at h
 by_cases Av:t = "str"∧n = "tuple"
 ·rw [if_pos Av]at h;cases h;obtain⟨rfl,rfl⟩:=Av;exact .XB
 rw [if_neg Av]at h
 by_cases Au:t = "NoneType"∧n = "tuple"
 ·rw [if_pos Au]at h;cases h;obtain⟨rfl,rfl⟩:=Au;exact .YB
 rw [if_neg Au]at h
 by_cases HM:t = "tuple"∧n = "tuple"
 ·rw [if_pos HM]at h;cases h;obtain⟨rfl,rfl⟩:=HM;exact .WV
 rw [if_neg HM]at h
 by_cases As:t = "list"∧n = "tuple"
 ·rw [if_pos As]at h;cases h;obtain⟨rfl,rfl⟩:=As;exact .XI
 rw [if_neg As]at h
 by_cases Ar:t = "int"∧n = "list"
 ·rw [if_pos Ar]at h;cases h;obtain⟨rfl,rfl⟩:=Ar;exact .XS
 rw [if_neg Ar]at h
 by_cases Aq:t = "bool"∧n = "list"
 ·rw [if_pos Aq]at h;cases h;obtain⟨rfl,rfl⟩:=Aq;exact .XY
 rw [if_neg Aq]at h
 by_cases Ap:t = "str"∧n = "list"
 ·rw [if_pos Ap]at h;cases h;obtain⟨rfl,rfl⟩:=Ap;exact .XF
 rw [if_neg Ap]at h
 by_cases Ao:t = "NoneType"∧n = "list"
 ·rw [if_pos Ao]at h;cases h;obtain⟨rfl,rfl⟩:=Ao;exact .YD
 rw [if_neg Ao]at h
 by_cases An:t = "tuple"∧n = "list"
 ·rw [if_pos An]at h;cases h;obtain⟨rfl,rfl⟩:=An;exact .WY
 rw [if_neg An]at h
 by_cases Am:t = "list"∧n = "list"
 ·rw [if_pos Am]at h;cases h;obtain⟨rfl,rfl⟩:=Am;exact .XM
 rw [if_neg Am]at h
 by_cases Al:t = "int"∧n = "str"
 ·rw [if_pos Al]at h;cases h;obtain⟨rfl,rfl⟩:=Al;exact .XR
 rw [if_neg Al]at h
 by_cases Ak:t = "bool"∧n = "str"
 ·rw [if_pos Ak]at h;cases h;obtain⟨rfl,rfl⟩:=Ak;exact .XX
 rw [if_neg Ak]at h
 by_cases Aj:t = "str"∧n = "str"
 ·rw [if_pos Aj]at h;cases h;obtain⟨rfl,rfl⟩:=Aj;exact .XD
 rw [if_neg Aj]at h
 by_cases Ai:t = "NoneType"∧n = "str"
 ·rw [if_pos Ai]at h;cases h;obtain⟨rfl,rfl⟩:=Ai;exact .YC
 rw [if_neg Ai]at h
 by_cases Ah:t = "tuple"∧n = "str"
 ·rw [if_pos Ah]at h;cases h;obtain⟨rfl,rfl⟩:=Ah;exact .WW
 rw [if_neg Ah]at h
 by_cases Ag:t = "list"∧n = "str"
 ·rw [if_pos Ag]at h;cases h;obtain⟨rfl,rfl⟩:=Ag;exact .XJ
 rw [if_neg Ag]at h;cases h
theorem ajY(K:Frag){t n:String}{b:Bool}(h:pT t n=some b):kitOne K (.type t) (.type n)=some b:=(ajX h).ok K
@[simp] def yR(as:List A):Mo A:=fun Ω=>match as with
 | [a,.ty n]=>(match (lG Ω a).bind fun t=>pT t n with
  | some b=>some (.ok (.bl b),Ω)
  | none=>none)
 | _=>none
theorem IK:qI X W (.builtin "isinstance") yR:=by
 refine⟨_,aqO,?_⟩;intro G ι Ω H σ xs as Q w d h;unfold yR at h;split at h
 ·rename_i a n;split at h
  ·rename_i b e;rw [sO]at e;obtain⟨t,e1,e2⟩:=e;obtain⟨x,y,rfl,d1,d2⟩:=OT d;simp only [Den]at d2;subst d2;exact⟨x,n,_,b,rfl,Wi w d1 e1,ajY _ e2,h _ H G ι (Ext.refl _ _) w (by simp only [Den])⟩
  ·exact False.elim h
 ·exact False.elim h
def Tp(K:Frag)(W:WX)(r:V→List V→Hp→VK→Prop)(g:A→List A→Mo A):Prop :=
 ∀G ι Ω H σ x xs a as Q,Wd K G ι Ω H→Den K G ι x a→aN K G ι xs as→bF K (Den K) W G ι σ Q (g a as Ω)→r x xs H Q
def YL(Ω:aI)(a:A):Prop:=∃ds,dF Ω a=some ds
open Classical in
@[simp] noncomputable def EH(g:A→List A→Mo A)(fo:Ev→Mo A)(f:Ev→Mo (List A)):Ev→Mo A:=fun ρ=>mb (fo ρ) fun o Ω=>if YL Ω o then mb (f ρ) (fun as=>g o as) Ω else none
theorem Wg{K:Frag}{G H:Hp}{ι:List Addr}{Ω:aI}{v:V}{a:A}(w:Wd K G ι Ω H)(d:Den K G ι v a)(h:YL Ω a):SG K "list" v H:=by
 obtain⟨ds,e⟩:=h;obtain⟨p,xs,rfl,q,_⟩:=pS w d e;exact .inl ⟨rfl,xs,q⟩
theorem Hb{name:Str}{apos:Pos}{id:String}{r:V→List V→Hp→VK→Prop}{g:A→List A→Mo A}(pa:PlainAttrs "list")(slot:Slot "list" name id)(YR:typeOf (.builtin id)=pure (.type "method_descriptor"))(hm:CY X id r)(hv:Tp X.K W r g)(ho:VE X W a fa)(ha:VA X W (e::es) fs)
  (iJ:attributeBase a name X.env (eval a X.env)=eval a X.env:=by rfl)
  (ZO:((backTo pos (starEach (e::es) X.env)).all (fun x=>!x.1)&&(backToKw pos (keywordEach [] X.env)).all (fun x=>x.1.isSome)
   && decide ((e::es).length+([]:List Keyword).length+(if([]:List Keyword).isEmpty then 0 else 1)<30))=true:=by rfl)
  (iH:(apos.endLine == pos.line)=true:=by rfl) (hs:starEach (e::es) X.env=(false,eval e X.env)::starEach es X.env:=by rfl) (YX:(backTo pos (starEach es X.env)).any (·.1)=false:=by rfl) :
  VE X W (.Call (.Attribute a name apos) (e::es) [] pos) (EH g fa fs):=by
 obtain⟨t,p1,s1⟩:=ho;obtain⟨u,p2,s2⟩:=ha;refine⟨_,agG pa slot YR hm p1 p2 iJ ZO iH hs YX,fun G ι Ω H σ ρ Q w r h=>?_⟩;refine s1 G ι Ω H σ ρ _ w r (bF.mb h fun x Ω1 v H1 G1 ι1 x1 w1 d1 h1=>?_);split at h1
 ·rename_i hl;refine⟨Wg w1 d1 hl,s2 G1 ι1 Ω1 H1 σ ρ _ w1 (r.ext x1) (bF.mb h1 fun as Ω2 vs H2 G2 ι2 x2 w2 d2 h2=>?_)⟩;exact hv G2 ι2 Ω2 H2 σ v vs x as Q w2 (d1.ext x2) d2 h2
 ·exact False.elim h1
def CL(Ω:aI):A→Option (Nat×List A)
 | .aB k=>match Ω[k]? with
  | some (.lst ds)=>some (k,ds)
  | _=>none
 | _=>none
theorem ap8{K:Frag}{G H:Hp}{ι:List Addr}{Ω:aI}{v:V}{a:A}{k:Nat}{ds:List A}(w:Wd K G ι Ω H)(d:Den K G ι v a)(h:CL Ω a=some (k,ds)):∃p xs,v = .ref p∧ι[k]? = some p∧G p=none∧H p=some (.lst xs)∧aN K G ι xs ds:=by
 cases a with
 | aB j =>
  simp only [CL]at h;split at h
  ·rename_i es e;cases h;simp only [Den]at d;obtain⟨p,rfl,hk⟩:=d;obtain⟨g,xs,h3,h4⟩:=w.aB k _ p e hk;exact⟨p,xs,rfl,hk,g,h3,h4⟩
  ·cases h
 | _=>simp [CL]at h
@[simp] def CB(o:A)(as:List A):Mo A:=fun Ω=>match CL Ω o,as with
 | some (k,ds),[y]=>if ds.length<sizeLine then some (.ok .bH,Ω.set k (.lst (ds++[y])))else none
 | _,_=>none
theorem Lr:Tp X.K W Kc CB:=by
 intro G ι Ω H σ x xs a as Q w d1 d2 h;unfold CB at h;split at h
 ·rename_i k ds y e;split at h
  ·rename_i hl;obtain⟨p,zs,rfl,hk,g,h3,h4⟩:=ap8 w d1 e;obtain⟨u,rfl,du⟩:=sG d2;refine⟨p,zs,u,rfl,rfl,h3,by rw [h4.length];exact hl,?_⟩;exact h _ _ G ι (Ext.refl _ _) (w.put (c := .lst (ds++[y])) hk g ⟨g,_,dR,h4.append (.cons du .nil)⟩) (by simp only [Den])
  ·exact False.elim h
 ·exact False.elim h
end
mutual
def Cl(n:Nat):A→Prop
 | .aB k=>k<n
 | .tup ds=>fX n ds
 | .lst ds=>fX n ds
 | _=>True
def fX(n:Nat):List A→Prop
 | []=>True
 | d::ds=>Cl n d∧fX n ds
end
section
variable{K:Frag}{G:Hp}{ι:List Addr}
mutual
theorem Den.cl:∀{v:V} {d:A},Den K G ι v d→Cl ι.length d
 | _,.int _,_=>by simp only [Cl]
 | _,.bl _,_=>by simp only [Cl]
 | _,.str _,_=>by simp only [Cl]
 | _,.bH,_=>by simp only [Cl]
 | _,.ty _,_=>by simp only [Cl]
 | _,.adr _,_=>by simp only [Cl]
 | _, .CC _ _ _ _,_=>by simp only [Cl]
 | _,.gl _,_=>by simp only [Cl]
 | _,.bK _,_=>by simp only [Cl]
 | _,.tup ds,h=>by
  simp only [Den]at h;simp only [Cl];obtain⟨a,xs,_,_,h3⟩:=h;exact aN.cl h3
 | _,.lst ds,h=>by
  simp only [Den]at h;simp only [Cl];obtain⟨a,xs,_,_,h3⟩:=h;exact aN.cl h3
 | _,.aB k,h=>by
  simp only [Den]at h;simp only [Cl];obtain⟨a,_,h2⟩:=h;exact(bX.mp h2).1
theorem aN.cl:∀{xs:List V} {ds:List A},aN K G ι xs ds→fX ι.length ds
 | _,[],_=>by simp only [fX]
 | _,d::ds,h=>by
  simp only [aN]at h;simp only [fX];obtain⟨x,r,_,h2,h3⟩:=h;exact⟨Den.cl h2,aN.cl h3⟩
end
mutual
theorem Den.cut{ι':List Addr}{n:Nat}(e:∀k,k<n→ι[k]? = ι'[k]?):∀{v:V} {d:A},Den K G ι' v d→Cl n d→Den K G ι v d
 | _,.int _,h,_=>by simpa only [Den]using h
 | _,.bl _,h,_=>by simpa only [Den]using h
 | _,.str _,h,_=>by simpa only [Den]using h
 | _,.bH,h,_=>by simpa only [Den]using h
 | _,.ty _,h,_=>by simpa only [Den]using h
 | _,.adr _,h,_=>by simpa only [Den]using h
 | _, .CC _ _ _ _,h,_=>by simpa only [Den]using h
 | _,.gl _,h,_=>by simpa only [Den]using h
 | _,.bK _,h,_=>by simpa only [Den]using h
 | _,.tup ds,h,c=>by
  simp only [Den]at h ⊢;simp only [Cl]at c;obtain⟨a,xs,h1,h2,h3⟩:=h;exact⟨a,xs,h1,h2,aN.cut e h3 c⟩
 | _,.lst ds,h,c=>by
  simp only [Den]at h ⊢;simp only [Cl]at c;obtain⟨a,xs,h1,h2,h3⟩:=h;exact⟨a,xs,h1,h2,aN.cut e h3 c⟩
 | _,.aB k,h,c=>by
  simp only [Den]at h ⊢;simp only [Cl]at c;obtain⟨a,h1,h2⟩:=h;exact⟨a,h1,(e k c).trans h2⟩
theorem aN.cut{ι':List Addr}{n:Nat}(e:∀k,k<n→ι[k]? = ι'[k]?):∀{xs:List V} {ds:List A},aN K G ι' xs ds→fX n ds→aN K G ι xs ds
 | _,[],h,_=>by simpa only [aN]using h
 | _,d::ds,h,c=>by
  simp only [aN]at h ⊢;simp only [fX]at c;obtain⟨x,r,h1,h2,h3⟩:=h;exact⟨x,r,h1,Den.cut e h2 c.1,aN.cut e h3 c.2⟩
end
def qH(n:Nat):Fd→Prop
 | .val a=>Cl n a
 | .lst ds=>fX n ds
 | .aU kvs=>fX n (kvs.map (·.2))
def oF(n:Nat):List (Str×Fd)→Prop
 | []=>True
 | p::r=>qH n p.2∧oF n r
def DN(n:Nat):Cell→Prop
 | .lst ds=>fX n ds
 | .aU kvs=>fX n (kvs.map (·.2))
 | .ins _ fs=>oF n fs
 | _=>True
theorem gT.cl{H:Hp}{v:V}{fd:Fd}(h:gT K G ι H v fd):qH ι.length fd:=by
 cases fd with
 | val a=>exact Den.cl h
 | lst ds=>obtain⟨_,_,_,_,_,_,q⟩:=h;exact q.cl
 | aU kvs=>obtain⟨_,_,_,_,_,_,_,q⟩:=h;exact q.cl
theorem iB.cl{H:Hp}:∀{ws:List (Str×V)} {fs:List (Str×Fd)},iB K G ι H ws fs→oF ι.length fs
 | [],[],_=>trivial
 | (_,_)::_,(_,_)::_,h=>⟨h.2.1.cl,h.2.2.cl⟩
 | [],_::_,h=>h.elim
 | _::_,[],h=>h.elim
theorem mZ.cl{H:Hp}{a:Addr}{c:Cell}(h:mZ K G ι H a c):DN ι.length c:=by
 cases c with
 | lst ds=>obtain⟨_,_,_,q⟩:=h;exact q.cl
 | aU kvs=>obtain⟨_,_,_,_,q⟩:=h;exact q.cl
 | ins cls fs=>obtain⟨_,_,_,_,_,_,q⟩:=h;exact q.cl
 | tab x pos qual=>trivial
 | dead=>trivial
theorem gT.cut{H:Hp}{ι':List Addr}{n:Nat}{v:V}{fd:Fd}(h:gT K G ι' H v fd)(e:∀k,k<n→ι[k]? = ι'[k]?)(hi:∀b,b∉ι'→b∉ι)(c:qH n fd):gT K G ι H v fd:=by
 cases fd with
 | val a=>exact Den.cut e h c
 | lst ds=>obtain⟨b,xs,h1,h2,h3,h4,h5⟩:=h;exact⟨b,xs,h1,h2,hi b h3,h4,h5.cut e c⟩
 | aU kvs=>obtain⟨b,ws,h1,h2,h3,h4,h5,h6⟩:=h;exact⟨b,ws,h1,h2,hi b h3,h4,h5,h6.cut e c⟩
theorem iB.cut{H:Hp}{ι':List Addr}{n:Nat}(e:∀k,k<n→ι[k]? = ι'[k]?)(hi:∀b,b∉ι'→b∉ι):∀{ws:List (Str×V)} {fs:List (Str×Fd)},iB K G ι' H ws fs→oF n fs→iB K G ι H ws fs
 | [],[],_,_=>trivial
 | (_,_)::_,(_,_)::_,h,c=>⟨h.1,h.2.1.cut e hi c.1,iB.cut e hi h.2.2 c.2⟩
 | [],_::_,h,_=>h.elim
 | _::_,[],h,_=>h.elim
theorem mZ.cut{H:Hp}{ι':List Addr}{n:Nat}{a:Addr}{c:Cell}(h:mZ K G ι' H a c)(e:∀k,k<n→ι[k]? = ι'[k]?)(hi:∀b,b∉ι'→b∉ι)(hc:DN n c):mZ K G ι H a c:=by
 cases c with
 | lst ds=>obtain⟨g,xs,h1,h2⟩:=h;exact⟨g,xs,h1,h2.cut e hc⟩
 | aU kvs=>obtain⟨g,ws,h1,h2,h3⟩:=h;exact⟨g,ws,h1,h2,h3.cut e hc⟩
 | ins cls fs=>obtain⟨g,C,dx,ws,h0,h1,h2⟩:=h;exact⟨g,C,dx,ws,h0,h1,h2.cut e hi hc⟩
 | tab x pos qual=>exact h
 | dead=>trivial
theorem Ext.cut{G':Hp}{ι':List Addr}(e:Ext G ι G' ι'):∀k,k<ι.length→ι[k]? = ι'[k]?:=fun k hk=>by
 rw [jC hk,e.pre k _ (jC hk)]
theorem Wd.cut{G' H H':Hp}{ι':List Addr}{Ω Ω':aI}(w:Wd K G ι Ω H)(w':Wd K G' ι' Ω' H')(e:Ext G ι G' ι')(ht:Ω'.take Ω.length=Ω):Wd K G' ι Ω H' where
 sub:=w'.sub
 inj:=w.inj
 len:=w.len
 live:=fun a ha=>by
  obtain⟨k,hk,ea⟩:=Ew ha;exact w'.live a (qF (e.pre k a (by rw [← ea];exact jC hk)))
 aB:=fun k c a h1 h2=>by
  have hk:k<Ω.length:=(bX.mp h1).1;have tW:Ω'[k]? = some c:=by
   rw [← ht,zP]at h1;rw [if_pos hk]at h1;exact h1
  have q:=w'.aB k c a tW (e.pre k a h2);have q0:=w.aB k c a h1 h2;cases c with
  | lst ds =>
   obtain⟨g,xs,h3,h4⟩:=q;obtain⟨_,_,_,h5⟩:=q0;exact⟨g,xs,h3,h4.cut e.cut h5.cl⟩
  | aU kvs =>
   obtain⟨g,ws,h3,h4,h5⟩:=q;obtain⟨_,_,_,_,h6⟩:=q0;exact⟨g,ws,h3,h4,h5.cut e.cut h6.cl⟩
  | ins cls fs =>
   obtain⟨g,C,dx,ws,h0,h3,h4⟩:=q;obtain⟨_,_,_,_,_,_,h6⟩:=q0;exact⟨g,C,dx,ws,h0,h3,h4.cut (n:=ι.length) e.cut (fun b hb z=>hb (by
    obtain⟨k,hk,ea⟩:=Ew z;exact qF (e.pre k b (by rw [← ea];exact jC hk)))) h6.cl⟩
  | tab x pos qual=>exact q
  | dead=>trivial
 sep:=fun b k i k' i' h1 h2=>by
  have back:∀{k i},gP H' ι Ω k i b→gP H' ι' Ω' k i b:=fun{k i} h=>h.to (fun a ha=>⟨e.pre k a ha,fun _ z=>z⟩) fun cls fs q=>by
   have hk:k<Ω.length:=(bX.mp q).1;rw [← ht,zP,if_pos hk]at q;exact q
  exact w'.sep b k i k' i' (back h1) (back h2)
end
open Classical in
noncomputable def trim(Ω:aI):Option (Rs A×aI)→Option (Rs A×aI)
 | some (.ok a,Ω')=>if Ω'.take Ω.length=Ω∧Cl Ω.length a then some (.ok a,Ω)else some (.ok a,Ω')
 | some (.exc x,Ω')=>if Ω'.take Ω.length=Ω∧fX Ω.length (x.fs.map (·.2))then some (.exc x,Ω)else some (.exc x,Ω')
 | none=>none
theorem Wr{K:Frag}{W:WX}{G H:Hp}{ι:List Addr}{Ω:aI}{σ:L2.St}{Q:VK}{r:Option (Rs A×aI)}(w:Wd K G ι Ω H)(h:bF K (Den K) W G ι σ Q (trim Ω r)):bF K (Den K) W G ι σ Q r:=by
 match r,h with
 | some (.ok a,Ω'),h =>
  simp only [trim]at h;split at h
  ·rename_i hc;exact fun v H' G' ι' e w' d=>h v H' G' ι ⟨e.same,fun _ _ q=>q⟩ (w.cut w' e hc.1) (d.cut e.cut (by rw [w.len];exact hc.2))
  ·exact h
 | some (.exc x,Ω'),h =>
  simp only [trim]at h;split at h
  ·rename_i hc;intro cls dx H' G' ι' e w' d;refine h cls dx H' G' ι ⟨e.same,fun _ _ q=>q⟩ (w.cut w' e hc.1) d
  ·exact h
@[simp] def fZ:OS→Option (Rs A×aI)
 | some (.nx,_,Ω)=>some (.ok .bH,Ω)
 | some (.ret a,_,Ω)=>some (.ok a,Ω)
 | some (.exc x,_,Ω)=>some (.exc x,Ω)
 | _=>none
@[simp] def IA(n:Nat)(ds:List A):Ev:=ds.map some++List.replicate (n - ds.length) none
@[simp] noncomputable def eE(n:Nat)(b:MS):List A→Mo A:=fun ds Ω=>trim Ω (fZ (b (IA n ds) Ω))
def rO(K:Frag)(n:Nat)(F:List A→Mo A):Sp:=fun vs H Q E=>vs.length=n∧∃G ι Ω ds,Wd K G ι Ω H∧aN K G ι vs ds∧bF K (Den K) (fun _=>E) G ι [] Q (F ds Ω)
abbrev gD(P:Program)(w:World)(K:Frag)(mg:Str→Option Value)(base:Heap)(x:Str)(k:Nat)(ps:List Str)(F:List A→Mo A):Prop:=RD P w K mg base x k ps (rO K ps.length F)
theorem an1{K:Frag}{G:Hp}{ι:List Addr}{N:List Str}{vs:List V}{ds:List A}(d:aN K G ι vs ds):fW K G ι (L2.start N vs) (IA N.length ds):=by
 unfold L2.start IA;have hl:=d.length;refine⟨by simp [hl],fun i a h=>?_⟩
 by_cases hi:i<ds.length
 ·rw [fV (by simpa using hi)]at h;rw [gK]at h;cases e:ds[i]? with
  | none=>rw [e]at h;cases h
  | some a' =>
   rw [e]at h;cases h;obtain⟨v,q1,q2⟩:=d.get e;refine⟨v,?_,q2⟩;rw [fV (by simp;omega),gK,q1];rfl
 ·rw [nP (by simpa using hi)]at h;have:=qF h;simp at this
theorem Cr{K:Frag}{N:List Str}{t:TS}{b:MS}{H:Hp}{vs:List V}{Q:VK}{E:XK}{n:Nat}(s:sL K (fun _=>E) t b)(h:rO K n (eE N.length b) vs H Q E):t { nx:=fun _ H'=>Q .bH H',rt:=Q } (L2.start N vs) H:=by
 obtain⟨hl,G,ι,Ω,ds,w,d,q⟩:=h;refine s G ι Ω H _ (IA N.length ds) _ w (an1 d) ?_;have q':=Wr w q
 revert q'
 generalize b (IA N.length ds) Ω=r;intro q'
 match r,q' with
 | some (.nx,ρ',Ω'),q'=>exact fun σ' H' G' ι' e w' r'=>q' .bH H' G' ι' e w' (by simp only [Den])
 | some (.ret a,ρ',Ω'),q'=>exact fun σ' H' G' ι' e w' r' v d'=>q' v H' G' ι' e w' d'
 | some (.exc x,ρ',Ω'),q'=>exact fun σ' H' G' ι' e w' r' cls dx d'=>q' cls dx H' G' ι' e w' d'
 | some (.bk,ρ',Ω'),q'=>exact False.elim q'
 | some (.ct,ρ',Ω'),q'=>exact False.elim q'
section
variable{P:Program}{w:World}{K:Frag}{mg:Str→Option Value}{base:Heap}
theorem Pb{x:Str}{st:Stmt}{N ps:List Str}{k:Nat}{b:MS}{f:Addr}{fd:FuncData}(F:oE K x x st f fd)(S:dI N ps (aZ st))
  (kD:∀(f:Addr) (aV:Value) (A:Around) (outer:List Env) (s:Shared) (H:Hp) (E:XK),cE k (A.deeper (envOfC x (aZ st) s.heap.objs.size f aV)) →
   lO (pB P w K mg base N x (aZ st) f aV A outer s H E) (fun _=>E) (fB st) b):gC P w K mg base (mI P w) (k+1) f fd ps (rO K ps.length (eE N.length b)):=by
 obtain⟨oc,od,kV,doc,pm,an,aV,ct,iQ,rfl,lk,kB⟩:=F.ex;refine HY lk kB S (fun vs H Q E h=>h.1) fun A outer s H vs Q E hr jZ=>?_;obtain⟨t,p,q⟩:=kD f aV A outer s H E hr;exact⟨t,ND p,Cr q jZ⟩
theorem gD.of{x:Str}{st:Stmt}{N ps:List Str}{k:Nat}{b:MS}(h:HasFn K mg x st)(S:dI N ps (aZ st))
  (bind:∀(kV doc pm:Value) (an:Option Addr) (aV ct:Value) (us:List Value),us.length=ps.length→bindArgs (fnOf x x (kN st) (fB st) (aZ st) .none kV doc pm an aV ct) ⟨us,[]⟩=pure (ps.zip us))
  (kD:∀(f:Addr) (aV:Value) (A:Around) (outer:List Env) (s:Shared) (H:Hp) (E:XK),cE k (A.deeper (envOfC x (aZ st) s.heap.objs.size f aV)) →
   lO (pB P w K mg base N x (aZ st) f aV A outer s H E) (fun _=>E) (fB st) b):gD P w K mg base x (k+1) ps (eE N.length b):=by
 obtain⟨f,fd,hm,F⟩:=h.ex;exact⟨f,fd,Pb F S kD,hm,F.kp,F.binds bind⟩
abbrev asC(P:Program)(w:World)(K:Frag)(mg:Str→Option Value)(base:Heap)(x:Str)(k:Nat)(ps:List Str)(F:List A→Mo A):Prop:=Def P w K mg base x k ps (fun vs H Q _=>rO K ps.length F vs H Q fun _ _ _=>False)
theorem Cn{k:Nat}{f:Addr}{fd:FuncData}{ps:List Str}{sp:Sp}(F:gC P w K mg base (mI P w) k f fd ps sp):gC P w K mg base sS k f fd ps (fun vs H Q _=>sp vs H Q fun _ _ _=>False) :=
 ⟨fun vs H Q E h=>F.len _ _ _ _ h,fun A outer s H args us vs Q E hr e0 hb r jZ=>uA (F.run A outer s H args us vs Q _ hr e0 hb r jZ) fun r s' hq=>by
  cases r with
  | error ev=>obtain⟨x,cls,dx,H',_,_,_,_,_,_,q⟩:=hq;exact q.elim
  | ok fl=>cases fl <;> exact hq⟩
theorem gD.calm{x:Str}{k:Nat}{ps:List Str}{F:List A→Mo A}(D:gD P w K mg base x k ps F):asC P w K mg base x k ps F:=by
 obtain⟨f,fd,h1,h2,h3,h4⟩:=D.ex;exact⟨f,fd,Cn h1,h2,h3,h4⟩
def LS(K:Frag):Sp:=fun vs H Q _=>∃(a:Addr) (ns:List Int),vs=[.ref a]∧eX K H a (ns.map V.int)∧ns.length≤63∧∀H',Q (.bl true) H'
theorem aiY{fa:Addr}{fd:FuncData}{k:Nat}{F:List A→Mo A}(h1:gC P w K mg base (mI P w) k fa fd ["_law_script"] (rO K 1 F))(hF:∀ns:List Int,ns.length≤63→∃Ω,F [.bK ns] []=some (.ok (.bl true),Ω)) :
  gC P w K mg base sS k fa fd ["_law_script"] (LS K):=by
 refine(Cn h1).imp fun vs H Q E hq=>?_;obtain⟨a,ns,rfl,hs,hl,q⟩:=hq;obtain⟨Ω,e⟩:=hF ns hl;refine⟨rfl,H,[],[],[.bK ns],⟨gJ.refl _,List.nodup_nil,rfl,fun a ha=>by simp at ha,fun k c a h=>by simp at h,fun b k i k' i' h=>by obtain⟨_,_,_,_,_,_,_,_,_,q,_⟩:=h;simp at q⟩,.cons (by simp only [Den];exact⟨a,rfl,hs⟩) .nil,?_⟩;rw [e];intro v H' G' ι' _ _ d;simp only [Den]at d;subst d;exact q H'
end
section
variable{X:Cx}{W:WX}{x:Str}{p pos:Pos}{e:Expr}{es:List Expr}{fs:Ev→Mo (List A)}
@[simp] def eB(n:Nat)(F:List A→Mo A):List A→Mo A:=fun as=>if as.length=n then F as else stuck
theorem Co{K:Frag}{G G1:Hp}{ι ι1:List Addr}{σ:L2.St}{Q:VK}{r:Option (Rs A×aI)}{W:WX}(h:bF K (Den K) W G ι σ Q r)(x1:Ext G ι G1 ι1):bF K (Den K) (fun _=>fun cls dx H'=>W σ cls dx H') G1 ι1 [] Q r:=by
 match r,h with
 | some (.ok a,Ω2),h=>exact fun v H' G' ι' x2 w2 d2=>h v H' G' ι' (x1.trans x2) w2 d2
 | some (.exc a,Ω2),h=>exact fun cls dx H' G' ι' x2 w2 d2=>h cls dx H' G' ι' (x1.trans x2) w2 d2
theorem kS{k:Nat}{ps:List Str}{F:List A→Mo A}(T:pF X W)(D:gD X.prog X.w X.K X.mg X.base x k ps F)(hr:cE k X.A)(hg:Gl X x)(ha:VA X W (e::es) fs)
  (gH:(x == ("__debug__" : Str))=false:=by decide) (he:starEach (e::es) X.env=(false,eval e X.env)::starEach es X.env:=by rfl) (dS:(backTo pos (starEach es X.env)).any (·.1)=false:=by rfl):VE X W (.Call (.Name x p) (e::es) [] pos) (aW (eB ps.length F) fs):=by
 obtain⟨t,p1,s1⟩:=ha;refine⟨_,agD T D hr hg p1 gH he dS,fun G ι Ω H σ ρ Q w r h=>?_⟩;refine s1 G ι Ω H σ ρ _ w r (bF.mb h fun as Ω1 vs H1 G1 ι1 x1 w1 d1 h1=>?_);unfold eB at h1;split at h1
 ·rename_i hl;exact⟨by rw [d1.length];exact hl,G1,ι1,Ω1,as,w1,d1,Co h1 (Ext.refl _ _)⟩
 ·exact False.elim h1
abbrev cI(i:Int):Ev→Mo A:=fun _=>ret (.int i)
abbrev cB(i:Bool):Ev→Mo A:=fun _=>ret (.bl i)
abbrev cN:Ev→Mo A:=fun _=>ret .bH
abbrev cT(n:String):Ev→Mo A:=fun _=>ret (.ty n)
abbrev a0:Ev→Mo (List A):=fun _=>ret []
abbrev uW:Ev→Mo (Option Int):=fun _=>ret none
end
end V2
namespace V2
open PySem L2
section
variable{α β:Type}{Ω Ω':aI}{a:A}
@[simp] theorem atD(x:α)(k:α→Mo β):mb (ret x) k=k x:=rfl
theorem bQ{m:Mo α}{k:α→Mo β}{x:α}(h:m Ω=some (.ok x,Ω')):mb m k Ω=k x Ω':=by unfold mb;rw [h]
@[simp] theorem atE(x:α)(k:α→Mo β):mb (need (some x)) k=k x:=rfl
theorem vJ{p:Prop} [Decidable p](k:Unit→Mo β)(h:p):mb (mV p) k=k ():=by funext Ω;simp [mb,mV,h]
@[simp] theorem VB(x:α):(ret x:Mo α) Ω=some (.ok x,Ω):=rfl
@[simp] theorem asZ:trim Ω (some (.ok a,Ω))=some (.ok a,Ω):=by simp only [trim];split <;> rfl
theorem LG{Δ:aI}(h:Cl Ω.length a):trim Ω (some (.ok a,Ω++Δ))=some (.ok a,Ω):=by
 simp only [trim];rw [if_pos ⟨by simp,h⟩]
@[simp] theorem as5(x:α)(ρ:Ev)(k:α→aI→OS):sM (ret x) ρ k=k x:=rfl
theorem fQ{m:Mo α}{ρ:Ev}{k:α→aI→OS}{x:α}(h:m Ω=some (.ok x,Ω')):sM m ρ k Ω=k x Ω':=by unfold sM;rw [h]
@[simp] theorem BA(ρ:Ev):fZ (some (.ret a,ρ,Ω))=some (.ok a,Ω):=rfl
@[simp] theorem tJ(ρ:Ev):fZ (some (.nx,ρ,Ω))=some (.ok .bH,Ω):=rfl
theorem bO{f g:MS}{ρ ρ1:Ev}(h:f ρ Ω=some (.nx,ρ1,Ω')):bC f g ρ Ω=g ρ1 Ω':=by unfold bC;rw [h]
theorem IT{α:Type}(xs:List α)(n:Nat):jO xs (n:Int)=xs[n]?:=by
 unfold jO qU;rw [if_pos (by omega)]
 by_cases h:(n:Int)<xs.length
 ·rw [if_pos h];simp
 ·rw [if_neg h];simp;omega
theorem QG{α:Type}(xs:List α)(n:Nat):jO xs (OfNat.ofNat n:Int)=xs[n]?:=IT xs n
theorem arA{α:Type}(xs:List α):jO xs 0=xs[0]?:=IT xs 0
theorem arB{α:Type}(xs:List α):jO xs 1=xs[1]?:=IT xs 1
end
@[simp] theorem asR:pT "int" "int" = some true:=by simp [pT]
@[simp] theorem asS:pT "int" "bool" = some false:=by simp [pT]
@[simp] theorem asP:pT "tuple" "tuple" = some true:=by simp [pT]
@[simp] theorem asQ:pT "list" "list" = some true:=by simp [pT]
@[simp] theorem aiO(Ω:aI)(ds:List A):dF Ω (.lst ds)=some ds:=rfl
@[simp] theorem atL(Ω:aI)(ns:List Int):dF Ω (.bK ns)=some (ns.map A.int):=rfl
@[simp] theorem atJ(Ω:aI)(ds:List A):dF Ω (.tup ds)=none:=rfl
@[simp] theorem atM(Ω:aI)(i:Int):dF Ω (.int i)=none:=rfl
@[simp] theorem as3(Ω:aI)(ds:List A):fH Ω (.lst ds)=some ds:=rfl
@[simp] theorem as2(Ω:aI)(ns:List Int):fH Ω (.bK ns)=some (ns.map A.int):=rfl
@[simp] theorem as1(Ω:aI)(ds:List A):fH Ω (.tup ds)=some ds:=rfl
@[simp] theorem acV(Ω:aI)(k:Nat):fH Ω (.aB k)=dF Ω (.aB k):=rfl
@[simp] theorem asX(Ω:aI)(i:Int):lG Ω (.int i)=some "int":=rfl
@[simp] theorem asY(Ω:aI)(i:Bool):lG Ω (.bl i)=some "bool":=rfl
@[simp] theorem asU(Ω:aI)(i:Str):lG Ω (.str i)=some "str":=rfl
@[simp] theorem asV(Ω:aI):lG Ω .bH=some "NoneType":=rfl
@[simp] theorem asT(Ω:aI)(ds:List A):lG Ω (.tup ds)=some "tuple":=rfl
@[simp] theorem asW(Ω:aI)(ds:List A):lG Ω (.lst ds)=some "list":=rfl
@[simp] theorem atR:xY .bH=some true:=rfl
@[simp] theorem atV(i:Int):xY (.int i)=some false:=rfl
@[simp] theorem atQ(ds:List A):xY (.tup ds)=some false:=rfl
@[simp] theorem atU(ds:List A):xY (.lst ds)=some false:=rfl
@[simp] theorem atW(b:Bool):xY (.bl b)=some false:=rfl
theorem lW{Ω:aI}{k:Nat}{ds:List A}(h:Ω[k]? = some (.lst ds)):dF Ω (.aB k)=some ds:=by simp [dF,h]
theorem Wj{Ω:aI}{k:Nat}{ds:List A}(h:Ω[k]? = some (.lst ds)):lG Ω (.aB k)=some "list":=by simp [lG,h]
theorem Ra{Ω:aI}{k:Nat}{ds:List A}(h:Ω[k]? = some (.lst ds)):CL Ω (.aB k)=some (k,ds):=by simp [CL,h]
theorem aj0{Ω:aI}{a:A}{ds:List A}(h:dF Ω a=some ds):YL Ω a:=⟨ds,h⟩
@[simp] theorem tX(Ω:aI)(c:Cell):(Ω++[c])[Ω.length]? = some c:=by simp
@[simp] theorem AQ(Ω:aI)(c d:Cell):(Ω++[c]).set Ω.length d=Ω++[d]:=by simp
section
variable{ok:aI→Prop}{g:A→MS}{b:MS}{x:A}{xs:List A}{ρ ρ0 ρ1:Ev}{Ω Ω0 Ω1:aI}{a:A}
theorem anQ(h:ok Ω):dO ok g b [] ρ Ω=some (.nx,ρ,Ω):=by simp [dO,h]
theorem yW(h:ok Ω)(hg:g x ρ Ω=some (.nx,ρ0,Ω0))(hb:b ρ0 Ω0=some (.nx,ρ1,Ω1)):dO ok g b (x::xs) ρ Ω=dO ok g b xs ρ1 Ω1:=by simp [dO,h,hg,hb]
theorem anR(h:ok Ω)(hg:g x ρ Ω=some (.nx,ρ0,Ω0))(hb:b ρ0 Ω0=some (.ct,ρ1,Ω1)):dO ok g b (x::xs) ρ Ω=dO ok g b xs ρ1 Ω1:=by simp [dO,h,hg,hb]
theorem OO(I:Nat→Ev→aI→Prop)(aH:∀i ρ Ω,I i ρ Ω→ok Ω):∀(xs:List A) (j:Nat) (ρ:Ev) (Ω:aI),I j ρ Ω →
  (∀i x ρ Ω,xs[i]? = some x→I (j+i) ρ Ω→∃ρ0 Ω0 ρ1 Ω1,g x ρ Ω=some (.nx,ρ0,Ω0)∧(b ρ0 Ω0=some (.nx,ρ1,Ω1)∨b ρ0 Ω0=some (.ct,ρ1,Ω1))∧I (j+i+1) ρ1 Ω1) →
  ∃ρ' Ω',dO ok g b xs ρ Ω=some (.nx,ρ',Ω')∧I (j+xs.length) ρ' Ω'
 | [],j,ρ,Ω,h0,_=>⟨ρ,Ω,anQ (aH _ _ _ h0),h0⟩
 | x::xs,j,ρ,Ω,h0,turn=>by
  obtain⟨ρ0,Ω0,ρ1,Ω1,e1,e2,e3⟩:=turn 0 x ρ Ω rfl h0;obtain⟨ρ',Ω',q1,q2⟩:=OO I aH xs (j+1) ρ1 Ω1 e3 fun i y ρ Ω hy hI=>by
   have:=turn (i+1) y ρ Ω (by simpa using hy) (by rw [show j+(i+1)=j+1+i by omega];exact hI);rwa [show j+(i+1)+1=j+1+i+1 by omega]at this
  refine⟨ρ',Ω',?_,by rw [jP,show j+(xs.length+1)=j+1+xs.length by omega];exact q2⟩
  rcases e2 with e2 | e2
  ·rw [yW (aH _ _ _ h0) e1 e2,q1]
  ·rw [anR (aH _ _ _ h0) e1 e2,q1]
end
open PySem PySem.Spec PyProof.Rows L2
theorem Inv.Hs{X:Cx}{pins:List (Addr×Obj)}{σ:L2.St}{H:Hp}{s:Shared}{p:Addr}{o:HO}(I:Inv X pins σ H s)(hp:H p=none)(h0:X.s₀.heap.get? p=none)(hL:p≠X.env.locals)(hC:∀x c,X.env.cells.lookup x=some c→c≠p)(hP:∀q∈X.pn++pins,q.1≠p)
  (aH:eR X.prog X.w (upd H p o) s.heap):Inv X pins σ (upd H p o) s where
 ok:=I.ok
 os:=I.os
 bare:=I.bare
 base:={
  keep:=I.base.keep
  slot:=I.base.slot
  free:=fun b ob q n hx=>by
   have hb:b≠p:=fun z=>by subst z;rw [h0]at q;cases q
   rw [aY hb];exact I.base.free b ob q n hx
  there:=I.base.there
  kH:=fun b xs q=>by have z:=I.base.kH b xs q;rw [aY (iF z hp)];exact z
  jL:=fun b ob u q=>by have z:=I.base.jL b ob u q;rw [aY (iF z hp)];exact z
  kI:=fun b ps q=>by obtain⟨more,z⟩:=I.base.kI b ps q;exact⟨more,by rw [aY (iF z hp)];exact z⟩ }
 loc:=I.loc
 cell:=I.cell
 free:=by rw [aY (bV hL)];exact I.free
 jM:=fun x c q=>by rw [aY (hC x c q)];exact I.jM x c q
 pin:=fun q hq=>by
  obtain⟨a,b,c⟩:=I.pin q hq;exact⟨a,by rw [aY (hP q hq)];exact b,c⟩
 aH:=aH
 len:=I.len
section
variable{X:Cx}{W:WX}{pos:Pos}
theorem RP{st:Stmt}:VS X W st (fun _ _=>none):=⟨_,ae7,fun _ _ _ _ _ _ _ _ _ h=>h.elim⟩
end
def tM(n:Nat)(js:List Nat)(ρ:Ev):Ev:=List.replicate n none++js.map (fun j=>(ρ[j]?).join)
def CP(X:Cx)(W:WX)(ifs:List Expr)(f:Ev→Mo Bool):Prop:=∃t,CT X ifs t∧eQ X.K AS W t f
abbrev oG:Ev→Mo Bool:=fun _=>ret true
theorem DY{X:Cx}{W:WX}:CP X W [] oG:=⟨_,afJ,fun _ _ _ _ _ _ _ w _ q=>jH w rfl q⟩
theorem RR{X:Cx}{W:WX}{c:Expr}{f:Ev→Mo Bool}(h:VT X W c f):CP X W [c] f:=let ⟨t,p,s⟩:=h; ⟨t,afI p,s⟩
open Classical in
noncomputable def lN(ok:aI→Prop)(g:A→MS)(c:Ev→Mo Bool)(e:Ev→Mo A)(n:Nat):List A→Ev→aI→Option (Ev×aI)
 | [],ρ,Ω=>if ok Ω then some (ρ,Ω)else none
 | x::xs,ρ,Ω=>if ok Ω then(match g x ρ Ω with
  | some (.nx,ρ1,Ω1)=>(match c ρ1 Ω1 with
   | some (.ok true,Ω2)=>(match e ρ1 Ω2 with
    | some (.ok y,Ω3)=>(match Ω3[n]? with
     | some (.lst ys)=>if ys.length<sizeLine then lN ok g c e n xs ρ1 (Ω3.set n (.lst (ys++[y])))else none
     | _=>none)
    | _=>none)
   | some (.ok false,Ω2)=>lN ok g c e n xs ρ1 Ω2
   | _=>none)
  | _=>none)else none
open Classical in
noncomputable def NG(cf:Bool)(Ω1:aI)(r:Option (Ev×aI)):Option (Rs A×aI):=match r with
 | some (_,Ω')=>(match Ω'[Ω1.length]? with
  | some (.lst ys)=>if cf then some (.ok (.aB Ω1.length),Ω')else if Ω'.take Ω1.length=Ω1∧fX Ω1.length ys then some (.ok (.lst ys),Ω1)else some (.ok (.lst ys),Ω'.set Ω1.length .dead)
  | _=>none)
 | none=>none
noncomputable def kG(cf:Bool)(n:Nat)(js:List Nat)(fi:Ev→Mo Src)(g:A→MS)(c:Ev→Mo Bool)(e:Ev→Mo A):Ev→Mo A:=fun ρ=>mb (fi ρ) fun S Ω1=>NG cf Ω1 (lN S.ok g c e Ω1.length S.ds (tM n js ρ) (Ω1++[.lst []]))
theorem anP{ok:aI→Prop}{g:A→MS}{c:Ev→Mo Bool}{e:Ev→Mo A}{n:Nat}{xs:List A}{ρ:Ev}{Ω:aI}{r:Ev×aI}(h:lN ok g c e n xs ρ Ω=some r):ok Ω:=by
 cases xs with
 | nil=>unfold lN at h;by_cases hp:ok Ω;exact hp;rw [if_neg hp]at h;cases h
 | cons=>unfold lN at h;by_cases hp:ok Ω;exact hp;rw [if_neg hp]at h;cases h
theorem aiX{K:Frag}{G:Hp}{ι:List Addr}{σ:L2.St}{ρ:Ev}(ls:List Str)(js:List Nat)(r:fW K G ι σ ρ):fW K G ι (rX ls js σ) (tM ls.length js ρ):=by
 unfold rX tM;refine⟨by simp,fun i d h=>?_⟩
 by_cases hi:i<ls.length
 ·rw [fV (by simpa using hi)]at h;rw [List.getElem?_replicate,if_pos hi]at h;cases h
 ·rw [nP (by simpa using Eh hi),Ud,gK]at h;cases e:js[i - ls.length]? with
  | none=>rw [e]at h;cases h
  | some j =>
   rw [e]at h;have h':(ρ[j]?).join=some d:=mF h;obtain⟨v,q1,q2⟩:=r.2 j d (join_some h');refine⟨v,?_,q2⟩;rw [nP (by simpa using Eh hi),eG,gK,e];show some (σ[j]?).join=_;rw [q1];rfl
section
variable{K:Frag}{W:WX}
theorem Jd{ls:List Str}{js:List Nat}{wi:TI}{tg:TG}{tc:TT}{te:TE}{fi:Ev→Mo Src}{g:A→MS}{c:Ev→Mo Bool}{e:Ev→Mo A}{cf:Bool}(W0:WX)(hi:eQ K (VD K) W wi fi)(hg:CQ K W0 tg g)(hc:eQ K AS W0 tc c)(he:eQ K (Den K) W0 te e) :
  eQ K (Den K) W (SU ls js wi tg tc te) (kG cf ls.length js fi g c e):=by
 intro G ι Ω H σ ρ Q w r h;refine hi G ι Ω H σ ρ _ w r (bF.mb h fun S Ω1 J H1 G1 ι1 x1 w1 j1 h1=>?_);intro D hD;unfold NG at h1;cases er:lN S.ok g c e Ω1.length S.ds (tM ls.length js ρ) (Ω1++[.lst []])with
 | none=>rw [er]at h1;exact False.elim h1
 | some rr =>
 obtain⟨ρe,Ωe⟩:=rr;rw [er]at h1;simp only at h1;have hw0:Wd K G1 (ι1++[D]) (Ω1++[.lst []]) (upd H1 D (.lst [])):=w1.cell hD ⟨w1.nV hD,[],dR,.nil⟩;have r0:fW K G1 (ι1++[D]) (rX ls js σ) (tM ls.length js ρ):=aiX ls js (r.ext (x1.trans (Ext.cell D)));have Oj:(ι1++[D])[Ω1.length]? = some D:=by rw [← w1.len];simp
 refine⟨fun i m σ' H'=>m=S.ds.length - i∧i≤S.ds.length∧∃G' ι' Ω' ρ',Ext G1 (ι1++[D]) G' ι'∧Wd K G' ι' Ω' H'∧fW K G' ι' σ' ρ'∧lN S.ok g c e Ω1.length (S.ds.drop i) ρ' Ω'=some (ρe,Ωe),
  ⟨_,rfl,CU _,G1,_,_,_,Ext.refl _ _,hw0,r0,by simpa using er⟩,?_⟩
 rintro i m σ' H' ⟨rfl,Nn,G',ι',Ω',ρ',e',w',r',h'⟩;have aH:=anP h';have eJ:Ext G1 ι1 G' ι':=(Ext.cell D).trans e'
 by_cases dD:i<S.ds.length
 ·right
  refine⟨j1.go G' ι' Ω' H' eJ w' aH i dD,fun σ2 H2=>∃G2 ι2 Ω2 ρ2,Ext G1 (ι1++[D]) G2 ι2∧Wd K G2 ι2 Ω2 H2∧fW K G2 ι2 σ2 ρ2∧lN S.ok g c e Ω1.length (S.ds.drop (i+1)) ρ2 Ω2=some (ρe,Ωe),fun σ2 H2 n=>?_,fun x H2 y=>?_⟩
  ·exact⟨S.ds.length - (i+1),by omega,rfl,dD,n⟩
  ·obtain⟨G2,e2,w2,d2⟩:=j1.sU G' ι' Ω' H' eJ w' aH i x H2 S.ds[i] (jC dD) y;rw [Uh dD]at h';unfold lN at h';rw [if_pos aH]at h';refine hg G2 ι' Ω' H2 σ' ρ' x S.ds[i] ⟨_,fun _ _=>False,fun _ _=>False,fun _ _=>False⟩ w2 (r'.ext e2) d2 ?_
   revert h'
   generalize g S.ds[i] ρ' Ω'=q;intro h';split at h'
   ·rename_i ρ3 Ω3;intro σ3 H3 G3 ι3 x3 w3 r3;refine hc G3 ι3 Ω3 H3 σ3 ρ3 _ w3 r3 ?_
    revert h'
    generalize c ρ3 Ω3=q2;intro h';split at h'
    ·rename_i Ω4;intro b H4 G4 ι4 x4 w4 hb;cases(show b=true from hb);rw [if_pos rfl];refine he G4 ι4 Ω4 H4 σ3 ρ3 _ w4 (r3.ext x4) ?_
     revert h'
     generalize e ρ3 Ω4=q3;intro h';split at h'
     ·rename_i z Ω5;intro v H5 G5 ι5 x5 w5 d5;split at h'
      ·rename_i ys ey;split at h'
       ·rename_i hl;have eD:=(((e'.trans e2).trans x3).trans x4).trans x5;have hk:=eD.pre _ _ Oj;obtain⟨gg,xs,q1,q2⟩:=w5.aB _ _ D ey hk;refine⟨xs,q1,by rw [q2.length];exact hl,G5,ι5,_,ρ3,eD,w5.put (c := .lst (ys++[z])) hk gg ⟨gg,_,dR,q2.append (.cons d5 .nil)⟩,(r3.ext x4).ext x5,h'⟩
       ·cases h'
      ·cases h'
     ·cases h'
    ·rename_i Ω4;intro b H4 G4 ι4 x4 w4 hb;cases(show b=false from hb);rw [if_neg (by simp)];exact⟨G4,ι4,Ω4,ρ3,((e'.trans e2).trans x3).trans x4,w4,r3.ext x4,h'⟩
    ·cases h'
   ·cases h'
 ·have GS:i=S.ds.length:=by omega
  subst GS
  left
  refine⟨j1.stop G' ι' Ω' H' eJ w' aH _ bP,?_⟩;rw [List.drop_length]at h';unfold lN at h';rw [if_pos aH]at h';cases h';split at h1
  ·rename_i ys ey;have hk:=e'.pre _ _ Oj;obtain⟨gg,xs,q1,q2⟩:=w'.aB _ _ D ey hk;split at h1
   ·exact h1 _ H' G' ι' eJ w' (by simp only [Den];exact⟨D,rfl,hk⟩)
   ·have wf:=w'.freeze hk gg q1;split at h1
    ·rename_i Nx;have eC:Ext G1 ι1 (upd G' D (.lst xs)) ι':=eJ.trans (Ext.new gg _);have wc:=w1.cut wf eC (by rw [List.take_set_of_le bP];exact Nx.1);refine h1 _ H' _ ι1 ⟨eC.same,fun _ _ q=>q⟩ wc ?_;simp only [Den];exact⟨D,xs,rfl,dR,(q2.ext (Ext.new gg _)).cut eC.cut (by rw [w1.len];exact Nx.2)⟩
    ·refine h1 _ H' _ ι' (eJ.trans (Ext.new gg _)) wf ?_;simp only [Den];exact⟨D,xs,rfl,dR,q2.ext (Ext.new gg _)⟩
  ·exact False.elim h1
end
def SW{α β:Type}(K:Frag)(rel:Rl α β)(W:WX)(f:Ev→Mo α):L2.St→Hp→(β→Hp→Prop)→Prop:=fun σ H Q=>∃G ι Ω ρ,Wd K G ι Ω H∧fW K G ι σ ρ∧bF K rel W G ι σ Q (f ρ Ω)
def Ih(K:Frag)(W:WX)(g:A→MS):TG:=fun v σ H Q=>∃G ι Ω ρ a D,Wd K G ι Ω H∧fW K G ι σ ρ∧Den K G ι v a∧dU K W G ι D (g a ρ Ω)∧D.nx=Q
theorem LY{α β:Type}{K:Frag}{rel:Rl α β}{W:WX}{f:Ev→Mo α}:eQ K rel W (SW K rel W f) f:=fun G ι Ω H σ ρ Q w r h=>⟨G,ι,Ω,ρ,w,r,h⟩
theorem Jf{K:Frag}{W:WX}{g:A→MS}:CQ K W (Ih K W g) g:=fun G ι Ω H σ ρ v a D w r d h=>⟨G,ι,Ω,ρ,a,D,w,r,d,h,rfl⟩
theorem VE.wG{X:Cx}{W:WX}{e:Expr}{f:Ev→Mo A}(h:VE X W e f):PE X e (SW X.K (Den X.K) W f):=by
 obtain⟨t,p,s⟩:=h;exact fun pins sh σ H Q I ⟨G,ι,Ω,ρ,w,r,q⟩=>p pins sh σ H Q I (s G ι Ω H σ ρ Q w r q)
theorem CP.wG{X:Cx}{W:WX}{ifs:List Expr}{f:Ev→Mo Bool}(h:CP X W ifs f):CT X ifs (SW X.K AS W f):=by
 obtain⟨t,p,s⟩:=h;exact fun pins sh σ H Q I ⟨G,ι,Ω,ρ,w,r,q⟩=>p pins sh σ H Q I (s G ι Ω H σ ρ Q w r q)
theorem VG.wG{X:Cx}{W:WX}{tg:Expr}{g:A→MS}(h:VG X W tg g):PG X tg (Ih X.K W g):=by
 obtain⟨t,p,s⟩:=h;exact fun pins sh σ H v u Q I rv ⟨G,ι,Ω,ρ,a,D,w,r,d,q,e⟩=>p pins sh σ H v u Q I rv (e ▸ s G ι Ω H σ ρ v a D w r d q)
abbrev rU:WX:=fun _ _ _ _=>False
theorem EC{X:Cx}{W:WX}{elt tg iter:Expr}{ifs:List Expr}{scope:Scope}{pos:Pos}{fi:Ev→Mo Src}{g:A→MS}{c:Ev→Mo Bool}{e:Ev→Mo A}(cf:Bool)(ls:List Str)(js:List Nat)(hc:X.calm=true)(L:wN X scope ls js)(hi:VI X W tg iter fi)
  (hb:∀cl C s H fp,VG (eV X scope ls js cl C s H fp) rU tg g∧CP (eV X scope ls js cl C s H fp) rU ifs c∧VE (eV X scope ls js cl C s H fp) rU elt e)
  (hs:∀x,foldedSetIterable iter X.env x=pure x:=by intro _;rfl):VE X W (.ListComp elt [⟨tg,iter,ifs,0⟩] scope pos) (kG cf ls.length js fi g c e):=by
 obtain⟨t1,p1,s1⟩:=hi;exact⟨_,af7 hc L p1 (fun cl C s H fp=>⟨(hb cl C s H fp).1.wG,(hb cl C s H fp).2.1.wG,(hb cl C s H fp).2.2.wG⟩) hs,Jd _ s1 Jf LY LY⟩
def sortI(ns:List Int):List Int:=ns.mergeSort fun a b=>decide (a≤b)
theorem sortI_perm(ns:List Int):(sortI ns).Perm ns:=List.mergeSort_perm ns _
theorem TK(ns:List Int):(sortI ns).Pairwise (· ≤ ·):=by
 have h:=List.pairwise_mergeSort (le:=fun a b:Int=>decide (a≤b)) (fun a b c h1 h2=>by simp at h1 h2 ⊢;omega) (fun a b=>by simp;omega) ns;exact h.imp fun h=>of_decide_eq_true h
theorem EO{ns ms:List Int}(p:ms.Perm ns)(h:ms.Pairwise (· ≤ ·)):ms=sortI ns :=
 List.Perm.eq_of_pairwise (le:=(· ≤ ·)) (fun a b _ _ h1 h2=>Int.le_antisymm h1 h2) h (TK ns) (p.trans (sortI_perm ns).symm)
theorem ER(ns:List Int):(sortI ns).length=ns.length:=(sortI_perm ns).length_eq
section
variable{X:Cx}{W:WX}
theorem RU:∀{us:List Value} {ns:List Int},IntsAre us ns→Vals (ns.map V.int) us
 | _,_,.nil => .nil
 | _,_,.cons n t h => .cons ⟨t,rfl⟩ (RU h)
theorem aqG:jR X (.builtin "sorted") (fun xs H Q=>∃(a:Addr) (ns:List Int),xs=[.ref a]∧eX X.K H a (ns.map V.int)∧ns.length<64∧∀l,H l=none→Q (.ref l) (upd H l (.lst ((sortI ns).map V.int)))):=by
 intro pins s σ H xs us Q I r h;obtain⟨a,ns,rfl,hq,nU,q⟩:=h;obtain⟨u,rfl,ru⟩:=vals1 r;cases ru;obtain⟨aL,rv,pl,hz⟩:=I.list hq;have hI:IntsAre aL ns:=intsAre_of rv;have hl:aL.length=ns.length:=by rw [← rv.length,eG]
 refine sorted_ints pl.isList hI (by omega) fun out BD a1 a2 a3=>?_;obtain⟨e,he⟩:=sortedAll_at s.heap aL out;have hn:=EO a2 a3;subst hn;refine⟨.ref (s.heap.objs.size+1),_,I.laid (t':=s.toks) (o := .lst ((sortI ns).map V.int)) (fun b o q=>sortedAll_old q) (qE _) ?_,rfl,q _ (I.aH.fresh (qE _))⟩;exact⟨by rw [eG,ER,kJ];omega,out.toList,e,RU a1,he⟩
@[simp] def HQ(c:Bool)(as:List A):Mo A:=fun Ω=>match as with
 | [a]=>(match (dF Ω a).bind intsOf with
  | some ns=>if ns.length<64 then iR c ((sortI ns).map A.int) Ω else none
  | none=>none)
 | _=>none
theorem aqT(c:Bool):qI X W (.builtin "sorted") (HQ c):=by
 refine⟨_,aqG,?_⟩;intro G ι Ω H σ xs as Q w d h;unfold HQ at h;split at h
 ·rename_i a;split at h
  ·rename_i ns e;split at h
   ·rename_i nU;obtain⟨x,rfl,d1⟩:=sG d;rw [sO]at e;obtain⟨ds,e1,e2⟩:=e;obtain⟨p,ys,rfl,h2,h3⟩:=pS w d1 e1;rw [yA e2 h3]at h2;exact⟨p,ns,rfl,h2,nU,fun l hl=>nT w hl (ID _) h⟩
   ·exact False.elim h
  ·exact False.elim h
 ·exact False.elim h
end
end V2
namespace M
open PySem V2
@[simp] abbrev aP:=V2.dH 0
@[simp] abbrev aX:=V2.dH 1
@[simp] abbrev bT:=V2.dH 2
@[simp] abbrev dG:=V2.dH 3
@[simp] abbrev cL:=V2.dH 4
@[simp] abbrev dJ:=V2.dH 5
@[simp] abbrev fF:=V2.dH 6
@[simp] abbrev iO:=V2.dH 7
@[simp] abbrev mM:=V2.dH 8
@[simp] abbrev RM:=V2.dH 9
@[simp] abbrev Gn:=V2.dH 10
@[simp] abbrev asN:=V2.dH 11
@[simp] abbrev asM:=V2.dH 12
@[simp] abbrev asL:=V2.dH 13
@[simp] abbrev asK:=V2.dH 14
@[simp] abbrev asJ:=V2.dH 15
@[simp] abbrev asI:=V2.dH 16
@[simp] abbrev asH:=V2.dH 17
@[simp] abbrev asG:=V2.dH 18
@[simp] abbrev asF:=V2.dH 19
@[simp] abbrev bM:=V2.cI 0
@[simp] abbrev bL:=V2.cI 1
@[simp] abbrev fO:=V2.cI 2
@[simp] abbrev rJ:=V2.cI 3
@[simp] abbrev qK:=V2.cI 4
@[simp] abbrev Ve:=V2.cI 5
@[simp] abbrev qJ:=V2.cI 6
@[simp] abbrev KJ:=V2.cI 7
@[simp] abbrev wC8:=V2.cI 8
@[simp] abbrev AG:=V2.cI 9
@[simp] abbrev Vf:=V2.cI 10
@[simp] abbrev Gp:=V2.cI 11
@[simp] abbrev bE:=V2.Bj false
@[simp] abbrev aG{α:Type}(a:α)(Ω:V2.aI):Option (V2.Rs α×V2.aI):=some (.ok a,Ω)
@[simp] abbrev fA(ρ:V2.Ev)(Ω:V2.aI):Option (V2.Out×V2.Ev×V2.aI):=some (.nx,ρ,Ω)
@[simp] abbrev aA(i:Int):Option V2.A:=some (.int i)
@[simp] abbrev aD(i:Nat):Option V2.A:=some (.aB i)
@[simp] abbrev aJ(i:List V2.A):Option V2.A:=some (.lst i)
noncomputable def Sa:MS :=
 (bC (cM (aC (bY) (aC (fD) (aC bE aP bL) (aC bE (cI 48271) (aC (fD) (cI 118) aX))) (cI 2147483629)) (gN 2))
  (dE (aC (bY) (aC bE (aC bE (aC (fD) (aC (eI) bT (cI 977)) (cI 16807)) (aC (fD) bT (aC bE (aC (fD) aX aX) KJ))) aX) (cI 2147483587))))
noncomputable def zW:List A→Mo A:=eE 3 Sa
end M
namespace V2
open PySem PySem.Spec PyProof.Rows L2
def iV(kvs:List (Key×A))(k:Key):Option A:=(kvs.find? fun kv=>decide (kv.1=k)).map (·.2)
def oP(kvs:List (Key×A))(k:Key)(a:A):List (Key×A) :=
 if kvs.any fun kv=>decide (kv.1=k)then kvs.map (fun kv=>if kv.1=k then(kv.1,a)else kv)else kvs++[(k,a)]
def lY:A→Option Key
 | .int i=>some (.inl i)
 | .str x=>some (.inr x)
 | _=>none
section
variable{K:Frag}{G:Hp}{ι:List Addr}
theorem FZ{v:V}{a:A}{k:Key}(d:Den K G ι v a)(h:lY a=some k):v=kV k:=by
 cases a with
 | int i=>simp only [lY,jB]at h;subst h;simp only [Den]at d;exact d
 | str i=>simp only [lY,jB]at h;subst h;simp only [Den]at d;exact d
 | _=>simp [lY]at h
theorem KR{k:Key}:∀{ws:List (Key×V)} {kvs:List (Key×A)},ws.map (·.1)=kvs.map (·.1)→aN K G ι (ws.map (·.2)) (kvs.map (·.2))→(∀a,iV kvs k=some a→∃v,jU ws k=some v∧Den K G ι v a)∧(iV kvs k=none→jU ws k=none)
 | [],[],_,_=>⟨fun a h=>(by cases h),fun _=>rfl⟩
 | [],_::_,h,_=>by simp at h
 | _::_,[],h,_=>by simp at h
 | p::ws,q::kvs,h,d=>by
  simp only [cX,JF]at h;obtain⟨x,r,e,d1,d2⟩:=d.jF;simp only [cX,JF]at e;obtain⟨e1,e2⟩:=e;obtain⟨i1,i2⟩:=KR (k:=k) h.2 (e2 ▸ d2)
  by_cases hk:q.1=k
  ·have hp:p.1=k:=h.1.trans hk;refine⟨fun a ha=>?_,fun hn=>?_⟩
   ·simp only [iV,DH,hk,decide_true,IX,jB]at ha;exact⟨p.2,by simp [jU,hp],by rw [← ha,e1];exact d1⟩
   ·simp [iV,hk]at hn
  ·have hp:¬p.1=k:=fun z=>hk (h.1.symm.trans z);have ev:jU (p::ws) k=jU ws k:=by simp [jU,hp]
   have ea:iV (q::kvs) k=iV kvs k:=by simp [iV,hk]
   rw [ev,ea];exact⟨i1,i2⟩
theorem Sf{k:Key}{ws:List (Key×V)}{kvs:List (Key×A)}(h:ws.map (·.1)=kvs.map (·.1)):(ws.any fun kv=>decide (kv.1=k))=(kvs.any fun kv=>decide (kv.1=k)):=by
 have e1:(ws.any fun kv=>decide (kv.1=k))=(ws.map (·.1)).any fun x=>decide (x=k):=by rw [List.any_map];rfl
 have e2:(kvs.any fun kv=>decide (kv.1=k))=(kvs.map (·.1)).any fun x=>decide (x=k):=by rw [List.any_map];rfl
 rw [e1,e2,h]
theorem aeT{k:Key}{v:V}{a:A}{ws:List (Key×V)}{kvs:List (Key×A)}(h:ws.map (·.1)=kvs.map (·.1)):(putK ws k v).map (·.1)=(oP kvs k a).map (·.1):=by
 unfold putK oP;rw [Sf h];split
 ·rw [uF,uF];have e1:ws.map ((·.1) ∘ fun kv:Key×V=>if kv.1=k then(kv.1,v)else kv)=ws.map (·.1):=QN fun x _=>by simp only [Function.comp];split <;> rfl
  have e2:kvs.map ((·.1) ∘ fun kv:Key×A=>if kv.1=k then(kv.1,a)else kv)=kvs.map (·.1):=QN fun x _=>by simp only [Function.comp];split <;> rfl
  rw [e1,e2,h]
 ·rw [JD,JD,h];rfl
theorem Ke{k:Key}{v:V}{a:A}(dv:Den K G ι v a):∀{ws:List (Key×V)} {kvs:List (Key×A)},ws.map (·.1)=kvs.map (·.1)→aN K G ι (ws.map (·.2)) (kvs.map (·.2))→aN K G ι ((ws.map fun kv=>if kv.1=k then(kv.1,v)else kv).map (·.2)) ((kvs.map fun kv=>if kv.1=k then(kv.1,a)else kv).map (·.2))
 | [],[],_,_ => .nil
 | [],_::_,h,_=>by simp at h
 | _::_,[],h,_=>by simp at h
 | p::ws,q::kvs,h,d=>by
  simp only [cX,JF]at h;obtain⟨x,r,e,d1,d2⟩:=d.jF;simp only [cX,JF]at e;obtain⟨e1,e2⟩:=e;have ih:=Ke (k:=k) dv h.2 (e2 ▸ d2);simp only [cX];refine .cons ?_ ih;rw [h.1];split
  ·exact dv
  ·rw [e1];exact d1
theorem aeU{k:Key}{v:V}{a:A}{ws:List (Key×V)}{kvs:List (Key×A)}(h:ws.map (·.1)=kvs.map (·.1))(d:aN K G ι (ws.map (·.2)) (kvs.map (·.2)))(dv:Den K G ι v a):aN K G ι ((putK ws k v).map (·.2)) ((oP kvs k a).map (·.2)):=by
 unfold putK oP;rw [Sf h];split
 ·exact Ke dv h d
 ·rw [JD,JD];exact d.append (.cons dv .nil)
def gO(Ω:aI):A→Option (Nat×List (Key×A))
 | .aB k=>match Ω[k]? with
  | some (.aU kvs)=>some (k,kvs)
  | _=>none
 | _=>none
theorem sH{H:Hp}{Ω:aI}{v:V}{a:A}{k:Nat}{kvs:List (Key×A)}(w:Wd K G ι Ω H)(d:Den K G ι v a)(h:gO Ω a=some (k,kvs)):∃p ws,v = .ref p∧ι[k]? = some p∧G p=none∧H p=some (.dK ws)∧ws.map (·.1)=kvs.map (·.1)∧aN K G ι (ws.map (·.2)) (kvs.map (·.2)):=by
 cases a with
 | aB j =>
  simp only [gO]at h;split at h
  ·rename_i es e;cases h;simp only [Den]at d;obtain⟨p,rfl,hk⟩:=d;obtain⟨g,ws,h3,h4,h5⟩:=w.aB k _ p e hk;exact⟨p,ws,rfl,hk,g,h3,h4,h5⟩
  ·cases h
 | _=>simp [gO]at h
theorem pC{Ω:aI}{k:Nat}{kvs:List (Key×A)}(h:Ω[k]? = some (.aU kvs)):gO Ω (.aB k)=some (k,kvs):=by simp [gO,h]
end
section
variable{X:Cx}{W:WX}{o i e:Expr}{pos:Pos}{fo fi fe:Ev→Mo A}
@[simp] def AJ:Ev→Mo A:=fun _ Ω=>some (.ok (.aB Ω.length),Ω++[.aU []])
theorem Gz:VE X W (.Dict [] [] pos) AJ:=by
 refine⟨_,agA,fun G ι Ω H σ ρ Q w r h=>?_⟩;intro p hp;refine h _ _ G (ι++[p]) (Ext.cell p) (w.cell hp ⟨w.nV hp,[],dR,rfl,.nil⟩) ?_;simp only [Den];exact⟨p,rfl,by rw [← w.len];simp⟩
@[simp] def vX(o i:A):Mo A:=fun Ω=>match gO Ω o,lY i with
 | some (_,kvs),some k=>match iV kvs k with
  | some a=>some (.ok a,Ω)
  | none=>none
 | _,_=>none
theorem Vx(hu:X.A.units+1<cLine)(ho:VE X W o fo)(hi:VE X W i fi)(hs:Ed i):VE X W (.Subscript o i pos) (aC vX fo fi):=by
 obtain⟨t,p1,s1⟩:=ho;obtain⟨u,p2,s2⟩:=hi;refine⟨_,agC hu p1 p2 hs,fun G ι Ω H σ ρ Q w r h=>?_⟩;refine s1 G ι Ω H σ ρ _ w r (bF.mb h fun x Ω1 v H1 G1 ι1 x1 w1 d1 h1=>?_);refine s2 G1 ι1 Ω1 H1 σ ρ _ w1 (r.ext x1) (bF.mb h1 fun y Ω2 u H2 G2 ι2 x2 w2 d2 h2=>?_);unfold vX at h2;split at h2
 ·rename_i k0 kvs k e1 e2;split at h2
  ·rename_i a ea;obtain⟨p,ws,rfl,hk,g,q1,q2,q3⟩:=sH w2 (d1.ext x2) e1;obtain⟨v',v1,v2⟩:=(KR q2 q3).1 a ea;rw [FZ d2 e2];exact⟨p,v',rfl,by rw [← v1];exact mY.k q1,h2 v' H2 G2 ι2 (Ext.refl _ _) w2 v2⟩
  ·exact False.elim h2
 ·exact False.elim h2
@[simp] def HS(o i z:A):Mo A:=fun Ω=>match gO Ω o,lY i with
 | some (_,kvs),some k=>some (.ok ((iV kvs k).getD z),Ω)
 | _,_=>none
def isD(Ω:aI)(a:A):Prop:=∃k kvs,gO Ω a=some (k,kvs)
open Classical in
@[simp] noncomputable def iW(fo fi fe:Ev→Mo A):Ev→Mo A:=fun ρ=>mb (fo ρ) fun o Ω=>if isD Ω o then mb (fi ρ) (fun i=>mb (fe ρ) fun z=>HS o i z) Ω else none
theorem xA{apos:Pos}(hu:X.A.units+1<cLine)(ho:VE X W o fo)(hi:VE X W i fi)(he:VE X W e fe)(m:M2 X o "get" apos i e pos):VE X W (.Call (.Attribute o "get" apos) [i,e] [] pos) (iW fo fi fe):=by
 obtain⟨t,p1,s1⟩:=ho;obtain⟨u,p2,s2⟩:=hi;obtain⟨u',p3,s3⟩:=he;refine⟨_,agB hu p1 p2 p3 m,fun G ι Ω H σ ρ Q w r h=>?_⟩;refine s1 G ι Ω H σ ρ _ w r (bF.mb h fun x Ω1 v H1 G1 ι1 x1 w1 d1 h1=>?_);split at h1
 ·rename_i hd;obtain⟨k0,atO,e0⟩:=hd;obtain⟨p,ws,rfl,hk,g,q1,q2,q3⟩:=sH w1 d1 e0;refine⟨p,rfl,.inl ⟨ws,.inl q1⟩,?_⟩;refine s2 G1 ι1 Ω1 H1 σ ρ _ w1 (r.ext x1) (bF.mb h1 fun y Ω2 u H2 G2 ι2 x2 w2 d2 h2=>?_);refine s3 G2 ι2 Ω2 H2 σ ρ _ w2 ((r.ext x1).ext x2) (bF.mb h2 fun z Ω3 u3 H3 G3 ι3 x3 w3 d3 h3=>?_);unfold HS at h3;split at h3
  ·rename_i k1 kvs k e1 e2;obtain⟨p',iD,jK,pV,g',r1,r2,r3⟩:=sH w3 (d1.ext (x2.trans x3)) e1;cases jK;rw [FZ (d2.ext x3) e2];refine⟨jU iD k,mY.k r1,?_⟩;obtain⟨i1,i2⟩:=KR (k:=k) r2 r3;cases ev:iV kvs k with
   | none =>
    rw [ev]at h3;rw [i2 ev];exact h3 _ H3 G3 ι3 (Ext.refl _ _) w3 d3
   | some a =>
    rw [ev]at h3;obtain⟨v',v1,v2⟩:=i1 a ev;rw [v1];exact h3 _ H3 G3 ι3 (Ext.refl _ _) w3 v2
  ·exact False.elim h3
 ·exact False.elim h1
@[simp] def MA(o i v:A)(Ω:aI):Option aI:=match gO Ω o,lY i with
 | some (k,kvs),some key=>if kvs.length<sizeLine then some (Ω.set k (.aU (oP kvs key v)))else none
 | _,_=>none
@[simp] def xJ(fe fo fi:Ev→Mo A):MS:=fun ρ=>sM (fe ρ) ρ fun a=>sM (fo ρ) ρ fun o=>sM (fi ρ) ρ fun i Ω=>match MA o i a Ω with
 | some Ω'=>some (.nx,ρ,Ω')
 | none=>none
theorem RQ{pos':Pos}(hu:X.A.units+1<cLine)(ho:VE X W o fo)(hi:VE X W i fi)(he:VE X W e fe)(hs:swapsWith e (some (.Subscript o i pos')) pos.line X.env=pure false:=by rfl):VS X W (.Assign [.Subscript o i pos'] e pos) (xJ fe fo fi):=by
 obtain⟨t,p1,s1⟩:=ho;obtain⟨u,p2,s2⟩:=hi;obtain⟨u',p3,s3⟩:=he;refine⟨_,afB hu p1 p2 p3 hs,fun G ι Ω H σ ρ D w r h=>?_⟩;refine s3 G ι Ω H σ ρ _ w r (dU.sM h r fun z Ω1 v H1 G1 ι1 x1 w1 d1 h1=>?_);refine s1 G1 ι1 Ω1 H1 σ ρ _ w1 (r.ext x1) (dU.sM h1 (r.ext x1) fun x Ω2 vo H2 G2 ι2 x2 w2 d2 h2=>?_);refine s2 G2 ι2 Ω2 H2 σ ρ _ w2 ((r.ext x1).ext x2) (dU.sM h2 ((r.ext x1).ext x2) fun y Ω3 vi H3 G3 ι3 x3 w3 d3 h3=>?_);unfold MA at h3;split at h3
 ·rename_i Ω' e';split at e'
  ·rename_i k kvs key e1 e2;split at e'
   ·rename_i hl;cases e';obtain⟨p,ws,rfl,hk,g,q1,q2,q3⟩:=sH w3 (d2.ext x3) e1;rw [FZ d3 e2];have sA:ws.length=kvs.length:=by have:=congrArg List.length q2;simpa using this
    refine⟨p,_,rfl,AB.k q1 (by rw [sA];exact hl),?_⟩;exact qQ (w3.put (c := .aU (oP kvs key z)) hk g ⟨g,_,dR,aeT q2,aeU q2 q3 (d1.ext (x2.trans x3))⟩) (((r.ext x1).ext x2).ext x3) h3
   ·cases e'
  ·cases e'
 ·exact False.elim h3
@[simp] def CA(neg:Bool)(i o:A):Mo A:=fun Ω=>match gO Ω o,lY i with
 | some (_,kvs),some k=>some (.ok (.bl (if neg then !(iV kvs k).isSome else(iV kvs k).isSome)),Ω)
 | _,_=>none
theorem ac1{K:Frag}{neg:Bool}{ty td:TE}(h1:eQ K (Den K) W ty fi)(h2:eQ K (Den K) W td fo):eQ K (Den K) W (if neg then Ie ty td else Xx ty td) (aC (CA neg) fi fo):=by
 have key:∀G ι Ω H σ ρ (Q:VK),Wd K G ι Ω H→fW K G ι σ ρ→bF K (Den K) W G ι σ Q (aC (CA neg) fi fo ρ Ω)→ty σ H fun y H1=>td σ H1 fun x H2=>∃a o,x = .ref a∧mY H2 a y o∧Q (.bl (if neg then !o.isSome else o.isSome)) H2:=by
  intro G ι Ω H σ ρ Q w r h;refine h1 G ι Ω H σ ρ _ w r (bF.mb h fun y Ω1 v H1 G1 ι1 x1 w1 d1 tW=>?_);refine h2 G1 ι1 Ω1 H1 σ ρ _ w1 (r.ext x1) (bF.mb tW fun x Ω2 u H2 G2 ι2 x2 w2 d2 mT=>?_);unfold CA at mT;split at mT
  ·rename_i k0 kvs k e1 e2;obtain⟨p,ws,rfl,hk,g,q1,q2,q3⟩:=sH w2 d2 e1;rw [FZ (d1.ext x2) e2];refine⟨p,jU ws k,rfl,mY.k q1,?_⟩;have eq:(jU ws k).isSome=(iV kvs k).isSome:=by
    obtain⟨i1,i2⟩:=KR (k:=k) q2 q3;cases ev:iV kvs k with
    | none=>simp [i2 ev]
    | some a=>obtain⟨v',v1,_⟩:=i1 a ev;simp [v1]
   rw [eq];exact mT _ H2 G2 ι2 (Ext.refl _ _) w2 (by simp only [Den])
  ·exact False.elim mT
 cases neg with
 | true=>exact key
 | false=>exact key
theorem Vg(hu:X.A.units+1<cLine)(hi:VE X W i fi)(ho:VE X W o fo)(h1:behindInMarks .NotIn o=false:=by rfl):VT X W (.Compare i [.NotIn] [o] pos) (bJ (aC (CA true) fi fo)):=by
 obtain⟨t,p1,s1⟩:=hi;obtain⟨u,p2,s2⟩:=ho;exact⟨_,aeZ (agL hu p1 p2) h1,TL (ac1 (neg:=true) s1 s2)⟩
end
structure Sl(K:Frag)(rs ns:List Str):Prop where
 xc:∀n∈ns,∀D,nsIn K mainGlobals n=some (some (.ref D))→XC K D
 sub:∀n∈rs,∀m∈ns,∀D C,nsIn K mainGlobals n=some (some (.ref D))→nsIn K mainGlobals m=some (some (.ref C))→subIn K (.ref D) (.ref C)=some (n == m||m == ("RankError" : Str))
 ve:∀n∈rs,∀D,nsIn K mainGlobals n=some (some (.ref D))→subIn K (.ref D) (.type "ValueError")=some true
 rn:∀n∈rs,n∈ns
def Gf(rs ns:List Str)(n m:Str):Option Bool:=if n∈rs∧m∈ns then some (n == m||m == ("RankError" : Str))else none
theorem Sl.own{K:Frag}{rs ns:List Str}(T:Sl K rs ns)(n m:Str)(b:Bool)(D C:Addr)(h:Gf rs ns n m=some b)(hn:nsIn K mainGlobals n=some (some (.ref D)))(hm:nsIn K mainGlobals m=some (some (.ref C))):kitOne K (.ref D) (.ref C)=some b:=by
 unfold Gf at h;split at h
 ·rename_i q;cases h;exact ai6 (T.xc _ (T.rn _ q.1) _ hn) (T.xc _ q.2 _ hm) (T.sub _ q.1 _ q.2 _ _ hn hm)
 ·cases h
section
variable{X:Cx}{W:WX}{x y:Str}{e:Expr}{es:List Expr}{np jN pos yF:Pos}{fs:Ev→Mo (List A)}
@[simp] def cG(x:Str):Ev→Mo A:=fun _=>ret (.gl x)
end
end V2
namespace L2
open PySem PySem.Spec PyProof.Rows
theorem cE.pM{k:Nat}{A:Around}(r:cE k A):A.units+1<cLine:=by have:=r.units;omega
theorem nZ.oQ{X:Cx}(t:nZ X):nZ X.oQ:=⟨t.1,t.2,t.3⟩
end L2
namespace V2
open PySem PySem.Spec PyProof.Rows L2
section
variable{X:Cx}{W:WX}
theorem acO{ns ms:List Int}(p:ms.Perm ns)(h:ms.Pairwise (· ≥ ·)):ms=(sortI ns).reverse:=by
 have:=EO (ns:=ns) (ms:=ms.reverse) ((List.reverse_perm ms).trans p) (by rw [List.pairwise_reverse];exact h);rw [← this,List.reverse_reverse]
theorem afT{e:Expr}{te:TE}{np kp vp pos:Pos}{j:Nat}(hm:X.mg "sorted" = none)(hg:Gl X "sorted")(he:PE X e te)(hs:starEach [e] X.env=[(false,eval e X.env)]:=by rfl) :
  PE X (.Call (.Name "sorted" np) [e] [⟨some "reverse", .Constant (.bool true) j vp,kp⟩] pos) (fun σ H Q=>te σ H fun x H1=>∃a ns,x = .ref a∧eX X.K H1 a (ns.map V.int)∧ns.length<64∧∀l,H1 l=none→Q (.ref l) (upd H1 l (.lst ((sortI ns).reverse.map V.int)))):=by
 intro pins s σ H Q I h;refine uO (tL I hg hm IL ?_);refine callWith_kw (bA (vF he vE hs pos pins s σ H (fun vs H1=>match vs with
  | [x]=>∃a ns,x=V.ref a∧eX X.K H1 a (ns.map V.int)∧ns.length<64∧∀l,H1 l=none→Q (.ref l) (upd H1 l (.lst ((sortI ns).reverse.map V.int)))
  | _=>False) I h) fun us s1 ⟨vs,H1,I1,r1,q1⟩=>?_) (by rw [hs];rfl) (by rw [hs];rfl)
 match vs,q1 with
 | [x],q1 =>
 obtain⟨a,ns,e1,hq,nU,q⟩:=q1;obtain⟨u,rfl,ru⟩:=vals1 r1;subst e1;cases ru;obtain⟨aL,rv,pl,hz⟩:=I1.list hq;have hI:IntsAre aL ns:=intsAre_of rv;have hl:aL.length=ns.length:=by rw [← rv.length,eG]
 refine kws_cons ?_;refine aS ?_;refine kws_nil ?_;show wpAny _ _ (call (.builtin "sorted") [.ref a] [(Str.ofString "reverse",.bool true)]) _ _ s1;refine sorted_ints_rev pl.isList hI (by omega) fun out BD a1 a2 a3=>?_;obtain⟨e,he⟩:=sortedAll_at s1.heap aL out;have hn:=acO a2 (by simpa [Ordered]using a3);subst hn;refine⟨.ref (s1.heap.objs.size+1),_,I1.laid (t':=s1.toks) (o := .lst ((sortI ns).reverse.map V.int)) (fun b o q=>sortedAll_old q) (qE _) ?_,rfl,q _ (I1.aH.fresh (qE _))⟩;exact⟨by rw [eG,List.length_reverse,ER,kJ];omega,out.toList,e,RU a1,he⟩
@[simp] def Hi(c:Bool)(f:Ev→Mo A):Ev→Mo A:=fun ρ=>mb (f ρ) fun a Ω=>match (dF Ω a).bind intsOf with
 | some ns=>if ns.length<64 then iR c ((sortI ns).reverse.map A.int) Ω else none
 | none=>none
theorem Vk{e:Expr}{f:Ev→Mo A}{np kp vp pos:Pos}{j:Nat}(c:Bool)(hm:X.mg "sorted" = none)(hg:Gl X "sorted")(he:VE X W e f)(hs:starEach [e] X.env=[(false,eval e X.env)]:=by rfl) :
  VE X W (.Call (.Name "sorted" np) [e] [⟨some "reverse", .Constant (.bool true) j vp,kp⟩] pos) (Hi c f):=by
 obtain⟨t,p,s⟩:=he;refine⟨_,afT hm hg p hs,fun G ι Ω H σ ρ Q w r h=>?_⟩;refine s G ι Ω H σ ρ _ w r (bF.mb h fun a Ω1 v H1 G1 ι1 x1 w1 d1 h1=>?_);split at h1
 ·rename_i ns e;split at h1
  ·rename_i nU;rw [sO]at e;obtain⟨ds,e1,e2⟩:=e;obtain⟨q,ys,rfl,h3,h4⟩:=pS w1 d1 e1;rw [yA e2 h4]at h3;exact⟨q,ns,rfl,h3,nU,fun l hl=>nT w1 hl (ID _) h1⟩
  ·exact False.elim h1
 ·exact False.elim h1
end
end V2
namespace KS
open PySem PySem.W PyProof.Rows
def go{α:Type}(lt:Nat→Nat→Bool):KasT α→α
 | .ret a=>a
 | .ask i j k=>go lt (k (lt i j))
theorem sE{α β:Type}(lt:Nat→Nat→Bool)(f:α→KasT β):∀t:KasT α,go lt (t.bind f)=go lt (f (go lt t))
 | .ret _=>rfl
 | .ask i j k=>by
  show go lt ((k (lt i j)).bind f)=_;rw [sE lt f (k (lt i j))];rfl
section
variable(r:Nat→Int)
abbrev qT:Nat→Nat→Bool:=fun i j=>decide (r i<r j)
def Ky(p:Array Nat)(i:Nat):Int:=r (p.getD i 0)
def Up(p:Array Nat)(k:Nat):Prop:=∀i j,i≤j→j<k→Ky r p i≤Ky r p j
def Dn(p:Array Nat)(k:Nat):Prop:=∀i j,i≤j→j<k→Ky r p j≤Ky r p i
variable{r}
theorem getD_eq{p q:Array Nat}{i j:Nat}(h:p[i]? = q[j]?):p.getD i 0=q.getD j 0:=by
 simp [Ge,h]
theorem FR{p q:Array Nat}{i j:Nat}(h:Ky r p i<Ky r q j):qT r (p.getD i 0) (q.getD j 0)=true:=zB h
theorem FT{p q:Array Nat}{i j:Nat}(h:¬Ky r p i<Ky r q j):qT r (p.getD i 0) (q.getD j 0)=false:=nJ h
theorem WU{p:Array Nat}{i j:Nat}(hj:j≤p.size)(k:Nat):Ky r (kas_rev p i j) k=if i≤k∧k<j then Ky r p (i+j - 1 - k)else Ky r p k:=by
 have h:=getElem?_mirror_all (i:=i) hj k;unfold Ky kas_rev;split
 ·rename_i c;rw [if_pos c]at h;rw [getD_eq h]
 ·rename_i c;rw [if_neg c]at h;rw [getD_eq h]
theorem WT{p:Array Nat}{i j:Nat}(hj:j≤p.size)(e:∀k,i≤k→k<j→Ky r p k=Ky r p (j - 1))(k:Nat):Ky r (kas_rev p i j) k=Ky r p k:=by
 rw [WU hj];split
 ·rename_i c;rw [e _ (by omega) (by omega),e k c.1 c.2]
 ·rfl
theorem xK(p:Array Nat)(i j:Nat):(kas_rev p i j).size=p.size:=mirror_size _ _ _ _
theorem MI(p:Array Nat)(i j:Nat):(kas_rev p i j).Perm p:=mirror_perm _ _ _ _
theorem Wc{p:Array Nat}{n:Nat}(h1:1≤n)(h:Up r p n)(hn:Ky r p (n - 1)≤Ky r p n):Up r p (n+1):=by
 intro i j kX hj
 by_cases e:j=n
 ·subst e
  by_cases e2:i=j
  ·subst e2;exact zS _
  ·exact Int.le_trans (h i (j - 1) (by omega) (by omega)) hn
 ·exact h i j kX (by omega)
theorem OR{p:Array Nat}{n:Nat}(h1:1≤n)(h:Dn r p n)(hn:Ky r p n≤Ky r p (n - 1)):Dn r p (n+1):=by
 intro i j kX hj
 by_cases e:j=n
 ·subst e
  by_cases e2:i=j
  ·subst e2;exact zS _
  ·exact Int.le_trans hn (h i (j - 1) (by omega) (by omega))
 ·exact h i j kX (by omega)
theorem asc{p:Array Nat}:∀(f n:Nat),1≤n→Up r p n→∃m,go (qT r) (kas_asc p f n)=m∧n≤m∧m≤n+f∧Up r p m∧(m<n+f→Ky r p m<Ky r p (m - 1))
 | 0,n,_,h=>⟨n,rfl,oB _,oB _,h,fun z=>by omega⟩
 | f+1,n,h1,h=>by
  by_cases c:Ky r p n<Ky r p (n - 1)
  ·refine⟨n,?_,oB _,by omega,h,fun _=>c⟩;have c':=FR c;simp only [kas_asc,go,c',jI]
  ·obtain⟨m,e,a,b,u,l⟩:=asc f (n+1) (by omega) (Wc h1 h (by omega));refine⟨m,?_,by omega,by omega,u,fun z=>l (by omega)⟩;rw [← e];have c':=FT c;simp only [kas_asc,go,c',sT,iX]
theorem desc:∀(f:Nat) (p:Array Nat) (n q:Nat),q+1≤n→n+f≤p.size→Dn r p n→(∀k,n - (q+1)≤k→k<n→Ky r p k=Ky r p (n - 1)) →
  ∃p' m q',go (qT r) (kas_desc f p n q)=(p',m,q')∧n≤m∧m≤n+f∧q'+1≤m∧p'.size=p.size∧p'.Perm p∧(∀k,Ky r p' k=Ky r p k)∧Dn r p' m∧(∀k,m - (q'+1)≤k→k<m→Ky r p' k=Ky r p' (m - 1))
 | 0,p,n,q,hq,_,hd,he=>⟨p,n,q,rfl,oB _,oB _,hq,rfl,.refl _,fun _=>rfl,hd,he⟩
 | f+1,p,n,q,hq,hz,hd,he=>by
  by_cases c:Ky r p n<Ky r p (n - 1)
  ·have c':=FR c;have Nw:Dn r p (n+1):=OR (by omega) hd (by omega)
   by_cases q0:q>0
   ·have ek:∀k,Ky r (kas_rev p (n - (q+1)) n) k=Ky r p k:=WT (by omega) he;have hd2:Dn r (kas_rev p (n - (q+1)) n) (n+1):=fun i j a b=>by rw [ek,ek];exact Nw i j a b
    obtain⟨p',m,q',e,a1,a2,a3,a4,a5,a6,a7,a8⟩:=desc f (kas_rev p (n - (q+1)) n) (n+1) 0 (by omega) (by rw [xK];omega) hd2 (fun k k1 k2=>by
     have:k=n+1 - 1:=by omega
     rw [this])
    refine⟨p',m,q',?_,by omega,by omega,a3,by rw [a4,xK],a5.trans (MI _ _ _),fun k=>by rw [a6,ek],a7,a8⟩;rw [← e];simp only [kas_desc,go,c',jI,q0]
   ·obtain⟨p',m,q',e,a1,a2,a3,a4,a5,a6,a7,a8⟩:=desc f p (n+1) 0 (by omega) (by omega) Nw (fun k k1 k2=>by
     have:k=n+1 - 1:=by omega
     rw [this])
    refine⟨p',m,q',?_,by omega,by omega,a3,a4,a5,a6,a7,a8⟩;rw [← e];simp only [kas_desc,go,c',jI,q0,iX]
  ·have c':=FT c
   by_cases d:Ky r p (n - 1)<Ky r p n
   ·have d':=FR d;refine⟨p,n,q,?_,oB _,by omega,hq,rfl,.refl _,fun _=>rfl,hd,he⟩;simp only [kas_desc,go,c',d',sT,jI,iX]
   ·have d':=FT d;have eq:Ky r p n=Ky r p (n - 1):=by omega
    obtain⟨p',m,q',e,a1,a2,a3,a4,a5,a6,a7,a8⟩:=desc f p (n+1) (q+1) (by omega) (by omega) (OR (by omega) hd (by omega)) (fun k k1 k2=>by
     rw [show n+1 - 1=n by omega]
     by_cases z:k=n
     ·rw [z]
     ·rw [he k (by omega) (by omega),eq])
    refine⟨p',m,q',?_,by omega,by omega,a3,a4,a5,a6,a7,a8⟩;rw [← e];simp only [kas_desc,go,c',d',sT,iX]
theorem We{p:Array Nat}{n:Nat}(hn:n≤p.size)(h:Dn r p n):Up r (kas_rev p 0 n) n:=by
 intro i j kX hj;rw [WU hn,WU hn,if_pos ⟨by omega,by omega⟩,if_pos ⟨by omega,hj⟩];exact h _ _ (by omega) (by omega)
theorem tail3{p:Array Nat}{n nrem:Nat}(h1:1≤n)(hn:n≤nrem)(hz:nrem≤p.size)(h:Dn r p n):∃m p',go (qT r) (kas_tail3 n nrem p)=(m,p')∧1≤m∧m≤nrem∧p'.size=p.size∧p'.Perm p∧Up r p' m:=by
 obtain⟨m,e,a,b,u,_⟩:=asc (r:=r) (nrem - n) n h1 (We (by omega) h);refine⟨m,kas_rev p 0 n,?_,by omega,by omega,xK _ _ _,MI _ _ _,u⟩;unfold kas_tail3;rw [sE,e];rfl
theorem descPart{p:Array Nat}{n nrem:Nat}(h1:1≤n)(hn:n+1≤nrem)(hz:nrem≤p.size)(h:Dn r p (n+1)):∃m p',go (qT r) (kas_descPart n nrem p)=(m,p')∧1≤m∧m≤nrem∧p'.size=p.size∧p'.Perm p∧Up r p' m:=by
 obtain⟨p1,m1,q1,e,a1,a2,a3,a4,a5,a6,a7,a8⟩:=desc (r:=r) (nrem - (n+1)) p (n+1) 0 (by omega) (by omega) h (fun k k1 k2=>by
  have:k=n+1 - 1:=by omega
  rw [this])
 by_cases q0:q1>0
 ·have ek:∀k,Ky r (kas_rev p1 (m1 - (q1+1)) m1) k=Ky r p1 k:=WT (by omega) a8;obtain⟨m,p',e2,b1,b2,b3,b4,b5⟩:=tail3 (p:=kas_rev p1 (m1 - (q1+1)) m1) (n:=m1) (nrem:=nrem) (r:=r) (by omega) (by omega) (by rw [xK];omega) (fun i j x y=>by rw [ek,ek];exact a7 i j x y);refine⟨m,p',?_,b1,b2,by rw [b3,xK,a4],b4.trans ((MI _ _ _).trans a5),b5⟩;unfold kas_descPart;rw [sE,e];simp only [q0,jI];exact e2
 ·obtain⟨m,p',e2,b1,b2,b3,b4,b5⟩:=tail3 (p:=p1) (n:=m1) (nrem:=nrem) (r:=r) (by omega) (by omega) (by omega) a7;refine⟨m,p',?_,b1,b2,by rw [b3,a4],b4.trans a5,b5⟩;unfold kas_descPart;rw [sE,e];simp only [q0,iX];exact e2
theorem count{p:Array Nat}{nrem:Nat}(h1:1≤nrem)(hz:nrem≤p.size):∃m p',go (qT r) (kas_count nrem p)=(m,p')∧1≤m∧m≤nrem∧p'.size=p.size∧p'.Perm p∧Up r p' m:=by
 obtain⟨n,e,a,b,u,l⟩:=asc (r:=r) (p:=p) (nrem - 1) 1 bP (fun i j x y=>by
  have:i=j:=by omega
  rw [this];exact zS _)
 unfold kas_count;rw [sE,e]
 by_cases c1:n=nrem
 ·subst c1;refine⟨n,p,by simp [go],a,oB _,rfl,.refl _,u⟩
 ·have c1':(n == nrem)=false:=by simpa using c1
  have lt:=l (by omega);simp only [c1',sT,iX]
  by_cases c2:n>1
  ·simp only [c2,jI,go]
   by_cases c3:Ky r p 0<Ky r p (n - 1)
   ·have Cq:=FR c3;simp only [Cq,jI,go];exact⟨n,p,rfl,a,by omega,rfl,.refl _,u⟩
   ·have Cq:=FT c3;simp only [Cq,sT,iX];have eqs:∀k,k<n→Ky r p k=Ky r p (n - 1):=fun k hk=>by
     have x:=u 0 k (by omega) hk;have y:=u k (n - 1) (by omega) (by omega);omega
    have ek:∀k,Ky r (kas_rev p 0 n) k=Ky r p k:=WT (by omega) fun k _ hk=>eqs k hk;obtain⟨m,p',e2,b1,b2,b3,b4,b5⟩:=descPart (r:=r) (p:=kas_rev p 0 n) (n:=n) (nrem:=nrem) (by omega) (by omega) (by rw [xK];omega) (OR (by omega) (fun i j x y=>by rw [ek,ek,eqs i (by omega),eqs j y];exact zS _) (by rw [ek,ek];omega));exact⟨m,p',e2,b1,b2,by rw [b3,xK],b4.trans (MI _ _ _),b5⟩
  ·simp only [c2,iX];have n1:n=1:=by omega
   subst n1;exact descPart bP (by omega) hz (OR bP (fun i j x y=>by
    have:i=j:=by omega
    rw [this];exact zS _) (by omega))
theorem place{p:Array Nat}{k:Nat}(hu:Up r p k):∀(f l t:Nat),l≤t→t≤k→t - l≤f→(∀i,i<l→Ky r p i≤Ky r p k)→(∀i,t≤i→i<k→Ky r p k<Ky r p i) →
  ∃m,go (qT r) (kas_place p k f l t)=m∧m≤k∧(∀i,i<m→Ky r p i≤Ky r p k)∧(∀i,m≤i→i<k→Ky r p k<Ky r p i)
 | 0,l,t,h1,h2,h3,h4,h5=>⟨l,rfl,by omega,h4,fun i a b=>h5 i (by omega) b⟩
 | f+1,l,t,h1,h2,h3,h4,h5=>by
  by_cases c:l≥t
  ·exact⟨l,by simp only [kas_place,c,jI,go],by omega,h4,fun i a b=>h5 i (by omega) b⟩
  ·by_cases d:Ky r p k<Ky r p ((l+t)/2)
   ·have d':=FR d;obtain⟨m,e,a1,a2,a3⟩:=place hu f l ((l+t)/2) (by omega) (by omega) (by omega) h4 (fun i a b=>by
     have:=hu ((l+t)/2) i a b;omega)
    refine⟨m,?_,a1,a2,a3⟩;rw [← e];simp only [kas_place,c,iX,go,d',jI]
   ·have d':=FT d;obtain⟨m,e,a1,a2,a3⟩:=place hu f ((l+t)/2+1) t (by omega) h2 (by omega) (fun i a=>by
     have:=hu i ((l+t)/2) (by omega) (by omega);omega) h5
    refine⟨m,?_,a1,a2,a3⟩;rw [← e];simp only [kas_place,c,iX,go,d',sT]
theorem Mg{p:Array Nat}{k d:Nat}(hs:k<p.size)(hd:d≤k)(i:Nat):Ky r (bubble p k d) i=if i=k - d then Ky r p k else if k - d<i∧i≤k then Ky r p (i - 1)else Ky r p i:=by
 have h:=getElem?_bubble hs d hd i
 by_cases c:i=k - d
 ·rw [if_pos c]at h ⊢;exact congrArg r (getD_eq h)
 ·rw [if_neg c]at h ⊢
  by_cases c2:k - d<i∧i≤k
  ·rw [if_pos c2]at h ⊢;exact congrArg r (getD_eq h)
  ·rw [if_neg c2]at h ⊢;exact congrArg r (getD_eq h)
theorem bin:∀(f:Nat) (p:Array Nat) (k:Nat),k+f≤p.size→Up r p k→∃p',go (qT r) (kas_bin f p k)=p'∧p'.size=p.size∧p'.Perm p∧Up r p' (k+f)
 | 0,p,k,_,h=>⟨p,rfl,rfl,.refl _,h⟩
 | f+1,p,k,hz,h=>by
  obtain⟨m,e,a1,a2,a3⟩:=place h k 0 k (by omega) bP (by omega) (fun i z=>by omega) (fun i a b=>by omega);have hu:Up r (bubble p k (k - m)) (k+1):=by
   intro i j kX hj;rw [Mg (by omega) (by omega),Mg (by omega) (by omega)];have e1:k - (k - m)=m:=by omega
   rw [e1]
   by_cases ci:i=m
   ·rw [if_pos ci]
    by_cases cj:j=m
    ·rw [if_pos cj];exact zS _
    ·rw [if_neg cj,if_pos ⟨by omega,by omega⟩];exact Int.le_of_lt (a3 (j - 1) (by omega) (by omega))
   ·rw [if_neg ci]
    by_cases Qy:m<i∧i≤k
    ·rw [if_pos Qy,if_neg (by omega),if_pos ⟨by omega,by omega⟩];exact h _ _ (by omega) (by omega)
    ·rw [if_neg Qy]
     by_cases cj:j=m
     ·rw [if_pos cj];exact a2 i (by omega)
     ·rw [if_neg cj]
      by_cases Qx:m<j∧j≤k
      ·rw [if_pos Qx];exact h _ _ (by omega) (by omega)
      ·rw [if_neg Qx];exact h _ _ kX (by omega)
  obtain⟨p',e2,b1,b2,b3⟩:=bin f (bubble p k (k - m)) (k+1) (by rw [bubble_size];omega) hu;refine⟨p',?_,by rw [b1,bubble_size],b2.trans (bubble_perm _ _ _),by rw [show k+(f+1)=k+1+f by omega];exact b3⟩;rw [← e2];simp only [kas_bin,sE,e]
theorem sorts{n:Nat}(h1:1≤n):∃p,go (qT r) (kas_sort n)=p∧p.size=n∧p.toList.Perm (List.range n)∧Up r p n:=by
 obtain⟨m,p,e,a1,a2,a3,a4,a5⟩:=count (r:=r) (p:=List.toArray (List.range n)) (nrem:=n) h1 (by simp);have sz:(List.toArray (List.range n)).size=n:=by simp
 rw [sz]at a3;have pr:p.toList.Perm (List.range n):=by have:=Array.perm_iff_toList_perm.mp a4;simpa using this
 unfold kas_sort;rw [sE,e]
 by_cases c:m<n
 ·simp only [c,jI];obtain⟨p',e2,b1,b2,b3⟩:=bin (r:=r) (n - max m 1) p (max m 1) (by omega) (by rw [show max m 1=m by omega];exact a5);refine⟨p',e2,by omega,(Array.perm_iff_toList_perm.mp b2).trans pr,?_⟩;rw [show max m 1+(n - max m 1)=n by omega]at b3;exact b3
 ·simp only [c,iX];have:m=n:=by omega
  subst this;exact⟨p,rfl,a3,pr,a5⟩
end
def reach{α:Type}(lt:Nat→Nat→Bool)(N:Nat):KasT α→Prop
 | .ret _=>True
 | .ask i j k=>i<N∧j<N∧reach lt N (k (lt i j))
theorem rP{α β:Type}{lt:Nat→Nat→Bool}{N:Nat}{f:α→KasT β}:∀{t:KasT α},reach lt N t→reach lt N (f (go lt t))→reach lt N (t.bind f)
 | .ret _,_,h=>h
 | .ask _ _ _,h1,h2=>⟨h1.1,h1.2.1,rP h1.2.2 h2⟩
theorem Gi{α:Type}{cmp:Nat→Nat→(Bool→Shared→Prop)→Shared→Prop}{lt:Nat→Nat→Bool}{N:Nat}{s:Shared}(hc:∀i j C,i<N→j<N→C (lt i j) s→cmp i j C s){Q:α→Shared→Prop}:∀(t:KasT α),reach lt N t→Q (go lt t) s→t.kasWp cmp Q s
 | .ret _,_,h=>h
 | .ask i j k,hr,h=>hc i j _ hr.1 hr.2.1 (Gi hc (k (lt i j)) hr.2.2 h)
def Bd(N:Nat)(p:Array Nat):Prop:=0<N∧∀x∈p,x<N
section
variable{lt:Nat→Nat→Bool}{N:Nat}
theorem Bd.get{p:Array Nat}(h:Bd N p)(i:Nat):p.getD i 0<N:=by
 rw [Ge];cases e:p[i]? with
 | none=>exact h.1
 | some x=>exact h.2 x (Array.mem_of_getElem? e)
theorem Bd.perm{p q:Array Nat}(h:Bd N p)(e:q.Perm p):Bd N q:=⟨h.1,fun x hx=>h.2 x (e.mem_iff.mp hx)⟩
theorem Bd.rev{p:Array Nat}(h:Bd N p)(i j:Nat):Bd N (kas_rev p i j):=h.perm (mirror_perm _ _ _ _)
theorem VJ{p:Array Nat}(h:Bd N p):∀f n,reach lt N (kas_asc p f n)
 | 0,_=>trivial
 | f+1,n=>by
  refine⟨h.get _,h.get _,?_⟩;dsimp only;split
  ·trivial
  ·exact VJ h f (n+1)
theorem MK:∀(f:Nat) (p:Array Nat) (n q:Nat),Bd N p→reach lt N (kas_desc f p n q)∧Bd N (go lt (kas_desc f p n q)).1
 | 0,p,_,_,h=>⟨trivial,h⟩
 | f+1,p,n,q,h=>by
  have g:go lt (kas_desc (f+1) p n q)=go lt (if lt (p.getD n 0) (p.getD (n - 1) 0)=true then(if q>0 then kas_desc f (kas_rev p (n - (q+1)) n) (n+1) 0 else kas_desc f p (n+1) 0)else .ask (p.getD (n - 1) 0) (p.getD n 0) fun d=>if d=true then .ret (p,n,q)else kas_desc f p (n+1) (q+1)):=rfl;rw [g];show(_∧_∧reach lt N (if lt (p.getD n 0) (p.getD (n - 1) 0)=true then(if q>0 then kas_desc f (kas_rev p (n - (q+1)) n) (n+1) 0 else kas_desc f p (n+1) 0)else .ask (p.getD (n - 1) 0) (p.getD n 0) fun d=>if d=true then .ret (p,n,q)else kas_desc f p (n+1) (q+1)))∧_
  by_cases c:lt (p.getD n 0) (p.getD (n - 1) 0)=true
  ·rw [if_pos c]
   by_cases q0:q>0
   ·rw [if_pos q0];have ih:=MK f (kas_rev p (n - (q+1)) n) (n+1) 0 (h.rev _ _);exact⟨⟨h.get _,h.get _,ih.1⟩,ih.2⟩
   ·rw [if_neg q0];have ih:=MK f p (n+1) 0 h;exact⟨⟨h.get _,h.get _,ih.1⟩,ih.2⟩
  ·rw [if_neg c];have g2:go lt (.ask (p.getD (n - 1) 0) (p.getD n 0) fun d=>if d=true then .ret (p,n,q)else kas_desc f p (n+1) (q+1))=go lt (if lt (p.getD (n - 1) 0) (p.getD n 0)=true then KasT.ret (p,n,q)else kas_desc f p (n+1) (q+1)):=rfl;rw [g2];show(_∧_∧_∧_∧reach lt N (if lt (p.getD (n - 1) 0) (p.getD n 0)=true then KasT.ret (p,n,q)else kas_desc f p (n+1) (q+1)))∧_
   by_cases d:lt (p.getD (n - 1) 0) (p.getD n 0)=true
   ·rw [if_pos d];exact⟨⟨h.get _,h.get _,h.get _,h.get _,trivial⟩,h⟩
   ·rw [if_neg d];have ih:=MK f p (n+1) (q+1) h;exact⟨⟨h.get _,h.get _,h.get _,h.get _,ih.1⟩,ih.2⟩
theorem Jt{p:Array Nat}(h:Bd N p)(n nrem:Nat):reach lt N (kas_tail3 n nrem p)∧Bd N (go lt (kas_tail3 n nrem p)).2:=by
 unfold kas_tail3;refine⟨rP (VJ (h.rev _ _) _ _) trivial,?_⟩;rw [sE];exact h.rev _ _
theorem Jv{p:Array Nat}(h:Bd N p)(n nrem:Nat):reach lt N (kas_descPart n nrem p)∧Bd N (go lt (kas_descPart n nrem p)).2:=by
 obtain⟨a,b⟩:=MK (lt:=lt) (nrem - (n+1)) p (n+1) 0 h;unfold kas_descPart;rw [sE]
 by_cases c:(go lt (kas_desc (nrem - (n+1)) p (n+1) 0)).2.2>0
 ·have t:=Jt (lt:=lt) (b.rev ((go lt (kas_desc (nrem - (n+1)) p (n+1) 0)).2.1 - ((go lt (kas_desc (nrem - (n+1)) p (n+1) 0)).2.2+1)) (go lt (kas_desc (nrem - (n+1)) p (n+1) 0)).2.1) (go lt (kas_desc (nrem - (n+1)) p (n+1) 0)).2.1 nrem;refine⟨rP a ?_,?_⟩
  ·rw [if_pos c];exact t.1
  ·rw [if_pos c];exact t.2
 ·have t:=Jt (lt:=lt) b (go lt (kas_desc (nrem - (n+1)) p (n+1) 0)).2.1 nrem;refine⟨rP a ?_,?_⟩
  ·rw [if_neg c];exact t.1
  ·rw [if_neg c];exact t.2
theorem ad5{p:Array Nat}(h:Bd N p)(nrem:Nat):reach lt N (kas_count nrem p)∧Bd N (go lt (kas_count nrem p)).2:=by
 unfold kas_count;rw [sE];have a:=VJ (lt:=lt) h (nrem - 1) 1;generalize hn:go lt (kas_asc p (nrem - 1) 1)=n
 by_cases c1:(n == nrem)=true
 ·rw [if_pos c1];refine⟨rP a ?_,h⟩;rw [hn,if_pos c1];trivial
 ·rw [if_neg c1]
  by_cases c2:n>1
  ·rw [if_pos c2];have g:go lt (.ask (p.getD 0 0) (p.getD (n - 1) 0) fun c=>if c=true then .ret (n,p)else kas_descPart n nrem (kas_rev p 0 n))=go lt (if lt (p.getD 0 0) (p.getD (n - 1) 0)=true then .ret (n,p)else kas_descPart n nrem (kas_rev p 0 n)):=rfl;rw [g]
   by_cases c3:lt (p.getD 0 0) (p.getD (n - 1) 0)=true
   ·rw [if_pos c3];refine⟨rP a ?_,h⟩;rw [hn,if_neg c1,if_pos c2];refine⟨h.get _,h.get _,?_⟩;dsimp only;rw [if_pos c3];trivial
   ·rw [if_neg c3];have t:=Jv (lt:=lt) (h.rev 0 n) n nrem;refine⟨rP a ?_,t.2⟩;rw [hn,if_neg c1,if_pos c2];refine⟨h.get _,h.get _,?_⟩;dsimp only;rw [if_neg c3];exact t.1
  ·rw [if_neg c2];have t:=Jv (lt:=lt) h n nrem;refine⟨rP a ?_,t.2⟩;rw [hn,if_neg c1,if_neg c2];exact t.1
theorem VH{p:Array Nat}(h:Bd N p)(k:Nat):∀f l t,reach lt N (kas_place p k f l t)
 | 0,_,_=>trivial
 | f+1,l,t=>by
  unfold kas_place;split
  ·trivial
  ·refine⟨h.get _,h.get _,?_⟩;dsimp only;split
   ·exact VH h k f _ _
   ·exact VH h k f _ _
theorem Jw:∀(f:Nat) (p:Array Nat) (k:Nat),Bd N p→reach lt N (kas_bin f p k)
 | 0,_,_,_=>trivial
 | f+1,p,k,h=>rP (VH h k _ _ _) (Jw f _ _ (h.perm (bubble_perm _ _ _)))
theorem Ju{n:Nat}(h:0<n):reach lt n (kas_sort n):=by
 have b:Bd n (List.toArray (List.range n)):=⟨h,fun x hx=>by simpa using hx⟩;obtain⟨a1,a2⟩:=ad5 (lt:=lt) b n;unfold kas_sort;refine rP a1 ?_;split
 ·exact Jw _ _ _ a2
 ·trivial
end
def cU:List Int→List Int→Bool
 | [],[]=>false
 | [],_::_=>true
 | _::_,[]=>false
 | a::as,b::bs=>if a=b then cU as bs else decide (a<b)
theorem WO:∀a,cU a a=false
 | []=>rfl
 | a::as=>by simp [cU,WO as]
theorem FX:∀{a b c:List Int},cU a b=true→cU b c=true→cU a c=true
 | [],[],_,h,_=>by simp [cU]at h
 | [],_::_,[],_,h=>by simp [cU]at h
 | [],_::_,_::_,_,_=>rfl
 | _::_,[],_,h,_=>by simp [cU]at h
 | _::_,_::_,[],_,h=>by simp [cU]at h
 | a::as,b::bs,c::cs,h1,h2=>by
  simp only [cU]at h1 h2 ⊢
  by_cases e1:a=b
  ·subst e1
   by_cases e2:a=c
   ·subst e2;simp only [jI]at h1 h2 ⊢;exact FX h1 h2
   ·simp only [jI,e2,iX]at h1 h2 ⊢;exact h2
  ·by_cases e2:b=c
   ·subst e2;simp only [e1,iX]at h1 ⊢;exact h1
   ·simp only [e1,e2,iX,CI]at h1 h2;have e3:¬a=c:=by omega
    simp only [e3,iX,CI];omega
theorem NB:∀{a b:List Int},cU a b=false→cU b a=false→a=b
 | [],[],_,_=>rfl
 | [],_::_,h,_=>by simp [cU]at h
 | _::_,[],_,h=>by simp [cU]at h
 | a::as,b::bs,h1,h2=>by
  simp only [cU]at h1 h2
  by_cases e:a=b
  ·subst e;simp only [jI]at h1 h2;rw [NB h1 h2]
  ·have e':¬b=a:=fun z=>e z.symm;simp only [e,e',iX,decide_eq_false_iff_not]at h1 h2;omega
def FA(ts:List (List Int))(t:List Int):Int:=((ts.filter fun x=>cU x t).length:Int)
theorem Br{α:Type}{p q:α→Bool}(h:∀x,p x=true→q x=true):∀l:List α,(l.filter p).length≤(l.filter q).length
 | []=>oB _
 | x::l=>by
  have ih:=Br h l
  by_cases hp:p x=true
  ·simp [hp,h x hp,ih]
  ·by_cases hq:q x=true
   ·simp [hp,hq];omega
   ·simp [hp,hq,ih]
theorem Pd{α:Type}{p q:α→Bool}(h:∀x,p x=true→q x=true):∀(l:List α) (y:α),y∈l→p y=false→q y=true→(l.filter p).length<(l.filter q).length
 | [],_,hy,_,_=>by cases hy
 | x::l,y,hy,hp,hq=>by
  have le:=Br h l
  rcases eN.mp hy with e | e
  ·subst e;simp [hp,hq];omega
  ·have ih:=Pd h l y e hp hq
   by_cases hx:p x=true
   ·simp [hx,h x hx,ih]
   ·by_cases Mv:q x=true
    ·simp [hx,Mv];omega
    ·simp [hx,Mv,ih]
theorem Js{ts:List (List Int)}{a b:List Int}(ha:a∈ts):FA ts a<FA ts b↔cU a b=true:=by
 unfold FA;constructor
 ·intro h
  by_cases c:cU a b=true
  ·exact c
  ·exfalso;have c':cU a b=false:=by simpa using c
   have:(ts.filter fun x=>cU x b).length≤(ts.filter fun x=>cU x a).length:=Br (fun x hx=>by
    by_cases d:cU b a=true
    ·exact FX hx d
    ·have e:=NB c' (by simpa using d);rw [e];exact hx) ts
   omega
 ·intro h;have:=Pd (p:=fun x=>cU x a) (q:=fun x=>cU x b) (fun x hx=>FX hx h) ts a ha (WO a) h;omega
section
variable{prog:Program}{w:World}{A:Around}{E:Value→Shared→Prop}{s:Shared}
theorem Lx{Q:Bool→Shared→Prop}:∀{xs ys:List Value} {ns ms:List Int} (i:Nat) (fin:Bool),IntsAre xs ns→IntsAre ys ms→fin=decide (ns.length<ms.length)→Q (cU ns ms) s→KatLex prog w A true fin Q (xs.zip ys) i s
 | [],[],_,_,i,fin,.nil,.nil,hf,h=>by subst hf;exact kat_nil (by simpa [cU]using h)
 | [],_::_,_,_,i,fin,.nil,.cons m u k,hf,h=>by subst hf;exact kat_nil (by simpa [cU]using h)
 | _::_,[],_,_,i,fin,.cons n t h1,.nil,hf,h=>by subst hf;exact kat_nil (by simpa [cU]using h)
 | _::_,_::_,_,_,i,fin,.cons n t h1,.cons m u h2,hf,h=>by
  rw [List.zip_cons_cons];refine kat_cons (wpAny_eqBool_int ?_)
  by_cases e:n=m
  ·subst e;rw [show(n == n)=true by simp];exact kat_yes (Lx (i+1) fin h1 h2 (by rw [hf];simp) (by simpa [cU]using h))
  ·rw [show(n == m)=false by simpa using e];refine kat_no ?_;have h':Q (decide (n<m)) s:=by simpa [cU,e]using h
   by_cases hi:i=0
   ·subst hi;exact oneLt_int h'
   ·rw [show(true&&i == 0)=false by simpa using hi];exact kat_one _ _ (lt_int h')
end
def TupAt(h:Heap)(v:Value)(ns:List Int):Prop:=∃a o xs n,v = .ref a∧h.get? a=some o∧o.cls = .type "tuple"∧o.data = .seq xs n∧IntsAre xs.toList ns
def lB(h:Heap):List Value→List (List Int)→Prop
 | [],[]=>True
 | v::vs,t::ts=>TupAt h v t∧lB h vs ts
 | _,_=>False
theorem lB.len{h:Heap}:∀{vs:List Value} {ts:List (List Int)},lB h vs ts→vs.length=ts.length
 | [],[],_=>rfl
 | _::_,_::_,t=>by simp [lB.len t.2]
 | [],_::_,t=>t.elim
 | _::_,[],t=>t.elim
theorem lB.get{h:Heap}:∀{vs:List Value} {ts:List (List Int)},lB h vs ts→∀i,i<ts.length→TupAt h (vs.getD i .none) (ts.getD i [])
 | [],[],_,i,hi=>by simp at hi
 | _::_,_::_,t,0,_=>t.1
 | _::_,_::_,t,i+1,hi=>by simpa using lB.get t.2 i (by simpa using hi)
 | [],_::_,t,_,_=>t.elim
 | _::_,[],t,_,_=>t.elim
theorem lB.keeps{h h':Heap}(k:∀b o,h.get? b=some o→o.cls = .type "tuple"→h'.get? b=some o):∀{vs:List Value} {ts:List (List Int)},lB h vs ts→lB h' vs ts
 | [],[],_=>trivial
 | _::_,_::_,⟨⟨a,o,xs,n,h1,h2,h3,h4⟩,t⟩=>⟨⟨a,o,xs,n,h1,k _ _ h2 h3,h3,h4⟩,lB.keeps k t⟩
 | [],_::_,t=>t.elim
 | _::_,[],t=>t.elim
theorem lB.Mi{h:Heap}:∀{vs:List Value} {ts:List (List Int)},lB h vs ts→(∀t∈ts,t≠[])→∃fs ns,KatTups h vs fs∧IntsAre fs ns∧fs.length=vs.length
 | [],[],_,_=>⟨[],[],.nil,.nil,rfl⟩
 | _::_,t::ts,⟨⟨a,o,xs,n,h1,h2,h3,h4,h5⟩,r⟩,cA=>by
  obtain⟨fs,ns,k1,k2,k3⟩:=lB.Mi r fun t ht=>cA t (gQ _ ht);subst h1;have hn:=cA t pR;obtain⟨l⟩:=xs;cases h5 with
  | nil=>exact absurd rfl hn
  | cons m u hh =>
   exact⟨.int m u::fs,m::ns,.cons h2 h3 h4 rfl k1,.cons m u k2,by simp [k3]⟩
 | [],_::_,t,_=>t.elim
 | _::_,[],t,_=>t.elim
section
variable{prog:Program}{w:World}{A:Around}{E:Value→Shared→Prop}{s:Shared}
theorem arD{vs:List Value}{ts:List (List Int)}(T:lB s.heap vs ts){i j:Nat}(hi:i<ts.length)(hj:j<ts.length){C:Bool→Shared→Prop}(h:C (cU (ts.getD i []) (ts.getD j [])) s):kas_ask prog w A (tuples' true) vs i j C s:=by
 obtain⟨a,o,xs,n,e1,h2,h3,h4,h5⟩:=T.get i hi;obtain⟨b,o',ys,n',yY,mT,OH,h4',Om⟩:=T.get j hj;unfold kas_ask;rw [e1,yY];have l1:=h5.length;have l2:=Om.length;refine kat_lt h2 h4 mT h4' (Lx 0 _ h5 Om ?_ h);rw [← lE,← lE,l1,l2]
theorem ai8{vs:List Value}{ts:List (List Int)}(T:lB s.heap vs ts)(cA:∀t∈ts,t≠[])(h2:2≤vs.length){Q:SortKind→Shared→Prop}(h:Q (tuples' true) s):wpAny (model prog w) A (keyKind' vs.toArray) Q E s:=by
 obtain⟨fs,ns,k1,k2,k3⟩:=T.Mi cA;refine kat_kind (T := .type "int") k1 (by omega) (fun v hv=>?_) (by decide) ?_
 ·obtain⟨n,t,rfl⟩:=k2.all v hv;exact Looks.of_pure rfl
 ·have e:(Value.type "int" != Value.type "tuple")=true:=by decide
  rw [e];exact h
def zI(ts:List (List Int))(p:List Nat):Prop:=p.Perm (List.range ts.length)∧p.Pairwise fun i j=>cU (ts.getD j []) (ts.getD i [])=false
theorem go_congr{α:Type}{lt lt':Nat→Nat→Bool}{N:Nat}(h:∀i j,i<N→j<N→lt i j=lt' i j):∀t:KasT α,reach lt N t→go lt t=go lt' t
 | .ret _,_=>rfl
 | .ask i j k,hr=>by
  show go lt (k (lt i j))=go lt' (k (lt' i j));rw [← h i j hr.1 hr.2.1];exact go_congr h _ hr.2.2
abbrev FU(ts:List (List Int)):Nat→Nat→Bool:=fun i j=>cU (ts.getD i []) (ts.getD j [])
theorem getD_mem{ts:List (List Int)}{i:Nat}(h:i<ts.length):ts.getD i []∈ts:=by
 rw [Ue,jC h];exact uG h
theorem acI{ts:List (List Int)}(h:1≤ts.length):zI ts (go (FU ts) (kas_sort ts.length)).toList∧(go (FU ts) (kas_sort ts.length)).size=ts.length:=by
 have e:go (FU ts) (kas_sort ts.length)=go (qT fun i=>FA ts (ts.getD i [])) (kas_sort ts.length):=go_congr (N:=ts.length) (fun i j hi hj=>by
  have q:=Js (ts:=ts) (b:=ts.getD j []) (getD_mem hi);show cU _ _=decide _
  by_cases c:cU (ts.getD i []) (ts.getD j [])=true
  ·rw [c];exact(zB (q.mpr c)).symm
  ·have c':cU (ts.getD i []) (ts.getD j [])=false:=by simpa using c
   rw [c'];exact(nJ fun z=>c (q.mp z)).symm) _ (Ju (by omega))
 obtain⟨p,e2,a1,a2,a3⟩:=sorts (r:=fun i=>FA ts (ts.getD i [])) h;rw [e,e2];refine⟨⟨a2,?_⟩,a1⟩;rw [Eu];intro i j hi hj kX;rw [lE]at hi hj;have u:=a3 i j (by omega) (by omega);unfold Ky at u;have gi:p.getD i 0=p.toList[i]:=by simp [Ge,hi]
 have gj:p.getD j 0=p.toList[j]:=by simp [Ge,hj]
 rw [gi,gj]at u;dsimp only at u;have mj:p.toList[j]<ts.length:=by
  have:=a2.mem_iff.mp (uG (by rw [lE];exact hj));simpa using this
 have q:=Js (ts:=ts) (b:=ts.getD p.toList[i] []) (getD_mem mj)
 by_cases c:cU (ts.getD p.toList[j] []) (ts.getD p.toList[i] [])=true
 ·have:=q.mpr c;omega
 ·simpa using c
theorem Lw{a:Addr}{vs:List Value}{ts:List (List Int)}{n:Nat}{P:PySem.Fin→Shared→Prop}(ho:s.heap.get? a=some (seqObj "list" vs.toArray n))(T:lB s.heap vs ts)(cA:∀t∈ts,t≠[])(nU:vs.length<64)
  (h:∀p:List Nat,zI ts p→P (.done (.ret .none)) { s with heap:=sortedHeap s.heap a vs (List.toArray (p.map fun i=>vs.getD i Value.none)) }) :
  wpAny (model prog w) A (Builtin.«list.sort» ⟨[.ref a],[]⟩) P E s:=by
 rw [list_sort_plain];have hlen:=T.len;have ha:a<s.heap.objs.size:=cO ho;refine aF (listItems_at ho rfl ?_);refine aF (listUpdate_at ho rfl ?_ (by rw [fU,kJ];omega) xR);obtain⟨e1,oS⟩:∃e1,(s.heap.update a (Obj.mapSeq fun _=>(#[]:Array Value))).get? a=some (seqObj "list" #[] e1):=⟨_,OI ho (fun _=>#[])⟩;refine aF (seqEpoch_at oS rfl ?_);refine aF (wpAny_newTuple ?_ (by show vs.length≤_;rw [kJ];omega));refine aF (wpAny_newList ?_ xR);refine oH ?_;have old:∀b o,s.heap.get? b=some o→o.cls = .type "tuple"→(((s.heap.update a (Obj.mapSeq fun _=>(#[]:Array Value))).push (seqObj "tuple" vs.toArray 0)).push (seqObj "list" #[] 0)).get? b=some o:=fun b o hb hc=>by
  have hba:b≠a:=fun z=>by subst z;rw [ho]at hb;cases hb;have hc:Value.type "list" = Value.type "tuple":=hc;exact absurd hc (by decide)
  have dD:b<s.heap.objs.size:=cO hb;rw [JK _ _ _ (by rw [size_push',QT];exact dA (wJ dD)),JK _ _ _ (by rw [QT];exact dA dD),Heap.get?_update_ne _ _ _ _ hba];exact hb
 have NU:(((s.heap.update a (Obj.mapSeq fun _=>(#[]:Array Value))).push (seqObj "tuple" vs.toArray 0)).push (seqObj "list" #[] 0)).get? a=some (seqObj "list" #[] e1):=by
  rw [JK _ _ _ (by rw [size_push',QT];exact dA (wJ ha)),JK _ _ _ (by rw [QT];exact dA ha)];exact oS
 show wpAny (model prog w) A _ P E { s with heap:=((s.heap.update a (Obj.mapSeq fun _=>(#[]:Array Value))).push (seqObj "tuple" vs.toArray 0)).push (seqObj "list" #[] 0) };dsimp only
 by_cases h2:vs.toArray.size<2
 ·have mT:vs.length<2:=by simpa using h2
  rw [if_pos h2,if_pos h2];refine aF (aS ?_);rw [StateT.run_pure];refine aF (aS ?_);dsimp only;have eo:(arrOf (SortSt.mk' general' (vs.toArray.zip vs.toArray) #[] 7 none)).map (·.2)=List.toArray ((List.range vs.length).map fun i=>vs.getD i Value.none):=by
   show(vs.toArray.zip vs.toArray).map (·.2)=_
   match vs,mT with
   | [],_=>simp
   | [v],_=>simp [List.range_succ]
  rw [eo];refine aF (seqEpoch_at NU rfl ?_);refine aF (listUpdate_at NU rfl ?_ xR (by rw [fU,eG,JE,kJ];omega));simp only [bne_self_eq_false,sT,iX];refine aS (h (List.range vs.length) ⟨by rw [hlen],?_⟩)
  match vs,mT with
  | [],_=>exact .nil
  | [v],_=>exact List.pairwise_singleton _ _
 ·have mT:2≤vs.length:=by simpa using h2
  rw [if_neg h2,if_neg h2];have T':=T.keeps old;obtain⟨sg,sz⟩:=acI (ts:=ts) (by omega);refine aF (ai8 T' cA mT ?_);refine aF (lF (kat_run (Q:=fun oK s'=>∃p:Array Nat,p.size=vs.length∧arrOf oK=p.map (kas_item (vs.toArray.zip vs.toArray))∧failedOf oK=none∧s' = { s with heap:=((s.heap.update a (Obj.mapSeq fun _=>(#[]:Array Value))).push (seqObj "tuple" vs.toArray 0)).push (seqObj "list" #[] 0) }∧p=go (FU ts) (kas_sort ts.length))
   rfl mT nU (fun p' oK s' a1 a2 a3 a4=>⟨p',a1,a2,a3,a4⟩) ?_) ?_ fun _ _ e=>e)
  ·rw [hlen];exact Gi (lt:=FU ts) (N:=ts.length) (fun i j C hi hj hC=>arD T' hi hj hC) _ (Ju (by omega)) ⟨rfl,rfl⟩
  ·rintro⟨⟨⟩,oK⟩ s' ⟨p,hp,har,hf,rfl,rfl⟩;dsimp only;have akW:=kat_snds rfl har;rw [akW];refine aF (seqEpoch_at NU rfl ?_);refine aF (listUpdate_at NU rfl ?_ xR (by rw [fU,eG,lE,sz,kJ];omega));rw [hf];simp only [bne_self_eq_false,sT,iX];exact aS (h _ sg)
theorem acK{l:Addr}{vs:List Value}{ts:List (List Int)}{Q:Value→Shared→Prop}(hl:s.heap.IsList l vs.toArray)(T:lB s.heap vs ts)(cA:∀t∈ts,t≠[])(nU:vs.length<64)
  (h:∀p:List Nat,zI ts p→Q (.ref (s.heap.objs.size+1)) { s with heap:=sortedAll s.heap vs (List.toArray (p.map fun i=>vs.getD i Value.none)) }) :
  wpAny (model prog w) A (call (.builtin "sorted") [.ref l]) Q E s:=by
 refine Ga kind_sorted plain_sorted entry_sorted (args_sorted1 _) ?_;unfold Builtin.«sorted»;refine aF (m:=checkCount "sorted" 1 1 _) (aS ?_);refine aF (collect_list hl ?_ (by rw [kJ];omega));refine aF (wpAny_newList ?_ (by rw [kJ];omega));have hsz:((s.heap.push (seqObj "list" #[] 0)).update s.heap.objs.size (Obj.mapSeq (· ++ vs.toArray))).objs.size=s.heap.objs.size+1:=by
  rw [QT,size_push']
 have pU:(((s.heap.push (seqObj "list" #[] 0)).update s.heap.objs.size (Obj.mapSeq (· ++ vs.toArray))).push (seqObj "list" vs.toArray 0)).get? (s.heap.objs.size+1)=some (seqObj "list" vs.toArray 0):=by
  rw [← hsz];exact eY _ rfl
 have keep:∀b o,s.heap.get? b=some o→(((s.heap.push (seqObj "list" #[] 0)).update s.heap.objs.size (Obj.mapSeq (· ++ vs.toArray))).push (seqObj "list" vs.toArray 0)).get? b=some o:=fun b o q=>by
  have dD:b<s.heap.objs.size:=cO q;rw [JK _ _ _ (by rw [hsz];exact dA (wJ dD)),Heap.get?_update_ne _ _ _ _ (dA dD),JK _ _ _ (dA dD)];exact q
 show wpAny _ _ _ _ _ { s with heap:=((s.heap.push (seqObj "list" #[] 0)).update s.heap.objs.size (Obj.mapSeq (· ++ vs.toArray))).push (seqObj "list" vs.toArray 0) };rw [hsz];refine aF (oH (pI slot_list_sort ⟨_,pU,rfl⟩ entry_list_sort (Lw pU (T.keeps fun b o q _=>keep b o q) cA nU fun p hp=>⟨_,rfl,?_⟩) (args_list_sort _)));exact aS ⟨_,rfl,h p hp⟩
end
end KS
namespace V2
open PySem PySem.Spec PyProof.Rows L2 KS
def nD(ts:List (List Int)):List (List Int):=ts.mergeSort fun a b=>!cU b a
theorem aiQ{a b c:List Int}(h1:cU b a=false)(h2:cU c b=false):cU c a=false:=by
 by_cases z:cU c a=true
 ·by_cases y:cU a b=true
  ·rw [FX z y]at h2;cases h2
  ·have e:=NB (by simpa using y) h1;subst e;rw [z]at h2;cases h2
 ·simpa using z
theorem aiR(a b:List Int):cU b a=false∨cU a b=false:=by
 by_cases z:cU b a=true
 ·right
  by_cases y:cU a b=true
  ·have:=FX z y;rw [WO]at this;cases this
  ·simpa using y
 ·left;simpa using z
theorem LU(ts:List (List Int)):(nD ts).Perm ts:=List.mergeSort_perm ts _
theorem TF(ts:List (List Int)):(nD ts).Pairwise fun a b=>cU b a=false:=by
 have h:=List.pairwise_mergeSort (le:=fun a b:List Int=>!cU b a) (fun a b c h1 h2=>by
  simp only [Uu]at h1 h2 ⊢;exact aiQ h1 h2) (fun a b=>by
  rcases aiR a b with z | z <;> simp [z]) ts
 exact h.imp fun h=>by simpa using h
theorem Iv{ts us:List (List Int)}(p:us.Perm ts)(h:us.Pairwise fun a b=>cU b a=false):us=nD ts :=
 List.Perm.eq_of_pairwise (le:=fun a b=>cU b a=false) (fun a b _ _ h1 h2=>NB h2 h1) h (TF ts) (p.trans (LU ts).symm)
theorem acL(ts:List (List Int)):(nD ts).length=ts.length:=(LU ts).length_eq
theorem range_getD{α:Type}(l:List α)(d:α):(List.range l.length).map (fun i=>l.getD i d)=l:=by
 apply List.ext_getElem
 ·simp
 ·intro i h1 h2;simp [h2]
theorem Ir{ts:List (List Int)}{p:List Nat}(h:zI ts p):p.map (fun i=>ts.getD i [])=nD ts:=by
 refine Iv ?_ ?_
 ·have:=h.1.map fun i=>ts.getD i [];rwa [range_getD]at this
 ·exact JB.mpr h.2
def uC(H:Hp):List V→List (List Int)→Prop
 | [],[]=>True
 | y::ys,t::ts=>(∃b,y = .ref b∧H b=some (.tup (t.map V.int)))∧uC H ys ts
 | _,_=>False
section
variable{X:Cx}{W:WX}
theorem SH{pins:List (Addr×Obj)}{σ:L2.St}{H:Hp}{s:Shared}(I:Inv X pins σ H s):∀{ys:List V} {us:List Value} {ts:List (List Int)},Vals ys us→uC H ys ts→lB s.heap us ts
 | [],[],[],.nil,_=>trivial
 | _::_,_::_,t::ts,.cons r rs,⟨⟨b,e,hb⟩,T⟩=>by
  subst e;cases r;obtain⟨_,aL,vi,⟨o,ho,gM,n,ZQ⟩⟩:=I.aH b _ hb;exact⟨⟨b,o,_,n,rfl,ho,gM,ZQ,by simpa using intsAre_of vi⟩,SH I rs T⟩
 | _::_,_::_,[],_,T=>T.elim
 | [],[],_::_,_,T=>T.elim
theorem He:∀{ys:List V} {us:List Value},Vals ys us→∀i,i<ys.length→RelV (ys.getD i .bH) (us.getD i .none)
 | _::_,_::_,.cons r rs,0,_=>r
 | _::_,_::_,.cons r rs,i+1,h=>by simpa using He rs i (by simpa using h)
theorem RT{ys:List V}{us:List Value}(r:Vals ys us):∀{p:List Nat},(∀i∈p,i<ys.length)→Vals (p.map fun i=>ys.getD i .bH) (p.map fun i=>us.getD i .none)
 | [],_ => .nil
 | i::p,h => .cons (He r i (h i pR)) (RT r fun j hj=>h j (gQ _ hj))
theorem uC.len{H:Hp}:∀{ys:List V} {ts:List (List Int)},uC H ys ts→ys.length=ts.length
 | [],[],_=>rfl
 | _::_,_::_,t=>by simp [uC.len t.2]
 | [],_::_,t=>t.elim
 | _::_,[],t=>t.elim
theorem aqE:jR X (.builtin "sorted") (fun xs H Q=>∃(a:Addr) (ys:List V) (ts:List (List Int)),xs=[.ref a]∧eX X.K H a ys∧uC H ys ts∧(∀t∈ts,t≠[])∧ys.length<64∧∀p,zI ts p→∀l,H l=none→Q (.ref l) (upd H l (.lst (p.map fun i=>ys.getD i .bH)))):=by
 intro pins s σ H xs us Q I r h;obtain⟨a,ys,ts,rfl,hq,T,cA,nU,q⟩:=h;obtain⟨u,rfl,ru⟩:=vals1 r;cases ru;obtain⟨aL,rv,pl,hz⟩:=I.list hq;have hl:aL.length=ys.length:=by rw [← rv.length]
 refine acK pl.isList (SH I rv T) cA (by omega) fun p hp=>?_;have mS:∀i∈p,i<ys.length:=fun i hi=>by
  have:=hp.1.mem_iff.mp hi;rw [T.len];simpa using this
 have dS:p.length=ys.length:=by rw [hp.1.length_eq,JE,T.len]
 obtain⟨e,he⟩:=sortedAll_at s.heap aL (List.toArray (p.map fun i=>aL.getD i Value.none));refine⟨.ref (s.heap.objs.size+1),_,I.laid (t':=s.toks) (o := .lst (p.map fun i=>ys.getD i .bH)) (fun b o q=>sortedAll_old q) (qE _) ?_,rfl,q p hp _ (I.aH.fresh (qE _))⟩;exact⟨by rw [eG,dS,kJ];omega,p.map (fun i=>aL.getD i Value.none),e,RT rv mS,he⟩
def oZ(t:List Int):A := .tup (t.map A.int)
def LD:A→Option (List Int)
 | .tup ds=>(intsOf ds).bind fun ns=>if ns=[]then none else some ns
 | _=>none
def uT:List A→Option (List (List Int))
 | []=>some []
 | a::r=>(LD a).bind fun t=>(uT r).map fun ts=>t::ts
theorem Mr:∀{ds:List A} {ns:List Int},intsOf ds=some ns→ds=ns.map A.int
 | [],ns,h=>by simp only [intsOf,jB]at h;subst h;rfl
 | a::ds,ns,h=>by
  cases a with
  | int i =>
   simp only [intsOf,uD]at h;obtain⟨ms,h1,rfl⟩:=h;simp [Mr h1]
  | _=>simp [intsOf]at h
theorem SI:∀{ds:List A} {ts:List (List Int)},uT ds=some ts→ds=ts.map oZ∧∀t∈ts,t≠[]
 | [],ts,h=>by simp only [uT,jB]at h;subst h;simp
 | a::ds,ts,h=>by
  simp only [uT,sO,uD]at h;obtain⟨t,h1,us,h2,rfl⟩:=h;obtain⟨e,hn⟩:=SI h2;cases a with
  | tup xs =>
   simp only [LD,sO]at h1;obtain⟨ns,h3,h4⟩:=h1;split at h4
   ·cases h4
   ·rename_i cA;cases h4;refine⟨by simp [oZ,Mr h3,← e],fun t ht=>?_⟩
    rcases eN.mp ht with z | z
    ·rw [z];exact cA
    ·exact hn t z
  | _=>cases h1
theorem aoK{K:Frag}{G:Hp}{ι:List Addr}{xs:List V}{ns:List Int}(d:aN K G ι xs (ns.map A.int)):xs=ns.map V.int:=yA (vM ns) d
theorem Ho{K:Frag}{G H:Hp}{ι:List Addr}(sub:gJ G H):∀{ts:List (List Int)} {ys:List V},aN K G ι ys (ts.map oZ)→uC H ys ts
 | [],ys,d=>by rw [qG,mD]at d;subst d;trivial
 | t::ts,ys,d=>by
  obtain⟨x,r,rfl,d1,d2⟩:=d.jF;simp only [oZ,Den]at d1;obtain⟨b,xs,rfl,hG,dl⟩:=d1;rw [aoK dl]at hG;exact⟨⟨b,rfl,sub _ _ hG⟩,Ho sub d2⟩
theorem Qc{K:Frag}{G:Hp}{ι:List Addr}:∀{ts:List (List Int)} {ys:List V},aN K G ι ys (ts.map oZ)→∀i,i<ts.length→Den K G ι (ys.getD i .bH) (oZ (ts.getD i []))
 | t::ts,ys,d,i,h=>by
  obtain⟨x,r,rfl,d1,d2⟩:=d.jF;cases i with
  | zero=>exact d1
  | succ i=>simpa using Qc d2 i (by simpa using h)
theorem Ce{K:Frag}{G:Hp}{ι:List Addr}{ts:List (List Int)}{ys:List V}(d:aN K G ι ys (ts.map oZ)):∀{p:List Nat},(∀i∈p,i<ts.length)→aN K G ι (p.map fun i=>ys.getD i .bH) ((p.map fun i=>ts.getD i []).map oZ)
 | [],_=>by rw [qG,qG,qG,mD]
 | i::p,h => .cons (Qc d i (h i pR)) (Ce d fun j hj=>h j (gQ _ hj))
@[simp] def OJ(c:Bool)(as:List A):Mo A:=fun Ω=>match as with
 | [a]=>(match (dF Ω a).bind uT with
  | some ts=>if ts.length<64 then iR c ((nD ts).map oZ) Ω else none
  | none=>none)
 | _=>none
theorem Rf(c:Bool):qI X W (.builtin "sorted") (OJ c):=by
 refine⟨_,aqE,?_⟩;intro G ι Ω H σ xs as Q w d h;unfold OJ at h;split at h
 ·rename_i a;split at h
  ·rename_i ts e;split at h
   ·rename_i nU;obtain⟨x,rfl,d1⟩:=sG d;rw [sO]at e;obtain⟨ds,e1,e2⟩:=e;obtain⟨p,ys,rfl,h2,h3⟩:=pS w d1 e1;obtain⟨e3,cA⟩:=SI e2;rw [e3]at h3;have hlen:ys.length=ts.length:=by rw [h3.length];simp
    refine⟨p,ys,ts,rfl,h2,Ho w.sub h3,cA,by omega,fun q hq l hl=>?_⟩;have dp:=Ce h3 (p:=q) fun i hi=>by have:=hq.1.mem_iff.mp hi;simpa using this
    rw [Ir hq]at dp;exact nT w hl dp h
   ·exact False.elim h
  ·exact False.elim h
 ·exact False.elim h
@[simp] def Bh(as:List A):Mo A:=match as with
 | [.int i]=>ret (.int i)
 | [.bl b]=>ret (.int (if b then 1 else 0))
 | _=>stuck
theorem aqV:qI X W (.type "int") Bh:=by
 refine⟨_,aqQ,?_⟩;intro G ι Ω H σ xs as Q w d h;unfold Bh at h;split at h
 ·rename_i i;obtain⟨x,rfl,d1⟩:=sG d;simp only [Den]at d1;subst d1;exact .inl ⟨i,rfl,jH w (by simp only [Den]) h⟩
 ·rename_i b;obtain⟨x,rfl,d1⟩:=sG d;simp only [Den]at d1;subst d1;exact .inr ⟨b,rfl,jH w (by simp only [Den]) h⟩
 ·exact False.elim h
end
end V2
namespace M
open PySem V2
noncomputable section
def Ry:Ev→Mo A :=
 (kG false 1 [] (fY aP) (gN 0) oG (aC bB aP bL))
def aq4:Ev→Mo A :=
 (kG false 1 [2] (fY aP) (gN 0) (bJ (aC oY (aC bB aP bL) aX)) (sW (aE (aC bB aP bM) (aE (aC (nW) (aC bB aP bL) aX) a0))))
def Rz:MS :=
 (dE (EI (aW yR (aE aP (aE (cT "int") a0))) (Hj (aW yR (aE aP (aE (cT "bool") a0))))))
def uJ:List A→Mo A:=eE 1 Rz
end
end M
namespace V2
open PySem L2
@[simp] theorem Ow(neg:Bool)(i j:Int)(Ω:aI):vW neg (.int i) (.int j) Ω=some (.ok (.bl (if neg then !(i == j)else i == j)),Ω):=by
 simp [vW,res,cS,fL]
@[simp] theorem auR(i j:Int)(Ω:aI):iZ (.int i) (.int j) Ω=some (.ok (.bl (i == j)),Ω):=Ow false i j Ω
@[simp] theorem auQ(i j:Int)(Ω:aI):iY (.int i) (.int j) Ω=some (.ok (.bl (!(i == j))),Ω):=Ow true i j Ω
theorem uB{i j:Int}(h0 : -18446744073709551616<i)(h1:i<18446744073709551616):kE i j := .inl ⟨h0,h1⟩
theorem Ci{i j:Int}(h0 : -18446744073709551616<j)(h1:j<18446744073709551616):kE i j := .inr ⟨h0,h1⟩
@[simp] theorem au7{α:Type}(x:α)(l:List α):jO (x::l) 0=some x:=arA _
@[simp] theorem au6{α:Type}(x y:α)(l:List α):jO (x::y::l) 1=some y:=arB _
@[simp] theorem au5{α:Type}(x y z:α)(l:List α):jO (x::y::z::l) 2=some z:=QG _ 2
@[simp] theorem au4{α:Type}(x y z u:α)(l:List α):jO (x::y::z::u::l) 3=some u:=QG _ 3
end V2
namespace M
open PySem L2 V2
def BE(c k:Int):Int :=
 ((c+1)*(48271+118*k)%2147483629/977*16807+(c+1)*(48271+118*k)%2147483629*(k*k+7)+k)%2147483587
theorem Lp(c k:Int):0≤BE c k:=wQ _ (by decide)
theorem Lo(c k:Int):BE c k<2147483587:=wR _ (by decide)
theorem Tr(c k:Int)(Ω:aI)(hc:0≤c)(hc1:c<8589934592)(hk:0≤k)(gX:k<1048576):zW [.int c,.int k] Ω=aG (.int (BE c k)) Ω:=by
 have f0:=wQ ((c+1)*(48271+118*k)) (show(2147483629:Int)≠0 by decide);have f1:=wR ((c+1)*(48271+118*k)) (show(0:Int)<2147483629 by decide);have h1:kE (c+1) (48271+118*k):=uB (by omega) (by omega);have h2:kE k k:=uB (by omega) (by omega);have h3:∀j,kE ((c+1)*(48271+118*k)%2147483629) j:=fun j=>uB (by omega) (by omega);have h4:∀j,kE j 16807:=fun j=>Ci (by decide) (by decide);have h5:∀j,kE 118 j:=fun j=>uB (by decide) (by decide);have h6:∀j,kQ j 977:=fun j=>⟨by decide,by decide⟩
 simp [zW,Sa,h1,h2,h3,h4,h5,h6,BE]
end M
namespace V2
open PySem L2
theorem Bz{f:A→A→Bool}:∀(xs:List A),(∀x∈xs,f x x=true)→wC f xs xs=true
 | [],_=>rfl
 | x::xs,h=>by simp only [wC,h x pR,Bool.true_and];exact Bz xs fun y hy=>h y (gQ _ hy)
theorem anZ:∀(n:Nat) (a:A),cS n a=true→fL n a a=true:=by
 intro n
 induction n with
 | zero=>intro a h;cases a <;> first | (simp [fL];done) | (simp [cS]at h)
 | succ n ih =>
  intro a h;cases a with
  | tup ds=>simp only [cS,JH]at h;simp only [fL];exact Bz ds fun x hx=>ih x (h x hx)
  | lst ds=>simp only [cS,JH]at h;simp only [fL];exact Bz ds fun x hx=>ih x (h x hx)
  | int i=>simp [fL]
  | bl i=>simp [fL]
  | str i=>simp [fL]
  | bH=>simp [fL]
  | _=>simp [cS]at h
theorem vB{Ω:aI}{n:Nat}{a:A}(h:cS 8 a=true):res Ω n a=some a:=by
 cases n <;> simp [res,h]
theorem Jo{Ω:aI}{n k:Nat}{ds:List A}(h:Ω[k]? = some (.lst ds)):res Ω (n+1) (.aB k)=(rW (res Ω n) ds).map .lst:=by
 rw [res,if_neg (by simp [cS])];simp [h]
theorem WK{Ω:aI}{n:Nat}:∀(ds:List A),ds.all (cS 8)=true→rW (res Ω n) ds=some ds
 | [],_=>rfl
 | d::ds,h=>by
  simp only [Fe,kR]at h;simp [rW,vB h.1,WK ds h.2]
abbrev E:=Int×Int×Int
theorem Bu{ok:aI→Prop}{g:A→MS}{c:Ev→Mo Bool}{e:Ev→Mo A}(F:A→Option A)(P:Ev→Prop)(Ω0:aI)(aH:∀ys,ok (Ω0++[.lst ys])):∀(xs:List A) (ρ:Ev) (acc:List A),P ρ→acc.length+xs.length≤1000000 →
  (∀x∈xs,∀ρ,P ρ→∀ys,∃ρ1,P ρ1∧g x ρ (Ω0++[.lst ys])=some (.nx,ρ1,Ω0++[.lst ys])∧((∃y,F x=some y∧c ρ1 (Ω0++[.lst ys])=some (.ok true,Ω0++[.lst ys])∧e ρ1 (Ω0++[.lst ys])=some (.ok y,Ω0++[.lst ys]))∨(F x=none∧c ρ1 (Ω0++[.lst ys])=some (.ok false,Ω0++[.lst ys])))) →
  ∃ρ',lN ok g c e Ω0.length xs ρ (Ω0++[.lst acc])=some (ρ',Ω0++[.lst (acc++xs.filterMap F)])
 | [],ρ,acc,_,_,_=>⟨ρ,by simp [lN,aH]⟩
 | x::xs,ρ,acc,hP,hl,turn=>by
  simp only [jP]at hl;obtain⟨ρ1,Oh,e1,q⟩:=turn x pR ρ hP acc;have hz:acc.length<sizeLine:=by rw [kJ];omega
  rcases q with⟨y,f1,e2,e3⟩ | ⟨f1,e2⟩
  ·obtain⟨ρ',ih⟩:=Bu F P Ω0 aH xs ρ1 (acc++[y]) Oh (by simp;omega) fun x hx=>turn x (gQ _ hx);exact⟨ρ',by simp [lN,aH,e1,e2,e3,hz,ih,f1]⟩
  ·obtain⟨ρ',ih⟩:=Bu F P Ω0 aH xs ρ1 acc Oh (by omega) fun x hx=>turn x (gQ _ hx);exact⟨ρ',by simp [lN,aH,e1,e2,ih,f1]⟩
theorem AI{n:Nat}{js:List Nat}{fi:Ev→Mo Src}{g:A→MS}{c:Ev→Mo Bool}{e:Ev→Mo A}{ρ:Ev}{Ω Ω0:aI}{S:Src}(F:A→Option A)(P:Ev→Prop)(hfi:fi ρ Ω=some (.ok S,Ω0))(aH:∀ys,S.ok (Ω0++[.lst ys]))(hP:P (tM n js ρ))(hl:S.ds.length≤1000000)
  (turn:∀x∈S.ds,∀ρ,P ρ→∀ys,∃ρ1,P ρ1∧g x ρ (Ω0++[.lst ys])=some (.nx,ρ1,Ω0++[.lst ys])∧((∃y,F x=some y∧c ρ1 (Ω0++[.lst ys])=some (.ok true,Ω0++[.lst ys])∧e ρ1 (Ω0++[.lst ys])=some (.ok y,Ω0++[.lst ys]))∨(F x=none∧c ρ1 (Ω0++[.lst ys])=some (.ok false,Ω0++[.lst ys]))))
  (hc:fX Ω0.length (S.ds.filterMap F)):kG false n js fi g c e ρ Ω=some (.ok (.lst (S.ds.filterMap F)),Ω0):=by
 obtain⟨ρ',q⟩:=Bu F P Ω0 aH S.ds (tM n js ρ) [] hP (by simpa using hl) turn;simp [kG,mb,hfi,q,NG,hc]
theorem Be{a b c:A}{Ω:aI}(ha:res Ω 6 a=some c)(hb:res Ω 6 b=some c)(hc:cS 8 c=true):iY a b Ω=some (.ok (.bl false),Ω):=by
 simp [iY,vW,ha,hb,hc,anZ 8 c hc]
theorem Ou{a:A}{Ω:aI}(h:cS 8 a=true):iY a a Ω=some (.ok (.bl false),Ω):=Be (vB h) (vB h) h
theorem vY{fi:Ev→Mo Src}{g:A→MS}{b:MS}{ρ:Ev}{Ω Ω':aI}{S:Src}(h:fi ρ Ω=some (.ok S,Ω')):oO fi g b ρ Ω=dO S.ok g b S.ds ρ Ω':=by
 unfold oO;rw [fQ h]
theorem zE{n:Nat}:∀{as:List A},(∀a∈as,Cl n a)→fX n as
 | [],_=>by simp only [fX]
 | a::as,h=>by simp only [fX];exact⟨h a pR,zE fun b hb=>h b (gQ _ hb)⟩
end V2
namespace M
open PySem L2 V2
abbrev Rn:=Int×Int
def eW(r:Rn):A := .tup [.int r.1,.int r.2]
def aK(rs:List Rn):List A:=rs.map eW
theorem clT(n:Nat)(r:Rn):Cl n (eW r):=by simp [eW,Cl,fX]
theorem ap1(n:Nat)(rs:List Rn):fX n (aK rs):=zE fun a h=>by
 obtain⟨r,_,rfl⟩:=mG.mp h;exact clT n r
theorem Kk(rs:List Rn):cS 8 (.lst (aK rs))=true:=by
 simp [cS,aK,eW]
def whole(rs:List Rn):Int:=(rs.map (·.2)).sum
def jY(r:Rn):List Int:=[r.1,r.2]
def AL:List Int→Rn
 | [a,b]=>(a,b)
 | _=>(0,0)
def cZ(rs:List Rn):List Rn:=(nD (rs.map jY)).map AL
theorem TJ(rs:List Rn):(cZ rs).map jY=nD (rs.map jY):=by
 unfold cZ;rw [uF];have h:∀t∈nD (rs.map jY),(jY ∘ AL) t=id t:=fun t ht=>by
  obtain⟨r,_,rfl⟩:=mG.mp ((LU (rs.map jY)).mem_iff.mp ht);rfl
 rw [QN h,List.map_id]
theorem Ca(rs:List Rn):(nD (rs.map jY)).map oZ=aK (cZ rs):=by rw [← TJ,uF];rfl
theorem LC:∀rs:List Rn,uT (aK rs)=some (rs.map jY)
 | []=>rfl
 | r::rs=>by
  show(LD (eW r)).bind (fun t=>(uT (aK rs)).map fun ts=>t::ts)=_;rw [LC rs];simp [LD,eW,intsOf,jY]
theorem Iw(rs:List Rn):(cZ rs).length=rs.length:=by unfold cZ;rw [List.length_map,acL,List.length_map]
theorem acN(rs:List Rn):cZ (cZ rs)=cZ rs:=by
 have h:nD (rs.map jY)=nD (nD (rs.map jY)):=Iv (DJ _) (TF _);show(nD ((cZ rs).map jY)).map AL=_;rw [TJ,← h];rfl
def desc(rs:List Rn):List Int:=(sortI (rs.map (·.2))).reverse
def taken(rs:List Rn)(keep:Nat):Int:=if keep<rs.length then(desc rs).getD keep 0 else 0
def dP(t:Int)(rs:List Rn):List Rn:=(rs.filter fun r=>decide (t<r.2)).map fun r=>(r.1,r.2 - t)
theorem aoJ(rs:List Rn):(desc rs).length=rs.length:=by unfold desc;rw [List.length_reverse,ER,List.length_map]
theorem Qb(rs:List Rn):(desc rs).Perm (rs.map (·.2)):=(List.reverse_perm _).trans (sortI_perm _)
theorem Qa(rs:List Rn):(desc rs).Pairwise (· ≥ ·):=by unfold desc;rw [List.pairwise_reverse];exact TK _
theorem apY(D:List Int)(h:D.Pairwise (· ≥ ·))(k:Nat)(hk:k<D.length):(D.filter fun c=>decide (D[k]<c)).length≤k:=by
 generalize hg:D[k]=g;rw [← Es k D,List.filter_append,sP];have h2:(D.drop k).filter (fun c=>decide (g<c))=[]:=by
  rw [List.filter_eq_nil_iff];intro c hc;obtain⟨i,hi,rfl⟩:=Ew hc;rw [List.getElem_drop];simp only [List.length_drop]at hi;have:D[k+i]≤D[k]:=by
   by_cases h0:i=0
   ·subst h0;exact zS _
   ·exact Eu.mp h k (k+i) hk (by omega) (by omega)
  rw [hg]at this;simp;omega
 rw [h2];have:=List.length_filter_le (fun c=>decide (g<c)) (D.take k);rw [DG]at this;simp only [QO];omega
theorem apZ(D:List Int)(h:D.Pairwise (· ≥ ·))(k:Nat)(hk:k<D.length):k<(D.filter fun c=>decide (D[k]≤c)).length:=by
 generalize hg:D[k]=g;rw [← Es (k+1) D,List.filter_append,sP];have h2:(D.take (k+1)).filter (fun c=>decide (g≤c))=D.take (k+1):=by
  rw [List.filter_eq_self];intro c hc;obtain⟨i,hi,rfl⟩:=Ew hc;rw [List.getElem_take];rw [DG]at hi;have:D[k]≤D[i]:=by
   by_cases h0:i=k
   ·subst h0;exact zS _
   ·exact Eu.mp h i k (by omega) hk (by omega)
  rw [hg]at this;simpa using this
 rw [h2,DG];omega
theorem LJ(rs:List Rn)(k:Nat)(hk:k<rs.length):∃h:k<(desc rs).length,taken rs k=(desc rs)[k]:=by
 have h:k<(desc rs).length:=by rw [aoJ];exact hk
 refine⟨h,?_⟩;unfold taken;rw [if_pos hk];simp [h]
theorem Md(p:Int→Bool)(rs:List Rn):(rs.filter fun r=>p r.2).length=((desc rs).filter p).length:=by
 rw [((Qb rs).filter p).length_eq,List.filter_map,eG];rfl
theorem Qk(rs:List Rn)(k:Nat)(hk:k<rs.length):(rs.filter fun r=>decide (taken rs k<r.2)).length≤k:=by
 obtain⟨h,e⟩:=LJ rs k hk;rw [e,Md fun c=>decide ((desc rs)[k]<c)];exact apY _ (Qa rs) k h
theorem Ql(rs:List Rn)(k:Nat)(hk:k<rs.length):k<(rs.filter fun r=>decide (taken rs k≤r.2)).length:=by
 obtain⟨h,e⟩:=LJ rs k hk;rw [e,Md fun c=>decide ((desc rs)[k]≤c)];exact apZ _ (Qa rs) k h
theorem Qj(rs:List Rn)(h1:∀r∈rs,1≤r.2)(k:Nat)(hk:k<rs.length):0<taken rs k:=by
 obtain⟨h,e⟩:=LJ rs k hk;rw [e];obtain⟨r,hr,hq⟩:=mG.mp ((Qb rs).mem_iff.mp (uG h));have:=h1 r hr;omega
theorem aiV(q:Ev→Mo A)(f:Ev→Mo A)(hq:q=kG false 1 [] (fY f) (gN 0) oG (aC bB aP bL))(rs:List Rn)(hl:rs.length≤1000)(ρ:Ev)(Ω:aI)(h0:f ρ Ω=aG (.lst (aK rs)) Ω):q ρ Ω=aG (.lst (rs.map fun r=>A.int r.2)) Ω:=by
 have eF:(aK rs).filterMap (fun a=>match a with | .tup [_,x]=>some x | _=>none)=rs.map fun r=>A.int r.2:=by
  simp only [aK,Ez];rw [← Ug];rfl
 rw [← eF,hq];refine AI (S:=srcOf (.lst (aK rs)) (aK rs)) _ (fun ρ=>∃u,ρ=[u]) (by simp [h0]) (fun _=>rfl) ⟨none,rfl⟩ (by simp [aK];omega) ?_ (by
  show fX _ (List.filterMap _ (aK rs));rw [eF];exact zE fun a h=>by obtain⟨r,_,rfl⟩:=mG.mp h;simp only [Cl])
 rintro x hx ρ ⟨u,rfl⟩ ys;obtain⟨r,_,rfl⟩:=mG.mp hx;exact⟨[some (eW r)],⟨_,rfl⟩,by simp,.inl ⟨_,rfl,rfl,by simp [eW]⟩⟩
@[simp] theorem au3{α:Type}(x y z u v:α)(l:List α):jO (x::y::z::u::v::l) 4=some v:=QG _ 4
def fC(t:Int)(a:A):Option A:=match a with
 | .tup [.int n,.int c]=>if t<c then some (.tup [.int n,.int (c - t)])else none
 | _=>none
theorem Bv(t:Int):∀rs:List Rn,(aK rs).filterMap (fC t)=aK (dP t rs)
 | []=>rfl
 | r::rs=>by
  have ih:=Bv t rs;have e:aK (r::rs)=eW r::aK rs:=rfl;rw [e,Fb]
  by_cases h:t<r.2
  ·have e1:fC t (eW r)=some (eW (r.1,r.2 - t)):=by simp [fC,eW,h]
   have e2:dP t (r::rs)=(r.1,r.2 - t)::dP t rs:=by simp [dP,h]
   rw [e1,e2];simp only;rw [ih];rfl
  ·have e1:fC t (eW r)=none:=by simp [fC,eW,h]
   have e2:dP t (r::rs)=dP t rs:=by simp [dP,h]
   rw [e1,e2];exact ih
theorem apP(rs:List Rn)(hl:rs.length≤1000)(ρ:Ev)(Ω:aI)(h0:(ρ[0]?).join=some (.lst (aK rs))):Ry ρ Ω=aG (.lst (rs.map fun r=>A.int r.2)) Ω :=
 aiV Ry aP rfl rs hl ρ Ω (by simp [h0])
theorem apO(rs:List Rn)(hl:rs.length≤1000)(t:Int)(x:Option A)(Ω:aI):aq4 [aJ (aK rs),x,aA t] Ω=aG (.lst (aK (dP t rs))) Ω:=by
 rw [← Bv];refine AI (S:=srcOf (.lst (aK rs)) (aK rs)) (fC t) (fun ρ=>∃u,ρ=[u,aA t]) (by simp) (fun _=>rfl) ⟨none,rfl⟩ (by simp [aK];omega) ?_ (by
  show fX _ (List.filterMap _ (aK rs));rw [Bv];exact ap1 _ _)
 rintro z hz ρ ⟨u,rfl⟩ ys;obtain⟨r,_,rfl⟩:=mG.mp hz;have h2:(2:Nat)≤sizeLine:=by decide
 refine⟨[some (eW r),aA t],⟨_,rfl⟩,by simp,?_⟩
 by_cases h:t<r.2
 ·exact .inl ⟨eW (r.1,r.2 - t),by simp [fC,eW,h],by simp [eW,h],by simp [eW,h2]⟩
 ·exact .inr ⟨by simp [fC,eW,h],by simp [eW,h]⟩
theorem aj4(rs:List Rn):intsOf (rs.map fun r=>A.int r.2)=some (rs.map (·.2)):=by
 have:=vM (rs.map (·.2));rw [uF]at this;exact this
theorem Xd(rs:List Rn)(k:Nat)(hk:k<rs.length):jO ((desc rs).map A.int) (k:Int)=(aA (taken rs k)):=by
 obtain⟨h,e⟩:=LJ rs k hk;rw [IT,e];simp [h]
theorem anM(t:Int)(rs:List Rn):(dP t rs).length≤rs.length:=by
 unfold dP;rw [List.length_map];exact List.length_filter_le _ _
theorem ad2{Ω:aI}{k:Nat}{rs:List Rn}(g:Ω[k]? = some (.lst (aK rs))):res Ω 6 (.aB k)=some (.lst (aK rs)):=by
 have h:(aK rs).all (cS 8)=true:=by simp [aK,eW,cS]
 rw [Jo g,WK _ h];rfl
end M
namespace V2
open PySem PySem.Spec PyProof.Rows L2
def putD{α:Type}(f:Str)(v:α):List (Str×α)→List (Str×α)
 | []=>[(f,v)]
 | (g,x)::r=>if g=f then(g,v)::r else(g,x)::putD f v r
@[simp] def Fd.cell:Fd→Option Cell
 | .lst ds=>some (.lst ds)
 | .aU kvs=>some (.aU kvs)
 | .val _=>none
theorem NA{α:Type}{f:Str}:∀{l:List (Str×α)} {x:α},l.lookup f=some x→∃i,l[i]? = some (f,x)∧∀y,putD f y l=l.set i (f,y)
 | [],_,h=>by simp at h
 | (g,z)::r,x,h=>by
  by_cases e:g=f
  ·subst e;simp [List.lookup]at h;subst h;exact⟨0,rfl,fun y=>by simp [putD]⟩
  ·have hb:(f == g)=false:=sJ.mpr (bV e);simp only [List.lookup,hb]at h;obtain⟨i,h1,h2⟩:=NA h;exact⟨i+1,by simpa using h1,fun y=>by simp [putD,e,h2 y]⟩
theorem ML{α:Type}{f g:Str}{v:α}:∀{l:List (Str×α)},(putD f v l).lookup g=if g=f then some v else l.lookup g
 | []=>by
  by_cases e:g=f
  ·subst e;simp [putD]
  ·have hb:(g == f)=false:=sJ.mpr e;simp [putD,List.lookup,hb,e]
 | (k,x)::r=>by
  have ih:=ML (f:=f) (g:=g) (v:=v) (l:=r)
  by_cases h:k=f
  ·subst h
   by_cases e:g=k
   ·subst e;simp [putD]
   ·have hb:(g == k)=false:=sJ.mpr e;simp [putD,List.lookup,hb,e]
  ·by_cases e:g=k
   ·subst e;simp [putD,h]
   ·have hb:(g == k)=false:=sJ.mpr e;simp only [putD,if_neg h,List.lookup,hb];exact ih
theorem FD{α:Type}{f:Str}{v w:α}:∀{l:List (Str×α)},putD f w (putD f v l)=putD f w l
 | []=>by simp [putD]
 | (k,x)::r=>by
  by_cases h:k=f
  ·simp [putD,h]
  ·simp [putD,h,FD (l:=r)]
section
variable{K:Frag}{G H:Hp}{ι:List Addr}{Ω:aI}
theorem sF:∀{ws:List (Str×V)} {fs:List (Str×Fd)},iB K G ι H ws fs↔ws.length=fs.length∧∀(i:Nat) (h:Str) (v:V) (g:Str) (fd:Fd),ws[i]? = some (h,v)→fs[i]? = some (g,fd)→h=g∧gT K G ι H v fd
 | [],[]=>⟨fun _=>⟨rfl,fun i h v g fd q=>by simp at q⟩,fun _=>trivial⟩
 | [],_::_=>⟨fun h=>h.elim,fun h=>by simp at h⟩
 | _::_,[]=>⟨fun h=>h.elim,fun h=>by simp at h⟩
 | (f,v)::ws,(g,d)::fs=>by
  constructor
  ·rintro⟨h1,h2,h3⟩;obtain⟨q1,q2⟩:=sF.mp h3;refine⟨by simp [q1],fun i h v' g' fd a b=>?_⟩;cases i with
   | zero=>simp at a b;obtain⟨rfl,rfl⟩:=a;obtain⟨rfl,rfl⟩:=b;exact⟨h1,h2⟩
   | succ i=>exact q2 i h v' g' fd (by simpa using a) (by simpa using b)
  ·rintro⟨q1,q2⟩;obtain⟨h1,h2⟩:=q2 0 f v g d rfl rfl;exact⟨h1,h2,sF.mpr ⟨by simpa using q1,fun i h v' g' fd a b=>q2 (i+1) h v' g' fd (by simpa using a) (by simpa using b)⟩⟩
theorem iB.look{ws:List (Str×V)}{fs:List (Str×Fd)}{f:Str}{fd:Fd}(h:iB K G ι H ws fs)(l:fs.lookup f=some fd):∃v,ws.lookup f=some v∧gT K G ι H v fd:=by
 induction fs generalizing ws with
 | nil=>simp at l
 | cons p fs ih =>
  obtain⟨g,d⟩:=p;cases ws with
  | nil=>exact h.elim
  | cons q ws =>
   obtain⟨g',v⟩:=q;obtain⟨e,h2,h3⟩:=h;subst e
   by_cases hb:(f == g')=true
   ·simp only [List.lookup,hb]at l ⊢;cases l;exact⟨v,rfl,h2⟩
   ·have hb:(f == g')=false:=by simpa using hb
    simp only [List.lookup,hb]at l ⊢;exact ih h3 l
theorem iB.ahP{ws:List (Str×V)}{fs:List (Str×Fd)}{f:Str}(h:iB K G ι H ws fs)(l:fs.lookup f=none):ws.lookup f=none:=by
 induction fs generalizing ws with
 | nil =>
  cases ws with
  | nil=>rfl
  | cons q ws=>exact h.elim
 | cons p fs ih =>
  obtain⟨g,d⟩:=p;cases ws with
  | nil=>exact h.elim
  | cons q ws =>
   obtain⟨g',v⟩:=q;obtain⟨e,h2,h3⟩:=h;subst e
   by_cases hb:(f == g')=true
   ·simp only [List.lookup,hb]at l;cases l
   ·have hb:(f == g')=false:=by simpa using hb
    simp only [List.lookup,hb]at l ⊢;exact ih h3 l
theorem iB.put{ws:List (Str×V)}{fs:List (Str×Fd)}{f:Str}{fd:Fd}{v:V}(h:iB K G ι H ws fs)(d:gT K G ι H v fd):iB K G ι H (hZ f v ws) (putD f fd fs):=by
 induction fs generalizing ws with
 | nil =>
  cases ws with
  | nil=>exact⟨rfl,d,trivial⟩
  | cons q ws=>exact h.elim
 | cons p fs ih =>
  obtain⟨g,x⟩:=p;cases ws with
  | nil=>exact h.elim
  | cons q ws =>
   obtain⟨g',v'⟩:=q;obtain⟨e,h2,h3⟩:=h;subst e
   by_cases hg:g'=f
   ·simp only [hZ,putD,if_pos hg];exact⟨rfl,d,h3⟩
   ·simp only [hZ,putD,if_neg hg];exact⟨rfl,h2,ih h3⟩
theorem iB.len{ws:List (Str×V)}{fs:List (Str×Fd)}(h:iB K G ι H ws fs):ws.length=fs.length:=(sF.mp h).1
theorem gT.agP{v:V}{fd:Fd}{c:Cell}(h:gT K G ι H v fd)(hc:fd.cell=some c):∃b,v = .ref b∧b∉ι∧(∃o,H b=some o)∧mZ K G ι H b c:=by
 cases fd with
 | val a=>cases hc
 | lst ds=>cases hc;obtain⟨b,xs,h1,h2,h3,h4,h5⟩:=h;exact⟨b,h1,h3,⟨_,h4⟩,h2,xs,h4,h5⟩
 | aU kvs=>cases hc;obtain⟨b,ws,h1,h2,h3,h4,h5,h6⟩:=h;exact⟨b,h1,h3,⟨_,h4⟩,h2,ws,h4,h5,h6⟩
theorem gT.BB{b:Addr}{fd:Fd}{c:Cell}(hc:fd.cell=some c)(hb:b∉ι)(h:mZ K G ι H b c):gT K G ι H (.ref b) fd:=by
 cases fd with
 | val a=>cases hc
 | lst ds=>cases hc;obtain⟨h1,xs,h2,h3⟩:=h;exact⟨b,xs,rfl,h1,hb,h2,h3⟩
 | aU kvs=>cases hc;obtain⟨h1,ws,h2,h3,h4⟩:=h;exact⟨b,ws,rfl,h1,hb,h2,h3,h4⟩
theorem Fd.ap5{fd:Fd}{c:Cell}(hc:fd.cell=some c):fd.own=true:=by cases fd <;> first | rfl | cases hc
theorem Fd.ap6{fd:Fd}{c:Cell}(hc:fd.cell=some c):c.noOwn=true:=by cases fd <;> cases hc <;> rfl
theorem gT.lend{b:Addr}{v:V}{fd:Fd}(h:gT K G ι H v fd)(hb:fd.own=true→v ≠ .ref b):gT K G (ι++[b]) H v fd:=by
 cases fd with
 | val a=>exact Den.ext (Ext.cell b) h
 | lst ds =>
  obtain⟨b',xs,h1,h2,h3,h4,h5⟩:=h;exact⟨b',xs,h1,h2,by simp;exact⟨h3,fun e=>hb rfl (by rw [h1,e])⟩,h4,h5.ext (Ext.cell b)⟩
 | aU kvs =>
  obtain⟨b',ws,h1,h2,h3,h4,h5,h6⟩:=h;exact⟨b',ws,h1,h2,by simp;exact⟨h3,fun e=>hb rfl (by rw [h1,e])⟩,h4,h5,h6.ext (Ext.cell b)⟩
theorem Wd.unfold{s:Nat}{cls f:Str}{fs:List (Str×Fd)}{fd:Fd}{c:Cell}(w:Wd K G ι Ω H)(hs:Ω[s]? = some (.ins cls fs))(hf:fs.lookup f=some fd)(hc:fd.cell=some c) :
  ∃b,Wd K G (ι++[b]) (Ω.set s (.ins cls (putD f (.val (.aB Ω.length)) fs))++[c]) H:=by
 obtain⟨a,ha⟩:=w.addr hs;obtain⟨g,C,dx,ws,h0,h1,h2⟩:=w.aB s _ a hs ha;obtain⟨i0,e1,e2⟩:=NA hf;obtain⟨q1,q2⟩:=sF.mp h2;have GV:i0<fs.length:=(bX.mp e1).1;obtain⟨⟨k0,v0⟩,e3⟩:∃p,ws[i0]? = some p:=⟨ws[i0]'(by omega),jC _⟩;obtain⟨rfl,o0⟩:=q2 i0 k0 v0 f fd e3 e1;obtain⟨b,rfl,hb,⟨o,ho⟩,hC⟩:=o0.agP hc;have Kx:gP H ι Ω s i0 b:=⟨a,cls,fs,C,dx,ws,_,_,fd,ha,hs,h1,e1,Fd.ap5 hc,e3⟩;have lL:s<Ω.length:=(bX.mp hs).1;have hι:∀k,k<Ω.length→(ι++[b])[k]? = ι[k]?:=fun k hk=>fV (by rw [w.len];exact hk);have hΩ:∀k,k<Ω.length→(Ω.set s (.ins cls (putD k0 (.val (.aB Ω.length)) fs))++[c])[k]? = (Ω.set s (.ins cls (putD k0 (.val (.aB Ω.length)) fs)))[k]?:=fun k hk=>fV (by simpa using hk);refine⟨b,w.sub,?_,by simp [w.len],fun x hx=>?_,fun k c' a' z1 z2=>?_,fun b' k i k' i' z1 z2=>?_⟩
 ·rw [zN];exact⟨w.inj,by simp,fun x hx y hy=>by simp at hy;subst hy;exact fun e=>hb (e ▸ hx)⟩
 ·rcases JC.mp hx with h | h
  ·exact w.live x h
  ·simp at h;subst h;exact⟨o,ho⟩
 ·by_cases hk:k<Ω.length
  ·rw [hι k hk]at z2;rw [hΩ k hk]at z1
   by_cases oU:k=s
   ·subst oU;rw [gR lL]at z1;cases z1;rw [ha]at z2;cases z2;refine⟨g,C,dx,ws,h0,h1,sF.mpr ⟨by rw [e2];simpa using q1,fun j h v g' fd' y1 y2=>?_⟩⟩;rw [e2]at y2
    by_cases hj:j=i0
    ·subst hj;rw [gR GV]at y2;cases y2;rw [e3]at y1;cases y1;refine⟨rfl,?_⟩;simp only [gT,Den];exact⟨b,rfl,by rw [← w.len];simp⟩
    ·rw [gS (bV hj)]at y2;obtain⟨r1,r2⟩:=q2 j h v g' fd' y1 y2;refine⟨r1,r2.lend fun ow ev=>hj ?_⟩;subst ev;exact(w.sep b _ j _ i0 ⟨a,cls,fs,C,dx,ws,_,_,fd',ha,hs,h1,y2,ow,y1⟩ Kx).2
   ·rw [gS (bV oU)]at z1;have q:=w.aB k c' a' z1 z2;cases c' with
    | lst ds=>obtain⟨y1,xs,y2,y3⟩:=q;exact⟨y1,xs,y2,y3.ext (Ext.cell b)⟩
    | aU kvs=>obtain⟨y1,iD,y2,y3,y4⟩:=q;exact⟨y1,iD,y2,y3,y4.ext (Ext.cell b)⟩
    | ins nK kZ =>
     obtain⟨y0,C',pA,iD,y1,y2,y3⟩:=q;obtain⟨p1,p2⟩:=sF.mp y3;refine⟨y0,C',pA,iD,y1,y2,sF.mpr ⟨p1,fun j h v g' fd' y4 y5=>?_⟩⟩;obtain⟨r1,r2⟩:=p2 j h v g' fd' y4 y5;refine⟨r1,r2.lend fun ow ev=>oU ?_⟩;subst ev;exact(w.sep b k j s i0 ⟨a',nK,kZ,C',pA,iD,_,_,fd',z2,z1,y2,y5,ow,y4⟩ Kx).1
    | tab x pos qual=>exact q
    | dead=>trivial
  ·have iI:k=Ω.length:=by
    have:=(bX.mp z1).1;simp at this;omega
   subst iI;rw [← w.len]at z2;simp at z2;subst z2;simp at z1;subst z1;cases fd with
   | val x=>cases hc
   | lst ds=>cases hc;obtain⟨y1,xs,y2,y3⟩:=hC;exact⟨y1,xs,y2,y3.ext (Ext.cell b)⟩
   | aU kvs=>cases hc;obtain⟨y1,iD,y2,y3,y4⟩:=hC;exact⟨y1,iD,y2,y3,y4.ext (Ext.cell b)⟩
 ·have back:∀{k i},gP H (ι++[b]) (Ω.set s (.ins cls (putD k0 (.val (.aB Ω.length)) fs))++[c]) k i b'→gP H ι Ω k i b':=fun{k i} h=>by
   have h0':=h;obtain⟨a',nK,kZ,C',pA,iD,g',h',fd',y1,y2,y3,y4,y5,y6⟩:=h
   by_cases hk:k<Ω.length
   ·rw [hι k hk]at y1;rw [hΩ k hk]at y2
    by_cases oU:k=s
    ·subst oU;rw [gR lL]at y2;cases y2;rw [ha]at y1;cases y1;rw [h1]at y3;cases y3;rw [e2]at y4
     by_cases hj:i=i0
     ·subst hj;rw [gR GV]at y4;cases y4;cases y5
     ·rw [gS (bV hj)]at y4;exact⟨a,_,fs,C,dx,ws,g',h',fd',ha,hs,h1,y4,y5,y6⟩
    ·rw [gS (bV oU)]at y2;exact⟨a',nK,kZ,C',pA,iD,g',h',fd',y1,y2,y3,y4,y5,y6⟩
   ·have iI:k=Ω.length:=by
     have:=(bX.mp y2).1;simp at this;omega
    subst iI;exact(h0'.no (by simp) (Fd.ap6 hc)).elim
  exact w.sep b' k i k' i' (back z1) (back z2)
theorem oF.get{n:Nat}:∀{fs:List (Str×Fd)} {i:Nat} {p:Str×Fd},oF n fs→fs[i]? = some p→qH n p.2
 | [],_,_,_,h=>by simp at h
 | _::_,0,_,c,h=>by simp at h;subst h;exact c.1
 | _::fs,i+1,_,c,h=>oF.get (fs:=fs) c.2 (by simpa using h)
theorem Wd.fold{s:Nat}{cls f:Str}{fs:List (Str×Fd)}{fd:Fd}{c:Cell}{Ωa:aI}(w:Wd K G ι (Ωa++[c]) H)(hs:Ωa[s]? = some (.ins cls fs))(hf:fs.lookup f=some (.val (.aB Ωa.length)))(hc:fd.cell=some c)
  (hk:∀k c',k≠s→Ωa[k]? = some c'→DN Ωa.length c') (hfs:oF Ωa.length (putD f fd fs)):Wd K G (ι.take Ωa.length) (Ωa.set s (.ins cls (putD f fd fs))) H:=by
 have lL:s<Ωa.length:=(bX.mp hs).1;have hlen:ι.length=Ωa.length+1:=by rw [w.len];simp
 have hΩ:∀k,k<Ωa.length→(Ωa++[c])[k]? = Ωa[k]?:=fun k hk=>fV hk;have hι:∀k,k<Ωa.length→(ι.take Ωa.length)[k]? = ι[k]?:=fun k hk=>by rw [zP,if_pos hk]
 obtain⟨b,hb⟩:∃b,ι[Ωa.length]? = some b:=⟨ι[Ωa.length]'(by omega),jC _⟩;have eι:ι=ι.take Ωa.length++[b]:=by
  have:=List.take_append_getElem (l:=ι) (i:=Ωa.length) (by omega);rw [jC (show Ωa.length<ι.length by omega)]at hb;cases hb;rw [List.take_append_getElem,Er (by omega)]
 have hbn:b∉ι.take Ωa.length:=fun z=>by
  have nd:=w.inj;rw [eι,zN]at nd;exact nd.2.2 b z b (by simp) rfl
 have sub:∀x,x∉ι→x∉ι.take Ωa.length:=fun x hx z=>hx (Uc z);have ha:∃a,ι[s]? = some a:=w.addr (show(Ωa++[c])[s]? = some (.ins cls fs)by rw [hΩ s lL];exact hs);obtain⟨a,ha⟩:=ha;obtain⟨g,C,dx,ws,h0,h1,h2⟩:=w.aB s _ a (by rw [hΩ s lL];exact hs) ha;obtain⟨i0,e1,e2⟩:=NA hf;obtain⟨q1,q2⟩:=sF.mp h2;have GV:i0<fs.length:=(bX.mp e1).1;have hcb:=w.aB Ωa.length c b (by simp) hb;refine⟨w.sub,w.inj.sublist (List.take_sublist ..),by simp [hlen],fun x hx=>w.live x (Uc hx),fun k c' a' z1 z2=>?_,fun b' k i k' i' z1 z2=>?_⟩
 ·have BQ:k<Ωa.length:=by simpa using(bX.mp z1).1
  rw [hι k BQ]at z2
  by_cases oU:k=s
  ·subst oU;rw [gR lL]at z1;cases z1;rw [ha]at z2;cases z2;refine⟨g,C,dx,ws,h0,h1,sF.mpr ⟨by rw [e2];simpa using q1,fun j h v g' fd' y1 y2=>?_⟩⟩;have Qw:qH Ωa.length fd':=hfs.get y2;rw [e2]at y2
   by_cases hj:j=i0
   ·subst hj;rw [gR GV]at y2;cases y2;obtain⟨r1,r2⟩:=q2 j h v _ _ y1 e1;refine⟨r1,?_⟩;simp only [gT,Den]at r2;obtain⟨b2,rfl,oW⟩:=r2;rw [hb]at oW;cases oW;exact gT.BB hc hbn (hcb.cut hι sub (by cases fd <;> cases hc <;> exact Qw))
   ·rw [gS (bV hj)]at y2;obtain⟨r1,r2⟩:=q2 j h v g' fd' y1 y2;exact⟨r1,r2.cut hι sub Qw⟩
  ·rw [gS (bV oU)]at z1;exact(w.aB k c' a' (by rw [hΩ k BQ];exact z1) z2).cut hι sub (hk k c' oU z1)
 ·
  have back:∀{k i},gP H (ι.take Ωa.length) (Ωa.set s (.ins cls (putD f fd fs))) k i b'→(gP H ι (Ωa++[c]) k i b'∧b'∉ι)∨(k=s∧i=i0∧b'=b):=fun{k i} h=>by
   obtain⟨a',nK,kZ,C',pA,iD,g',h',fd',y1,y2,y3,y4,y5,y6⟩:=h;have BQ:k<Ωa.length:=by simpa using(bX.mp y2).1
   rw [hι k BQ]at y1;have out:∀{nK kZ iD C' pA fd' g' h'},(Ωa++[c])[k]? = some (.ins nK kZ)→H a'=some (.ins C' pA iD)→kZ[i]? = some (g',fd')→fd'.own=true→iD[i]? = some (h',V.ref b')→b'∉ι:=fun{_ _ _ _ _ fdx _ _} x1 x2 x3 x4 x5=>by
    obtain⟨_,_,_,iC,_,p1,p2⟩:=w.aB k _ a' x1 y1;rw [x2]at p1;cases p1;obtain⟨_,r⟩:=(sF.mp p2).2 i _ _ _ _ x5 x3;cases fdx with
    | val x=>cases x4
    | lst ds=>obtain⟨b3,_,t1,_,t2,_⟩:=r;cases t1;exact t2
    | aU kvs=>obtain⟨b3,_,t1,_,t2,_⟩:=r;cases t1;exact t2
   by_cases oU:k=s
   ·subst oU;rw [gR lL]at y2;cases y2;rw [ha]at y1;cases y1;rw [h1]at y3;cases y3;rw [e2]at y4
    by_cases hj:i=i0
    ·subst hj
     right
     rw [gR GV]at y4;cases y4;obtain⟨r1,r2⟩:=q2 i _ _ _ _ y6 e1;simp only [gT,Den]at r2;obtain⟨b2,eb,oW⟩:=r2;rw [hb]at oW;cases oW;cases eb;exact⟨rfl,rfl,rfl⟩
    ·rw [gS (bV hj)]at y4;have jJ:(Ωa++[c])[k]? = some (.ins cls fs):=by rw [hΩ k BQ];exact hs
     exact .inl ⟨⟨a,_,fs,C,dx,ws,g',h',fd',ha,jJ,h1,y4,y5,y6⟩,out jJ h1 y4 y5 y6⟩
   ·rw [gS (bV oU)]at y2;have jJ:(Ωa++[c])[k]? = some (.ins nK kZ):=by rw [hΩ k BQ];exact y2
    exact .inl ⟨⟨a',nK,kZ,C',pA,iD,g',h',fd',y1,jJ,y3,y4,y5,y6⟩,out jJ y3 y4 y5 y6⟩
  have Oa:b∈ι:=qF hb
  rcases back z1 with⟨x1,x2⟩ | ⟨x1,x2,x3⟩ <;> rcases back z2 with⟨y1,y2⟩ | ⟨y1,y2,y3⟩
  ·exact w.sep b' k i k' i' x1 y1
  ·subst y3;exact absurd Oa x2
  ·subst x3;exact absurd Oa y2
  ·exact⟨x1.trans y1.symm,x2.trans y2.symm⟩
end
def Sm(s:Nat)(f:Str)(Ω Ω1:aI):Prop:=∃cls fs fd c,Ω[s]? = some (.ins cls fs)∧fs.lookup f=some fd∧fd.cell=some c∧Ω1=Ω.set s (.ins cls (putD f (.val (.aB Ω.length)) fs))++[c]
def Folds(s:Nat)(f:Str)(n:Nat)(Ω2 Ω':aI):Prop:=∃Ωa c cls fs fd,Ω2=Ωa++[c]∧Ωa.length=n∧Ωa[s]? = some (.ins cls fs)∧fs.lookup f=some (.val (.aB n))∧fd.cell=some c ∧
 (∀k c',k≠s→Ωa[k]? = some c'→DN n c')∧oF n (putD f fd fs)∧Ω'=Ωa.set s (.ins cls (putD f fd fs))
structure Us(Ω:aI)(ρ:Ev):Prop where
 aB:∀(k:Nat) (c:Cell),Ω[k]? = some c→DN Ω.length c
 env:∀(i:Nat) (d:A),ρ[i]? = some (some d)→Cl Ω.length d
section
variable{K:Frag}{G H:Hp}{ι:List Addr}{Ω Ω1 Ω2 Ω':aI}{σ:L2.St}{ρ:Ev}{W:WX}{s:Nat}{f:Str}
theorem Wd.wF(w:Wd K G ι Ω H)(r:fW K G ι σ ρ):Us Ω ρ where
 aB:=fun k c h=>by
  obtain⟨a,ha⟩:=w.addr h;have:=(w.aB k c a h ha).cl;rwa [w.len]at this
 env:=fun i d h=>by
  obtain⟨v,_,q⟩:=r.2 i d h;have:=q.cl;rwa [w.len]at this
theorem Wd.Wf(w:Wd K G ι Ω H)(h:Sm s f Ω Ω1):∃b,Wd K G (ι++[b]) Ω1 H:=by
 obtain⟨cls,fs,fd,c,h1,h2,h3,rfl⟩:=h;exact w.unfold h1 h2 h3
theorem anT{G':Hp}{ι':List Addr}{b:Addr}{n:Nat}(hl:ι.length=n)(e:Ext G (ι++[b]) G' ι'):Ext G ι G' (ι'.take n):=⟨e.same,fun k x h=>by
 have hk:=(bX.mp h).1;rw [zP,if_pos (by omega)];exact e.pre k x (by rw [fV hk];exact h)⟩
theorem Wd.anJ{n:Nat}(w:Wd K G ι Ω2 H)(h:Folds s f n Ω2 Ω'):Wd K G (ι.take n) Ω' H:=by
 obtain⟨Ωa,c,cls,fs,fd,rfl,rfl,h3,h4,h5,h6,h7,rfl⟩:=h;exact w.fold h3 h4 h5 h6 h7
theorem Xe{ι':List Addr}{n:Nat}:∀k,k<n→(ι'.take n)[k]? = ι'[k]?:=fun k hk=>by rw [zP,if_pos hk]
theorem Pr{σ':L2.St}{ρ':Ev}{G':Hp}{ι':List Addr}{n:Nat}(r:fW K G' ι' σ' ρ')(hc:∀(i:Nat) (d:A),ρ'[i]? = some (some d)→Cl n d):fW K G' (ι'.take n) σ' ρ' :=
 ⟨r.1,fun i d h=>let ⟨v,h1,h2⟩:=r.2 i d h; ⟨v,h1,h2.cut Xe (hc i d h)⟩⟩
theorem afE{b:Addr}{D:Ends}{ρ':Ev}(w:Wd K G ι Ω H)(hF:Folds s f Ω.length Ω2 Ω')(hc:∀(i:Nat) (d:A),ρ'[i]? = some (some d)→Cl Ω.length d)(h:dU K W G ι D (some (.nx,ρ',Ω'))):dU K W G (ι++[b]) D (some (.nx,ρ',Ω2)):=by
 intro σ' H' G' ι' e w' r';exact h σ' H' G' (ι'.take Ω.length) (anT w.len e) (w'.anJ hF) (Pr r' hc)
end
section
variable{X:Cx}{W:WX}{e:Expr}{tg:Expr}{st:Stmt}{g d:Ev→Mo A}{gb db:Ev→Mo Bool}{gs ds:MS}{gt dt:A→MS}
theorem Vh(h:VS X W st gs)(hd:∀ρ Ω r,Us Ω ρ→ds ρ Ω=some r→∃s f Ω1 Ω2,Sm s f Ω Ω1∧gs ρ Ω1=some (.nx,r.2.1,Ω2)∧Folds s f Ω.length Ω2 r.2.2∧(∀(i:Nat) (d:A),r.2.1[i]? = some (some d)→Cl Ω.length d)∧r.1 = .nx):VS X W st ds:=by
 obtain⟨t,p,sm⟩:=h;refine⟨t,p,fun G ι Ω H σ ρ D w r h=>?_⟩;cases e:ds ρ Ω with
 | none=>rw [e]at h;exact h.elim
 | some q =>
  obtain⟨s,f,Ω1,Ω2,h1,h2,h3,h4,h5⟩:=hd ρ Ω q (w.wF r) e;obtain⟨b,wb⟩:=w.Wf h1;obtain⟨q1,q2,q3⟩:=q;simp only at h2 h3 h4 h5;subst h5;rw [e]at h;refine sm G (ι++[b]) Ω1 H σ ρ D wb (r.ext (Ext.cell b)) ?_;rw [h2];exact afE w h3 h4 h
end
def cY(K:Frag)(cs:List Str)(f:Str):Prop:=∀cls∈cs,∃C,nsIn K mainGlobals cls=some (some (.ref C))∧lD K C∧zL K C f
@[simp] def Bi(cs:List Str)(f:Str)(a:A):Mo A:=fun Ω=>match a with
 | .aB s=>match Ω[s]? with
  | some (.ins cls fs)=>if cls∈cs then match fs.lookup f with
   | some (.val b)=>some (.ok b,Ω)
   | _=>none else none
  | _=>none
 | _=>none
@[simp] def eT(cs:List Str)(f:Str)(fe:Ev→Mo A):Ev→Mo A:=fun ρ=>mb (fe ρ) (Bi cs f)
@[simp] def lU(cs:List Str)(f:Str)(fo fv:Ev→Mo A):MS:=fun ρ=>sM (fv ρ) ρ fun b=>sM (fo ρ) ρ fun a Ω=>match a with
 | .aB s=>match Ω[s]? with
  | some (.ins cls fs)=>if cls∈cs∧fs.length<1000 then some (.nx,ρ,Ω.set s (.ins cls (putD f (.val b) fs)))else none
  | _=>none
 | _=>none
section
variable{K:Frag}{G H:Hp}{ι:List Addr}{Ω:aI}
theorem Wd.ins(w:Wd K G ι Ω H){s:Nat}{cls:Str}{fs:List (Str×Fd)}{v:V}(h:Ω[s]? = some (.ins cls fs))(d:Den K G ι v (.aB s)):∃a C dx,∃ws:List (Str×V),v = .ref a∧ι[s]? = some a∧G a=none∧nsIn K mainGlobals cls=some (some (.ref C))∧H a=some (.ins C dx ws)∧iB K G ι H ws fs:=by
 simp only [Den]at d;obtain⟨a,rfl,ha⟩:=d;obtain⟨g,C,dx,ws,h1,h2,h3⟩:=w.aB s _ a h ha;exact⟨a,C,dx,ws,rfl,ha,g,h1,h2,h3⟩
theorem Ki{f:Str}{v:V}{b:A}:∀{ws:List (Str×V)} {fs:List (Str×Fd)} {i:Nat} {g h:Str} {fd:Fd} {x:V},iB K G ι H ws fs→(putD f (.val b) fs)[i]? = some (g,fd)→fd.own=true→(hZ f v ws)[i]? = some (h,x)→fs[i]? = some (g,fd)∧ws[i]? = some (h,x)
 | [],[],i,g,h,fd,x,_,y,o,_=>by
  cases i with
  | zero=>simp [putD]at y;obtain⟨_,rfl⟩:=y;cases o
  | succ i=>simp [putD]at y
 | [],_::_,_,_,_,_,_,q,_,_,_=>q.elim
 | _::_,[],_,_,_,_,_,q,_,_,_=>q.elim
 | (k,u)::ws,(k',d)::fs,i,g,h,fd,x,q,y,o,z=>by
  obtain⟨rfl,q2,q3⟩:=q
  by_cases e:k=f
  ·simp only [putD,hZ,if_pos e]at y z;cases i with
   | zero=>simp at y;obtain⟨_,rfl⟩:=y;cases o
   | succ i=>exact⟨by simpa using y,by simpa using z⟩
  ·simp only [putD,hZ,if_neg e]at y z;cases i with
   | zero=>exact⟨by simpa using y,by simpa using z⟩
   | succ i =>
    have:=Ki (f:=f) (v:=v) (b:=b) (i:=i) q3 (by simpa using y) o (by simpa using z);exact⟨by simpa using this.1,by simpa using this.2⟩
theorem Wd.ac8(w:Wd K G ι Ω H){s:Nat}{cls f:Str}{fs:List (Str×Fd)}{a C dx:Addr}{ws:List (Str×V)}{v:V}{b:A}(h:Ω[s]? = some (.ins cls fs))(ha:ι[s]? = some a)(hg:G a=none)(h0:nsIn K mainGlobals cls=some (some (.ref C)))
  (h1:H a=some (.ins C dx ws)) (h2:iB K G ι H ws fs) (d:Den K G ι v b):Wd K G ι (Ω.set s (.ins cls (putD f (.val b) fs))) (upd H a (.ins C dx (hZ f v ws))):=by
 have lL:s<Ω.length:=(bX.mp h).1;have ho:∀b o,b∉ι→G b=none→H b=some o→b∉ι∧G b=none∧upd H a (.ins C dx (hZ f v ws)) b=some o:=fun b o x y z=>by
  have nb:b≠a:=fun e=>by subst e;exact x (pQ ha)
  exact⟨x,y,by rw [aY nb];exact z⟩
 have mT:iB K G ι (upd H a (.ins C dx (hZ f v ws))) ws fs:=h2.map fun _ _ q=>q.mono (Ext.refl _ _) ho;refine⟨fun b u q=>?_,w.inj,by simp [w.len],fun b hb=>?_,fun j c' b z1 z2=>?_,fun b2 j i j' i' z1 z2=>?_⟩
 ·have e:b≠a:=fun e=>by subst e;rw [hg]at q;cases q
  rw [aY e];exact w.sub _ _ q
 ·by_cases e:b=a
  ·subst e;exact⟨_,dR⟩
  ·rw [aY e];exact w.live b hb
 ·by_cases hj:j=s
  ·subst hj;rw [gR lL]at z1;cases z1;rw [ha]at z2;cases z2;exact⟨hg,C,dx,_,h0,dR,mT.put d⟩
  ·rw [gS (bV hj)]at z1;have cA:b≠a:=fun e=>by subst e;exact hj (rT w.inj z2 ha)
   exact(w.aB j c' b z1 z2).mono (Ext.refl _ _) rfl (aY cA) ho
 ·have back:∀{j i},gP (upd H a (.ins C dx (hZ f v ws))) ι (Ω.set s (.ins cls (putD f (.val b) fs))) j i b2→gP H ι Ω j i b2:=fun{j i} q=>by
   obtain⟨a',nK,kZ,C',pA,iD,g',h',fd',y1,y2,y3,y4,y5,y6⟩:=q
   by_cases hj:j=s
   ·subst hj;rw [gR lL]at y2;cases y2;rw [ha]at y1;cases y1;rw [dR]at y3;cases y3;have pi:=Ki h2 y4 y5 y6;exact⟨a,cls,fs,C,dx,ws,g',h',fd',ha,h,h1,pi.1,y5,pi.2⟩
   ·rw [gS (bV hj)]at y2;have cA:a'≠a:=fun e=>by subst e;exact hj (rT w.inj y1 ha)
    rw [aY cA]at y3;exact⟨a',nK,kZ,C',pA,iD,g',h',fd',y1,y2,y3,y4,y5,y6⟩
  exact w.sep b2 j i j' i' (back z1) (back z2)
end
section
variable{X:Cx}{W:WX}{e o value:Expr}{f:Str}{cs:List Str}{pos pos':Pos}{fe fo fv:Ev→Mo A}
theorem jT(h:VE X W e fe)(hc:cY X.K cs f)(hb:attributeBase e f X.env (eval e X.env)=eval e X.env:=by rfl):VE X W (.Attribute e f pos) (eT cs f fe):=by
 obtain⟨t,p,s⟩:=h;refine⟨_,FE p hb,fun G ι Ω H σ ρ Q w r h=>?_⟩;refine s G ι Ω H σ ρ _ w r (bF.mb h fun a Ω1 v H1 G1 ι1 x1 w1 d1 h1=>?_);unfold Bi at h1;cases a with
 | aB k =>
  simp only at h1;cases e2:Ω1[k]? with
  | none=>rw [e2]at h1;exact h1.elim
  | some c =>
   rw [e2]at h1;cases c with
   | ins cls fs =>
    simp only at h1
    by_cases gM:cls∈cs
    ·rw [if_pos gM]at h1;cases e3:fs.lookup f with
     | none=>rw [e3]at h1;exact h1.elim
     | some fd =>
      rw [e3]at h1;cases fd with
      | val b =>
       obtain⟨a,C,dx,ws,rfl,ha,hg,h0,hH,hF⟩:=w1.ins e2 d1;obtain⟨C',q0,q1,q2⟩:=hc cls gM;rw [h0]at q0;cases q0;obtain⟨u,l,du⟩:=hF.look e3;exact⟨a,C,dx,ws,u,rfl,hH,q1,q2,l,h1 u H1 G1 ι1 (Ext.refl _ _) w1 du⟩
      | _=>exact h1.elim
    ·rw [if_neg gM]at h1;exact h1.elim
   | _=>exact h1.elim
 | _=>exact h1.elim
theorem pK(ho:VE X W o fo)(hv:VE X W value fv)(hc:cY X.K cs f)(hs:swapsWith value (some (.Attribute o f pos')) pos.line X.env=pure false:=by rfl):VS X W (.Assign [.Attribute o f pos'] value pos) (lU cs f fo fv):=by
 obtain⟨t,p,s⟩:=ho;obtain⟨u,q,z⟩:=hv;refine⟨_,ae9 p q hs,fun G ι Ω H σ ρ D w r h=>?_⟩;refine z G ι Ω H σ ρ _ w r (dU.sM h r fun b Ω1 y H1 G1 ι1 x1 w1 d1 h1=>?_);refine s G1 ι1 Ω1 H1 σ ρ _ w1 (r.ext x1) (dU.sM h1 (r.ext x1) fun a Ω2 v H2 G2 ι2 x2 w2 d2 h2=>?_);cases a with
 | aB k =>
  simp only at h2;cases e2:Ω2[k]? with
  | none=>rw [e2]at h2;exact h2.elim
  | some c =>
   rw [e2]at h2;cases c with
   | ins cls fs =>
    simp only at h2
    by_cases gM:cls∈cs∧fs.length<1000
    ·rw [if_pos gM]at h2;obtain⟨a,C,dx,ws,rfl,ha,hg,h0,hH,hF⟩:=w2.ins e2 d2;obtain⟨C',q0,q1,q2⟩:=hc cls gM.1;rw [h0]at q0;cases q0;refine⟨a,C,dx,ws,rfl,hH,q1,q2,by rw [hF.len];exact gM.2,?_⟩;exact qQ (w2.ac8 e2 ha hg h0 hH hF (d1.ext x2)) ((r.ext x1).ext x2) h2
    ·rw [if_neg gM]at h2;exact h2.elim
   | _=>exact h2.elim
 | _=>exact h2.elim
end
end V2
namespace L2
open PySem PySem.Spec PyProof.Rows
section
variable{X:Cx}{W:WX}{k:Nat}{f C:Addr}{fd:FuncData}{ps:List Str}{sp:Sp}{dvs:List V}{ds:List Value}{x m:Str}{p pos apos:Pos}{e o:Expr}{es:List Expr}{ta:TE}{t:TA}
theorem UZ{pins:List (Addr×Obj)}{σ:St}{H:Hp}{s:Shared}{Q:VK}{us:List Value}{vs:List V}(T:pF X W)(F:gC X.prog X.w X.K X.mg X.base (mI X.prog X.w) k f fd ps sp)(hr:cE k X.A)(hb:Binds X.K fd ps ds)(hd:Vals dvs ds)
  (I:Inv X pins σ H s) (r:Vals vs us) (h:sp (vs++dvs) H Q fun cls dx H'=>W σ cls dx H'):wpAny (model X.prog X.w) X.A (call (.ref f) us) (EP X pins σ Q) X.xe s:=by
 have r2:Vals (vs++dvs) (us++ds):=r.append hd;have hl:(us++ds).length=ps.length:=by rw [← r2.length];exact F.len _ _ _ _ h
 refine wpAny_call (uA (F.run X.A X.stack s H ⟨us,[]⟩ (us++ds) (vs++dvs) Q _ hr I.OQ (hb s us I.fK hl) r2 h) fun r s' hq=>?_);cases r with
 | error ev =>
  obtain⟨a,cls,dx,H',rfl,os,bare,un,aH,ex,q'⟩:=hq;have I2:=(I.IJ os un aH bare (fun b z=>absurd z (by simp))).Kn;exact T.to _ _ ⟨σ,H',a,cls,dx,rfl,I2,(ex.first I T.ex).any,q'⟩
 | ok fl =>
  cases fl with
  | ret u=>exact I.after hq
  | next=>exact False.elim hq
  | brk=>exact False.elim hq
  | cont=>exact False.elim hq
def LK(X:Cx)(W:WX)(m:Str)(ta:TE)(t:TA):TE:=fun σ H Q=>ta σ H fun x H1=>∃a C dx fs k f fd ps ds dvs sp,x = .ref a∧H1 a=some (.ins C dx fs)∧fs.lookup m=none∧lD X.K C∧Meth X.K C m f ∧
 gC X.prog X.w X.K X.mg X.base (mI X.prog X.w) k f fd ps sp∧cE k X.A∧Binds X.K fd ps ds∧Vals dvs ds∧t σ H1 fun vs H2=>sp (.ref a::vs++dvs) H2 Q fun cls dx H'=>W σ cls dx H'
theorem af1{pl:Sem Bool}(T:pF X W)(he:PE X o ta)(ha:PA X (e::es) t)
  (iG:starEach (e::es) X.env=(false,eval e X.env)::starEach es X.env:=by rfl) (dS:(backTo pos (starEach es X.env)).any (·.1)=false:=by rfl)
  (ht:eval (.Call (.Attribute o m apos) (e::es) [] pos) X.env=(do
   let ov ← eval o X.env
   standAt apos.atName
   let (f,first) ← holding [ov] (getMethod ov m pl)
   callWith pos f first (backTo pos (starEach (e::es) X.env)) (backToKw pos (keywordEach [] X.env))):=by rfl) :
  PE X (.Call (.Attribute o m apos) (e::es) [] pos) (LK X W m ta t):=by
 intro pins s σ H Q I h;refine methodCall_KW (pl:=pl) (bA (he pins s σ H _ I h) fun u s1 ⟨x,H1,I1,rx,a,C,dx,fs,k,f,fd,ps,ds,dvs,sp,ex,ea,l,c,hm,F,hr,hb,hd,q⟩=>?_) ht;subst ex;obtain rfl:u=Value.ref a:=rx;refine Bb I1 ea c hm l ?_;refine callWith_K (first:=[.ref a]) (h₀:=X.base) I.ok.mod.vL hm.kp (bA (ha pos pins s1 σ H1 _ I1 q) fun us s2 ⟨vs,H2,I2,r,q2⟩=>⟨I2.fK,?_⟩) iG dS;exact UZ (us := .ref a::us) (vs := .ref a::vs) T F hr hb hd I2 (.cons rfl r) q2
theorem af0{pl:Sem Bool}(T:pF X W)(he:PE X o ta)
  (ht:eval (.Call (.Attribute o m apos) [] [] pos) X.env=(do
   let ov ← eval o X.env
   standAt apos.atName
   let (f,first) ← holding [ov] (getMethod ov m pl)
   callWith pos f first (backTo pos (starEach [] X.env)) (backToKw pos (keywordEach [] X.env))):=by rfl) :
  PE X (.Call (.Attribute o m apos) [] [] pos) (LK X W m ta Hz):=by
 intro pins s σ H Q I h;refine methodCall_KW (pl:=pl) (bA (he pins s σ H _ I h) fun u s1 ⟨x,H1,I1,rx,a,C,dx,fs,k,f,fd,ps,ds,dvs,sp,ex,ea,l,c,hm,F,hr,hb,hd,q⟩=>?_) ht;subst ex;obtain rfl:u=Value.ref a:=rx;refine Bb I1 ea c hm l ?_;exact PySem.W.callWith_K0 (first:=[.ref a]) I1.fK hm.kp (UZ (us:=[.ref a]) (vs:=[.ref a]) T F hr hb hd I1 (.cons rfl .nil) q)
structure Gb(K:Frag)(R:Addr)(m:Str)(f:Addr):Prop where
 reads:readsIn K R (.type "type")=true
 find:findCls K (.ref R) (.type "type") m=some (.val (.ref f))
 ga:specialIn K (.ref R) "__getattribute__" = some (some (.builtin "type.__getattribute__"))
 kp:keepIn K (.ref f)=true
theorem agJ{pl:Sem Bool}{R:Addr}{rk:Str}{np:Pos}(T:pF X W)(B:Gb X.K R m f)(hmR:X.mg rk=some (.ref R))(hg:Gl X rk)(F:gC X.prog X.w X.K X.mg X.base (mI X.prog X.w) k f fd ps sp)(hr:cE k X.A)(hb:Binds X.K fd ps [])(ha:PA X (e::es) t)
  (gH:(rk == ("__debug__" : Str))=false:=by decide) (iG:starEach (e::es) X.env=(false,eval e X.env)::starEach es X.env:=by rfl) (dS:(backTo pos (starEach es X.env)).any (·.1)=false:=by rfl)
  (ht:eval (.Call (.Attribute (.Name rk np) m apos) (e::es) [] pos) X.env=(do
   let ov ← eval (.Name rk np) X.env
   standAt apos.atName
   let (f,first) ← holding [ov] (getMethod ov m pl)
   callWith pos f first (backTo pos (starEach (e::es) X.env)) (backToKw pos (keywordEach [] X.env))):=by rfl) :
  PE X (.Call (.Attribute (.Name rk np) m apos) (e::es) [] pos) (Ii sp W t):=by
 intro pins s σ H Q I h;refine methodCall_KW (pl:=pl) (NF I hg hmR ?_ gH) ht;refine PySem.W.method_cls I.fK B.ga (PySem.W.cls_value I.fK B.reads B.find (Od (v := .ref f) rfl) ?_);have I0:=I.tok (s.toks+1);refine callWith_K (first:=[]) (h₀:=X.base) I.ok.mod.vL B.kp (bA (ha pos pins _ σ H _ I0 h) fun us s2 ⟨vs,H2,I2,r,q2⟩=>⟨I2.fK,?_⟩) iG dS;have q3:sp (vs++[]) H2 Q fun cls dx H'=>W σ cls dx H':=by rw [DI];exact q2
 exact UZ (us:=us) (vs:=vs) (dvs:=[]) T F hr hb .nil I2 r q3
end
end L2
namespace V2
open PySem PySem.Spec PyProof.Rows L2
@[simp] def cK(n:Nat)(das:List A)(F:List A→Mo A):List A→Mo A:=fun as=>if as.length+das.length=n then F (as++das)else stuck
structure cF(P:Program)(w:World)(K:Frag)(mg:Str→Option Value)(base:Heap)(cls m:Str)(k:Nat)(n:Nat)(das:List A)(F:List A→Mo A):Prop where
 ex:∃C f fd ps ds dvs,nsIn K mainGlobals cls=some (some (.ref C))∧lD K C∧Meth K C m f∧ps.length=n∧gC P w K mg base (mI P w) k f fd ps (rO K ps.length F)∧Binds K fd ps ds∧Vals dvs ds∧∀G ι,aN K G ι dvs das
@[simp] def OK(m:Str)(tab:List (Str×(List A→Mo A)))(fs:Mo (List A))(a:A):Mo A:=fun Ω=>match a with
 | .aB s=>match Ω[s]? with
  | some (.ins cls Bk)=>match tab.lookup cls,Bk.lookup m with
   | some F,none=>mb fs (fun as=>F (.aB s::as)) Ω
   | _,_=>none
  | _=>none
 | _=>none
@[simp] def cP(m:Str)(tab:List (Str×(List A→Mo A)))(fo:Ev→Mo A)(fs:Ev→Mo (List A)):Ev→Mo A:=fun ρ=>mb (fo ρ) (OK m tab (fs ρ))
def bW(X:Cx)(m:Str)(tab:List (Str×(List A→Mo A))):Prop:=∀cls F,tab.lookup cls=some F→∃k n das F0,F=cK n das F0∧cE k X.A∧cF X.prog X.w X.K X.mg X.base cls m k n das F0
section
variable{X:Cx}{W:WX}{m:Str}{tab:List (Str×(List A→Mo A))}{o e:Expr}{es:List Expr}{fo:Ev→Mo A}{fs:Ev→Mo (List A)}{pos apos:Pos}
theorem bW.nil:bW X m []:=fun cls F h=>by simp at h
theorem bW.cons{cls:Str}{k n:Nat}{das:List A}{F:List A→Mo A}(h:cF X.prog X.w X.K X.mg X.base cls m k n das F)(hr:cE k X.A)(t:bW X m tab):bW X m ((cls,cK n das F)::tab):=fun c F' q=>by
 by_cases e:c=cls
 ·subst e;simp [List.lookup]at q;exact⟨k,n,das,F,q.symm,hr,h⟩
 ·have hb:(c == cls)=false:=sJ.mpr e;simp only [List.lookup,hb]at q;exact t c F' q
theorem TM{ta:TE}{t:TA}(yC:bW X m tab)(s1:eQ X.K (Den X.K) W ta fo)(s2:eQ X.K (aN X.K) W t fs):eQ X.K (Den X.K) W (LK X W m ta t) (cP m tab fo fs):=by
 intro G ι Ω H σ ρ Q w r h;refine s1 G ι Ω H σ ρ _ w r (bF.mb h fun a Ω1 v H1 G1 ι1 x1 w1 d1 h1=>?_);unfold OK at h1;cases a with
 | aB s =>
  simp only at h1;cases e2:Ω1[s]? with
  | none=>rw [e2]at h1;exact h1.elim
  | some c =>
   rw [e2]at h1;cases c with
   | ins cls Bk =>
    simp only at h1;cases e3:tab.lookup cls with
    | none=>rw [e3]at h1;exact h1.elim
    | some F =>
     rw [e3]at h1;cases e4:Bk.lookup m with
     | some _=>rw [e4]at h1;exact h1.elim
     | none =>
      rw [e4]at h1;obtain⟨k,n,das,F0,rfl,hr,MV⟩:=yC cls F e3;obtain⟨C,f,fd,ps,ds,dvs,hC,gM,NV,hn,FO,hb,hv,hda⟩:=MV.ex;obtain⟨a,C',dx,ws,rfl,ha,hg,h0,hH,hF⟩:=w1.ins e2 d1;rw [hC]at h0;cases h0;refine⟨a,C,dx,ws,k,f,fd,ps,ds,dvs,_,rfl,hH,hF.ahP e4,gM,NV,FO,hr,hb,hv,?_⟩;refine s2 G1 ι1 Ω1 H1 σ ρ _ w1 (r.ext x1) (bF.mb h1 fun as Ω2 vs H2 G2 ι2 x2 w2 d2 h2=>?_);unfold cK at h2;split at h2
      ·rename_i hl;have dd:aN X.K G2 ι2 (.ref a::vs++dvs) (.aB s::as++das):=(aN.cons (by simp only [Den]at d1 ⊢;obtain⟨a2,e5,e6⟩:=d1;exact⟨a2,e5,x2.pre _ _ e6⟩) d2).append (hda _ _);refine⟨?_,G2,ι2,Ω2,.aB s::as++das,w2,dd,Co h2 (Ext.refl _ _)⟩;have:=dd.length;rw [this,hn];simp only [sP,jP]at hl ⊢;omega
      ·exact h2.elim
   | _=>exact h1.elim
 | _=>exact h1.elim
theorem qM{pl:Sem Bool}(T:pF X W)(yC:bW X m tab)(ho:VE X W o fo)(ha:VA X W (e::es) fs)
  (iG:starEach (e::es) X.env=(false,eval e X.env)::starEach es X.env:=by rfl) (dS:(backTo pos (starEach es X.env)).any (·.1)=false:=by rfl)
  (ht:eval (.Call (.Attribute o m apos) (e::es) [] pos) X.env=(do
   let ov ← eval o X.env
   standAt apos.atName
   let (f,first) ← holding [ov] (getMethod ov m pl)
   callWith pos f first (backTo pos (starEach (e::es) X.env)) (backToKw pos (keywordEach [] X.env))):=by rfl) :
  VE X W (.Call (.Attribute o m apos) (e::es) [] pos) (cP m tab fo fs):=by
 obtain⟨ta,p1,s1⟩:=ho;obtain⟨t,p2,s2⟩:=ha;exact⟨_,af1 T p1 p2 iG dS ht,TM yC s1 s2⟩
theorem nA{pl:Sem Bool}(T:pF X W)(yC:bW X m tab)(ho:VE X W o fo)
  (ht:eval (.Call (.Attribute o m apos) [] [] pos) X.env=(do
   let ov ← eval o X.env
   standAt apos.atName
   let (f,first) ← holding [ov] (getMethod ov m pl)
   callWith pos f first (backTo pos (starEach [] X.env)) (backToKw pos (keywordEach [] X.env))):=by rfl) :
  VE X W (.Call (.Attribute o m apos) [] [] pos) (cP m tab fo a0):=by
 obtain⟨ta,p1,s1⟩:=ho;refine⟨_,af0 T p1 ht,TM yC s1 ?_⟩;intro G ι Ω H σ ρ Q w r h;exact h [] H G ι (Ext.refl _ _) w .nil
structure wK(P:Program)(w:World)(K:Frag)(mg:Str→Option Value)(base:Heap)(cls:Str)(k:Nat)(n:Nat)(F:List A→Mo A):Prop where
 ex:∃C f fd ps,nsIn K mainGlobals cls=some (some (.ref C))∧mg cls=some (.ref C)∧Mk K C f∧ps.length=n∧gC P w K mg base (mI P w) k f fd ps (rO K ps.length F)∧Binds K fd ps []
@[simp] def BX(cls:Str)(n:Nat)(F:List A→Mo A)(as:List A):Mo A:=fun Ω=>if as.length+1=n then match F (.aB Ω.length::as) (Ω++[.ins cls []])with
 | some (.ok .bH,Ω2)=>some (.ok (.aB Ω.length),Ω2)
 | _=>none else none
theorem Vn{cls:Str}{k n:Nat}{F:List A→Mo A}{p:Pos}(M:wK X.prog X.w X.K X.mg X.base cls k n F)(hr:cE (k+1) X.A)(hg:Gl X cls)(ha:VA X W (e::es) fs)
  (gH:(cls == ("__debug__" : Str))=false:=by decide) (he:starEach (e::es) X.env=(false,eval e X.env)::starEach es X.env:=by rfl) (dS:(backTo pos (starEach es X.env)).any (·.1)=false:=by rfl) :
  VE X W (.Call (.Name cls p) (e::es) [] pos) (aW (BX cls n F) fs):=by
 obtain⟨C,f,fd,ps,hC,hm,mk,hn,FO,hb⟩:=M.ex;obtain⟨t,p1,s1⟩:=ha;refine⟨_,af3 mk (Cn FO) hr hg hm hb .nil agN p1 gH he dS,fun G ι Ω H σ ρ Q w r h=>?_⟩;refine s1 G ι Ω H σ ρ _ w r (bF.mb h fun as Ω1 vs H1 G1 ι1 x1 w1 d1 h1=>?_);unfold BX at h1
 by_cases hl:as.length+1=n
 ·rw [if_pos hl]at h1;intro x dx hx OB cA;have wA:=w1.grow (H':=upd H1 dx (.own x)) (gJ.new OB);have rZ:upd H1 dx (.own x) x=none:=by rw [aY (bV cA)];exact hx
  have wB:Wd X.K G1 (ι1++[x]) (Ω1++[.ins cls []]) (upd (upd H1 dx (.own x)) x (.ins C dx [])):=wA.cell rZ ⟨w1.nV hx,C,dx,[],hC,dR,trivial⟩;have pA:aN X.K G1 (ι1++[x]) (.ref x::(vs++[])) (.aB Ω1.length::as) := .cons (by simp only [Den];exact⟨x,rfl,by rw [← w1.len];simp⟩) (by rw [DI];exact d1.ext (Ext.cell x));refine⟨by rw [pA.length,hn];simpa using hl,G1,ι1++[x],_,_,wB,pA,?_⟩
  revert h1
  generalize F (.aB Ω1.length::as) (Ω1++[.ins cls []])=q;intro h1
  match q,h1 with
  | some (.ok .bH,Ω2),h1 =>
   intro v H' G' ι' e' w' d';simp only [Den]at d';subst d';refine⟨rfl,h1 (.ref x) H' G' ι' ⟨e'.same,fun k a q=>e'.pre k a (by rw [fV (bX.mp q).1];exact q)⟩ w' ?_⟩;simp only [Den];exact⟨x,rfl,e'.pre _ _ (by rw [← w1.len];simp)⟩
 ·rw [if_neg hl]at h1;exact h1.elim
structure sQ(P:Program)(w:World)(K:Frag)(mg:Str→Option Value)(base:Heap)(rk m:Str)(k:Nat)(n:Nat)(F:List A→Mo A):Prop where
 ex:∃R f fd ps,mg rk=some (.ref R)∧Gb K R m f∧ps.length=n∧gC P w K mg base (mI P w) k f fd ps (rO K ps.length F)∧Binds K fd ps []
theorem Vz{pl:Sem Bool}{rk:Str}{k n:Nat}{F:List A→Mo A}{np:Pos}(T:pF X W)(B:sQ X.prog X.w X.K X.mg X.base rk m k n F)(hg:Gl X rk)(hr:cE k X.A)(ha:VA X W (e::es) fs)
  (gH:(rk == ("__debug__" : Str))=false:=by decide) (iG:starEach (e::es) X.env=(false,eval e X.env)::starEach es X.env:=by rfl) (dS:(backTo pos (starEach es X.env)).any (·.1)=false:=by rfl)
  (ht:eval (.Call (.Attribute (.Name rk np) m apos) (e::es) [] pos) X.env=(do
   let ov ← eval (.Name rk np) X.env
   standAt apos.atName
   let (f,first) ← holding [ov] (getMethod ov m pl)
   callWith pos f first (backTo pos (starEach (e::es) X.env)) (backToKw pos (keywordEach [] X.env))):=by rfl) :
  VE X W (.Call (.Attribute (.Name rk np) m apos) (e::es) [] pos) (aW (eB n F) fs):=by
 obtain⟨R,f,fd,ps,hm,BM,hn,FO,hb⟩:=B.ex;obtain⟨t,p1,s1⟩:=ha;refine⟨_,agJ T BM hm hg FO hr hb p1 gH iG dS ht,fun G ι Ω H σ ρ Q w r h=>?_⟩;refine s1 G ι Ω H σ ρ _ w r (bF.mb h fun as Ω1 vs H1 G1 ι1 x1 w1 d1 h1=>?_);unfold eB at h1;split at h1
 ·rename_i hl;exact⟨by rw [d1.length,hn];exact hl,G1,ι1,Ω1,as,w1,d1,Co h1 (Ext.refl _ _)⟩
 ·exact False.elim h1
end
def vG(cs:List Str)(i:Nat)(f:Str)(ρ:Ev)(Ω:aI):Option (Nat×Str×List (Str×Fd)×Fd):=match (ρ[i]?).join with
 | some (.aB s)=>match Ω[s]? with
  | some (.ins cls fs)=>if cls∈cs then(fs.lookup f).map fun fd=>(s,cls,fs,fd)else none
  | _=>none
 | _=>none
abbrev kU(Ω:aI)(s:Nat)(cls f:Str)(fs:List (Str×Fd))(c:Cell):aI:=Ω.set s (.ins cls (putD f (.val (.aB Ω.length)) fs))++[c]
section
variable{cs:List Str}{i:Nat}{f:Str}{ρ:Ev}{Ω:aI}{s:Nat}{cls:Str}{fs:List (Str×Fd)}{fd fd':Fd}{c c':Cell}
theorem Kw(h:vG cs i f ρ Ω=some (s,cls,fs,fd)):ρ[i]? = some (some (.aB s))∧Ω[s]? = some (.ins cls fs)∧cls∈cs∧fs.lookup f=some fd:=by
 unfold vG at h;cases e1:(ρ[i]?).join with
 | none=>rw [e1]at h;cases h
 | some d =>
  rw [e1]at h;cases d with
  | aB k =>
   simp only at h;cases e2:Ω[k]? with
   | none=>rw [e2]at h;cases h
   | some c =>
    rw [e2]at h;cases c with
    | ins nK kZ =>
     simp only at h
     by_cases hc:nK∈cs
     ·rw [if_pos hc]at h;cases e3:kZ.lookup f with
      | none=>rw [e3]at h;cases h
      | some x =>
       rw [e3]at h;cases h;exact⟨join_some e1,e2,hc,e3⟩
     ·rw [if_neg hc]at h;cases h
    | _=>cases h
  | _=>cases h
theorem Ck{n:Nat}{f:Str}{fd:Fd}:∀{fs:List (Str×Fd)},oF n fs→qH n fd→oF n (putD f fd fs)
 | [],_,h=>⟨h,trivial⟩
 | (g,x)::r,c,h=>by
  by_cases e:g=f
  ·simp only [putD,if_pos e];exact⟨h,c.2⟩
  ·simp only [putD,if_neg e];exact⟨c.1,Ck c.2 h⟩
theorem Lz(h:vG cs i f ρ Ω=some (s,cls,fs,fd)):(kU Ω s cls f fs c)[Ω.length]? = some c:=by
 rw [nP (by simp)];simp
theorem Ly(h:vG cs i f ρ Ω=some (s,cls,fs,fd)):eT cs f (dH i) ρ (kU Ω s cls f fs c)=some (.ok (.aB Ω.length),kU Ω s cls f fs c):=by
 obtain⟨h1,h2,h3,h4⟩:=Kw h;have hs:s<Ω.length:=(bX.mp h2).1;have e:(kU Ω s cls f fs c)[s]? = some (.ins cls (putD f (.val (.aB Ω.length)) fs)):=by
  rw [fV (by simpa using hs),gR hs]
 have l:(putD f (Fd.val (.aB Ω.length)) fs).lookup f=some (.val (.aB Ω.length)):=by rw [ML,if_pos rfl]
 have tW:(ρ[i]?).join=some (.aB s):=by rw [h1];rfl
 simp only [eT,dH,need,mb,tW,IX,Bi,e,if_pos h3,l]
theorem aiS(c2:Cell):(kU Ω s cls f fs c).set Ω.length c2=kU Ω s cls f fs c2:=by
 unfold kU;rw [Et _ _ (by simp)];simp
end
theorem Qu{n:Nat}:∀{ds:List A} {i:Nat} {d:A},fX n ds→ds[i]? = some d→Cl n d
 | [],_,_,_,h=>by simp at h
 | _::_,0,_,c,h=>by simp at h;subst h;exact c.1
 | _::ds,i+1,_,c,h=>Qu (ds:=ds) c.2 (by simpa using h)
def zQ(i:Nat)(f:Str)(g:MS)(ρ:Ev)(Ω:aI)(r:Out×Ev×aI):Prop :=
 ∃s cls fs fd c Ωa fd' c',ρ[i]? = some (some (.aB s))∧Ω[s]? = some (.ins cls fs)∧fs.lookup f=some fd∧fd.cell=some c∧g ρ (kU Ω s cls f fs c)=some (.nx,r.2.1,Ωa++[c'])∧Ωa.length=Ω.length ∧
  Ωa[s]? = some (.ins cls (putD f (.val (.aB Ω.length)) fs))∧fd'.cell=some c'∧(∀(k:Nat) (x:Cell),k≠s→Ωa[k]? = some x→Ω[k]? = some x∨DN Ω.length x)∧(fd'=fd∨qH Ω.length fd') ∧
  (∀(j:Nat) (d:A),r.2.1[j]? = some (some d)→ρ[j]? = some (some d)∨Cl Ω.length d)∧r.1 = .nx∧r.2.2=Ωa.set s (.ins cls (putD f fd' fs))
open Classical in
noncomputable def uY(i:Nat)(f:Str)(g:MS):MS:=fun ρ Ω=>if h:∃r,zQ i f g ρ Ω r then some (Classical.choose h)else none
theorem ap7{a b:Fd}{c:Cell}(h1:a.cell=some c)(h2:b.cell=some c):a=b:=by
 cases a with
 | val x=>cases h1
 | lst ds=>cases b with
  | lst es=>cases h1;cases h2;rfl
  | val _=>cases h2
  | aU _=>cases h1;cases h2
 | aU kvs=>cases b with
  | aU es=>cases h1;cases h2;rfl
  | val _=>cases h2
  | lst _=>cases h1;cases h2
theorem zQ.uniq{i:Nat}{f:Str}{g:MS}{ρ:Ev}{Ω:aI}{r r':Out×Ev×aI}(h:zQ i f g ρ Ω r)(h':zQ i f g ρ Ω r'):r=r':=by
 obtain⟨s,cls,fs,fd,c,Ωa,Ph,c1,a1,a2,a3,a4,a5,a6,a7,a8,a9,Sj,Si,Du,Ds⟩:=h;obtain⟨s',nK,kZ,fd',c',Ωb,fd2,c2,b1,b2,b3,b4,b5,b6,b7,b8,b9,b10,b11,b12,b13⟩:=h';rw [a1]at b1;cases b1;rw [a2]at b2;cases b2;rw [a3]at b3;cases b3;rw [a4]at b4;cases b4;rw [a5]at b5;obtain⟨r1,r2,r3⟩:=r;obtain⟨p1,p2,p3⟩:=r';simp only [jB,Dz,true_and]at *;obtain⟨e1,e2⟩:=b5;obtain⟨rfl,e3⟩:=List.append_inj' e2 rfl;simp only [JF,and_true]at e3;subst e3;have:=ap7 a8 b8;subst this;subst Du b12;exact⟨rfl,e1,by rw [Ds,b13]⟩
theorem adR{i:Nat}{f:Str}{g:MS}{ρ:Ev}{Ω:aI}{r:Out×Ev×aI}(h:zQ i f g ρ Ω r):uY i f g ρ Ω=some r:=by
 have ex:∃r,zQ i f g ρ Ω r:=⟨r,h⟩;unfold uY;rw [dif_pos ex];exact congrArg some (zQ.uniq (Classical.choose_spec ex) h)
section
variable{X:Cx}{W:WX}{st:Stmt}{f:Str}{cs:List Str}{i:Nat}{pos atF apos lA as8:Pos}{gs:MS}{x:Str}
theorem Gr(h:VS X W st gs):VS X W st (uY i f gs):=by
 refine Vh h fun ρ Ω r cl hd=>?_;unfold uY at hd;split at hd
 ·rename_i ex;cases hd;generalize hr:Classical.choose ex=r;have jZ:=Classical.choose_spec ex;rw [hr]at jZ;obtain⟨s,cls,fs,fd,c,Ωa,Ph,c1,a1,a2,a3,a4,a5,a6,a7,a8,a9,Sj,Si,Du,Ds⟩:=jZ;obtain⟨ix,e1,_⟩:=NA a3;have hfd:qH Ω.length fd:=(cl.aB s _ a2:oF _ fs).get e1;refine⟨s,f,_,Ωa++[c1],⟨cls,fs,fd,c,a2,a3,a4,rfl⟩,a5,⟨Ωa,c1,cls,_,Ph,rfl,a6,a7,by rw [ML,if_pos rfl],a8,fun k x hk hx=>?_,?_,by rw [FD];exact Ds⟩,fun j d hj=>?_,Du⟩
  ·rcases a9 k x hk hx with z | z
   ·exact cl.aB k x z
   ·exact z
  ·rw [FD];exact Ck (cl.aB s _ a2:oF _ fs) (by rcases Sj with z | z;exact z ▸ hfd;exact z)
  ·rcases Si j d hj with z | z
   ·exact cl.env j d z
   ·exact z
 ·cases hd
end
def xP(cs:List Str)(i:Nat)(ρ:Ev)(Ω:aI):Option (Nat×Str×List (Str×Fd)):=match (ρ[i]?).join with
 | some (.aB s)=>match Ω[s]? with
  | some (.ins cls fs)=>if cls∈cs then some (s,cls,fs)else none
  | _=>none
 | _=>none
theorem ahF{cs:List Str}{i:Nat}{ρ:Ev}{Ω:aI}{s:Nat}{cls:Str}{fs:List (Str×Fd)}(h:xP cs i ρ Ω=some (s,cls,fs)):ρ[i]? = some (some (.aB s))∧Ω[s]? = some (.ins cls fs)∧cls∈cs:=by
 unfold xP at h;cases e1:(ρ[i]?).join with
 | none=>rw [e1]at h;cases h
 | some d =>
  rw [e1]at h;cases d with
  | aB k =>
   simp only at h;cases e2:Ω[k]? with
   | none=>rw [e2]at h;cases h
   | some c =>
    rw [e2]at h;cases c with
    | ins nK kZ =>
     simp only at h
     by_cases hc:nK∈cs
     ·rw [if_pos hc]at h;cases h;exact⟨join_some e1,e2,hc⟩
     ·rw [if_neg hc]at h;cases h
    | _=>cases h
  | _=>cases h
@[simp] def Fd.BB:Cell→Option Fd
 | .lst ds=>some (.lst ds)
 | .aU kvs=>some (.aU kvs)
 | _=>none
theorem Fd.ahD{c:Cell}{fd:Fd}(h:Fd.BB c=some fd):fd.cell=some c:=by
 cases c <;> cases h <;> rfl
open Classical in
@[simp] noncomputable def uZ(cs:List Str)(i:Nat)(f:Str)(fv:Ev→Mo A):MS:=fun ρ Ω=>match xP cs i ρ Ω with
 | some (s,cls,fs)=>match fv ρ Ω with
  | some (.ok (.aB n),Ω1)=>match Ω1[Ω.length]? with
   | some c=>match Fd.BB c with
    | some fd=>if n=Ω.length∧Ω1=Ω++[c]∧fs.length<1000∧qH Ω.length fd then some (.nx,ρ,Ω.set s (.ins cls (putD f fd fs)))else none
    | none=>none
   | none=>none
  | _=>none
 | none=>none
section
variable{X:Cx}{W:WX}{st:Stmt}{f:Str}{cs:List Str}{i:Nat}{fv:Ev→Mo A}
theorem Gs(h:VS X W st (lU cs f (dH i) fv)):VS X W st (uZ cs i f fv):=by
 obtain⟨t,p,sm⟩:=h;refine⟨t,p,fun G ι Ω H σ ρ D w r h=>?_⟩;have cl:=w.wF r;unfold uZ at h;split at h
 ·rename_i s cls fs eo;split at h
  ·rename_i n Ω1 e1;split at h
   ·rename_i c e2;split at h
    ·rename_i fd e3;split at h
     ·rename_i hc;obtain⟨rfl,rfl,hl,gM⟩:=hc;obtain⟨h1,h2,h3⟩:=ahF eo;have lL:s<Ω.length:=(bX.mp h2).1;have OD:=Fd.ahD e3;refine sm G ι Ω H σ ρ D w r ?_;have tW:(ρ[i]?).join=some (.aB s):=by rw [h1];rfl
      have mT:(Ω++[c])[s]? = some (.ins cls fs):=by rw [fV lL];exact h2
      have e:lU cs f (dH i) fv ρ Ω=some (.nx,ρ,Ω.set s (.ins cls (putD f (.val (.aB Ω.length)) fs))++[c]):=by
       simp only [lU,sM,e1,dH,need,tW,IX,mT,if_pos (And.intro h3 hl)];rw [Ub _ _ lL]
      rw [e];intro σ' H' G' ι' ex w' r';have wf:=w'.fold (s:=s) (f:=f) (fd:=fd) (cls:=cls) (fs:=putD f (.val (.aB Ω.length)) fs) (gR lL) (by rw [ML,if_pos rfl];simp) OD (fun k x hk hx=>by
       rw [gS (bV hk)]at hx;have:=cl.aB k x hx;simpa using this) (by
       rw [FD];have:=Ck (f:=f) (cl.aB s _ h2:oF _ fs) gM;simpa using this)
      rw [FD,rF,zO]at wf;refine h σ' H' G' (ι'.take Ω.length) ⟨ex.same,fun k x q=>?_⟩ wf (Pr r' fun j d hj=>cl.env j d hj);have hk:=(bX.mp q).1;rw [zP,if_pos (by rw [← w.len];exact hk)];exact ex.pre k x q
     ·exact h.elim
    ·exact h.elim
   ·exact h.elim
  ·exact h.elim
 ·exact h.elim
end
theorem IG{K:Frag}{f:Str}:cY K [] f:=fun cls h=>by simp at h
theorem IH{K:Frag}{f cls:Str}{cs:List Str}{C:Addr}(h1:nsIn K mainGlobals cls=some (some (.ref C)))(h2:lD K C)(h3:findIn K (.ref C) f=some none)(t:cY K cs f):cY K (cls::cs) f:=fun c h=>by
 rcases eN.mp h with e | e
 ·subst e;exact⟨C,h1,h2,h3⟩
 ·exact t c e
section
variable{P:Program}{w:World}{K:Frag}{mg:Str→Option Value}{base:Heap}
theorem Bn{x qual:Str}{st:Stmt}{N ps:List Str}{k:Nat}{b:MS}{f:Addr}{fd:FuncData}(F:oE K x qual st f fd)(S:dI N ps (aZ st))
  (kD:∀(f:Addr) (aV:Value) (A:Around) (outer:List Env) (s:Shared) (H:Hp) (E:XK),cE k (A.deeper (envOfC qual (aZ st) s.heap.objs.size f aV)) →
   lO (pB P w K mg base N qual (aZ st) f aV A outer s H E) (fun _=>E) (fB st) b):gC P w K mg base (mI P w) (k+1) f fd ps (rO K ps.length (eE N.length b)):=by
 obtain⟨oc,od,kV,doc,pm,an,aV,ct,iQ,rfl,lk,kB⟩:=F.ex;refine HY lk kB S (fun vs H Q E h=>h.1) fun A outer s H vs Q E hr jZ=>?_;obtain⟨t,p,q⟩:=kD f aV A outer s H E hr;exact⟨t,ND p,Cr q jZ⟩
structure lR(K:Frag)(mg:Str→Option Value)(cls m qual:Str)(st:Stmt):Prop where
 ex:∃C f fd,nsIn K mainGlobals cls=some (some (.ref C))∧mg cls=some (.ref C)∧lD K C∧Meth K C m f∧oE K m qual st f fd
theorem cF.of{cls m qual:Str}{st:Stmt}{N ps:List Str}{k:Nat}{b:MS}(h:lR K mg cls m qual st)(S:dI N ps (aZ st))
  (bind:∀(kV doc pm:Value) (an:Option Addr) (aV ct:Value) (us:List Value),us.length=ps.length→bindArgs (fnOf m qual (kN st) (fB st) (aZ st) .none kV doc pm an aV ct) ⟨us,[]⟩=pure (ps.zip us))
  (kD:∀(f:Addr) (aV:Value) (A:Around) (outer:List Env) (s:Shared) (H:Hp) (E:XK),cE k (A.deeper (envOfC qual (aZ st) s.heap.objs.size f aV)) →
   lO (pB P w K mg base N qual (aZ st) f aV A outer s H E) (fun _=>E) (fB st) b):cF P w K mg base cls m (k+1) ps.length [] (eE N.length b):=by
 obtain⟨C,f,fd,h1,_,h2,h3,F⟩:=h.ex;exact⟨C,f,fd,ps,[],[],h1,h2,h3,rfl,Bn F S kD,F.binds bind,.nil,fun _ _ => .nil⟩
theorem cF.none{cls m qual:Str}{st:Stmt}{N ps:List Str}{k n:Nat}(h:lR K mg cls m qual st)(hn:ps.length=n)(bind:∀(kV doc pm:Value) (an:Option Addr) (aV ct:Value) (us:List Value),us.length=ps.length→bindArgs (fnOf m qual (kN st) (fB st) (aZ st) .none kV doc pm an aV ct) ⟨us,[]⟩=pure (ps.zip us)) :
  cF P w K mg base cls m k n [] (fun _=>stuck):=by
 obtain⟨C,f,fd,h1,_,h2,h3,F⟩:=h.ex;exact⟨C,f,fd,ps,[],[],h1,h2,h3,hn,⟨fun vs H Q E h=>h.1,fun A outer s H args us vs Q E hr he hb hv hs=>by obtain⟨_,_,_,_,_,_,_,q⟩:=hs;exact q.elim⟩,F.binds bind,.nil,fun _ _ => .nil⟩
structure QV(K:Frag)(mg:Str→Option Value)(cls qual:Str)(st:Stmt):Prop where
 ex:∃C f fd,nsIn K mainGlobals cls=some (some (.ref C))∧mg cls=some (.ref C)∧Mk K C f∧oE K "__init__" qual st f fd
theorem wK.of{cls qual:Str}{st:Stmt}{N ps:List Str}{k:Nat}{b:MS}(h:QV K mg cls qual st)(S:dI N ps (aZ st))
  (bind:∀(kV doc pm:Value) (an:Option Addr) (aV ct:Value) (us:List Value),us.length=ps.length→bindArgs (fnOf "__init__" qual (kN st) (fB st) (aZ st) .none kV doc pm an aV ct) ⟨us,[]⟩=pure (ps.zip us))
  (kD:∀(f:Addr) (aV:Value) (A:Around) (outer:List Env) (s:Shared) (H:Hp) (E:XK),cE k (A.deeper (envOfC qual (aZ st) s.heap.objs.size f aV)) →
   lO (pB P w K mg base N qual (aZ st) f aV A outer s H E) (fun _=>E) (fB st) b):wK P w K mg base cls (k+1) ps.length (eE N.length b):=by
 obtain⟨C,f,fd,h1,h2,h3,F⟩:=h.ex;exact⟨C,f,fd,ps,h1,h2,h3,rfl,Bn F S kD,F.binds bind⟩
structure JL(K:Frag)(mg:Str→Option Value)(rk m qual:Str)(st:Stmt):Prop where
 ex:∃R f fd,mg rk=some (.ref R)∧Gb K R m f∧oE K m qual st f fd
theorem sQ.of{rk m qual:Str}{st:Stmt}{N ps:List Str}{k:Nat}{b:MS}(h:JL K mg rk m qual st)(S:dI N ps (aZ st))
  (bind:∀(kV doc pm:Value) (an:Option Addr) (aV ct:Value) (us:List Value),us.length=ps.length→bindArgs (fnOf m qual (kN st) (fB st) (aZ st) .none kV doc pm an aV ct) ⟨us,[]⟩=pure (ps.zip us))
  (kD:∀(f:Addr) (aV:Value) (A:Around) (outer:List Env) (s:Shared) (H:Hp) (E:XK),cE k (A.deeper (envOfC qual (aZ st) s.heap.objs.size f aV)) →
   lO (pB P w K mg base N qual (aZ st) f aV A outer s H E) (fun _=>E) (fB st) b):sQ P w K mg base rk m (k+1) ps.length (eE N.length b):=by
 obtain⟨R,f,fd,h1,h2,F⟩:=h.ex;exact⟨R,f,fd,ps,h1,h2,rfl,Bn F S kD,F.binds bind⟩
end
theorem Inv.Hn{X:Cx}{pins:List (Addr×Obj)}{σ:L2.St}{H:Hp}{s:Shared}{h':Heap}{t':Nat}{ch:List Addr}(I:Inv X pins σ H s)(k:∀b o,b∉ch→s.heap.get? b=some o→h'.get? b=some o)(hf:∀b∈ch,pH X pins H b):Inv X pins σ H { s with heap:=h',toks:=t' }:=by
 have ne:∀b u,H b=some u→b∉ch:=fun b u q z=>by rw [(hf b z).1]at q;cases q
 refine I.step (g':=s.gens) (d':=s.drawn) (ch:=ch) (fun b hb=>?_) (fun b o _ _ hc q _=>k b o hc q) (fun b o _ _ hc q _=>⟨o.slots,k b o hc q⟩) (fun _ _ _ _ n=>n)
  (fun b o hc q=>⟨o,k b o hc q⟩) (fun _ _ q=>q) (fun _ _ _ q=>q) (fun b ps q=>⟨#[],by rw [q];simp⟩) (fun m hm=>?_) (fun b u q=>?_) I.bare
 ·obtain⟨a0,a1,a2,a3,a4,a5⟩:=hf b hb;exact⟨a3,a1,a4,a5⟩
 ·obtain⟨o,es,ep,ho,r⟩:=hm;exact⟨o,es,ep,k _ o (fun z=>(hf _ z).2.1 rfl) ho,r⟩
 ·refine(I.aH b u q).nC (fun c v hc q'=>k c v ?_ q') (fun _ q=>q) fun _ _ q=>q
  rcases hc with z | z
  ·rw [z];exact ne b u q
  ·exact ne c _ z
open PySem PySem.Spec PyProof PyProof.Rows L2
end V2
namespace L2
open PySem PySem.Spec PyProof.Rows
section
variable{X:Cx}
theorem ae4{elt tg iter:Expr}{ifs:List Expr}{scope:Scope}{pos EN pos':Pos}{ls:List Str}{js:List Nat}{wi:TI}{g:TG}{tc:TT}{te:TE}{k:Nat}{x:Str}(hN:X.N.Nodup)(tS:X.N[k]? = some x)(rZ:Loc X.env.scope x)(hc:X.calm=true)(L:wN X scope ls js)(hi:PI X tg iter wi)
  (hb:∀cl C s H fp,PG (eV X scope ls js cl C s H fp) tg g∧CT (eV X scope ls js cl C s H fp) ifs tc∧PE (eV X scope ls js cl C s H fp) elt te)
  (YS:swapsWith (.ListComp elt [⟨tg,iter,ifs,0⟩] scope pos) (some (.Name x pos')) EN.line X.env=pure true)
  (hs:∀x,foldedSetIterable iter X.env x=pure x) (hf:X.fn x=true∨X.env.scope.names.lookup x=some .local):PS X (.Assign [.Name x pos'] (.ListComp elt [⟨tg,iter,ifs,0⟩] scope pos) EN) (LM (SU ls js wi g tc te) (Bf k)):=by
 intro pins s σ H D I h;obtain⟨cl,gM,gX,iI⟩:=Qs (scope:=scope) (env:=X.env) fun y hy hf=>I.ok.has y.1 (L.free y hy hf);rw [exec_Assign_Name_used _ _ _ _ YS];refine aF (wpAny_standAt (aF ?_));show wpAny _ X.A (do let _ ← comprehension (.ListComp elt [⟨tg,iter,ifs,0⟩] scope pos) scope X.env _ (newList []) false (eval iter X.env) (some (assign (.Name x pos') X.env))) _ _ s;refine aF (lF (wpAny_comprehension_free (use:=some (assign (.Name x pos') X.env)) (Q:=fun _ s'=>SP X pins D .next s') rfl hs gM L.kind L.names (bA (hi pins s σ H _ I h) fun v s1 h1=>bA h1 fun NI s2 h2=>?_)) (fun _ s' hq=>aS (aS hq)) fun _ _ e=>e);obtain⟨it,fp,tn,J,H1,e,I2,T,xD,f2,h2⟩:=h2;subst e;refine mK (wpAny_newFunctionEnv L.cell (by intro y hy;simp at hy) (fun h₁ yH yE=>?_) L.kind);dsimp only at yH yE ⊢;generalize yO:s2.heap.push { cls := .type "list",dict:=none,data := .seq ([]:List Value).toArray }=G2 at yH yE ⊢;have OG:G2.objs.size=s2.heap.objs.size+1:=by rw [← yO,zV]
 have HL:H1 s2.heap.objs.size=none:=I2.aH.fresh bP;have Ae:H1 G2.objs.size=none:=I2.aH.fresh (by omega);have Ac:s2.heap.objs.size≠G2.objs.size:=by omega
 have Ab:G2.get? s2.heap.objs.size=some { cls := .type "list",dict:=none,data := .seq ([]:List Value).toArray }:=by rw [← yO];exact eY _ rfl
 have xU:∀b o,s2.heap.get? b=some o→G2.get? b=some o:=fun b o e=>by rw [← yO];exact cH _ e
 have I3:Inv X pins σ (upd H1 s2.heap.objs.size (.lst [])) { s2 with heap:=G2,toks:=s2.toks } :=
  I2.laid (t':=s2.toks) xU bP (show fN X.prog X.w _ G2 _ (.lst [])from⟨by simp,[],0,.nil,Ab⟩)
 have xV:∀b o,G2.get? b=some o→h₁.get? b=some o:=fun b o e=>(yE.2 b (dA (cO e))).trans (cH _ e);have I4:Inv X pins σ (upd H1 s2.heap.objs.size (.lst [])) { s2 with heap:=h₁,toks:=s2.toks+0 }:=I3.kept (h':=h₁) (t':=s2.toks+0) xV;generalize hT:(H1,(⟨tg,iter,ifs,0⟩:Comprehension))=YI;clear hT YI;have yT:∀b∈fp,b<s2.heap.objs.size:=fun b hb=>by
  obtain⟨o,e,_⟩:=T.obj 0 _ xD b hb;exact cO e
 have fpD:s2.heap.objs.size∉fp:=fun z=>Nat.lt_irrefl _ (yT _ z);have HX:∀b∈fp,b≠G2.objs.size:=fun b hb=>dA (by rw [OG];exact wJ (yT b hb));have VZ:(eV X scope ls js cl G2.objs.size { s2 with heap:=G2 } (upd H1 s2.heap.objs.size (.lst [])) fp).Ok:=by
  refine Mf L I3 gX iI bP I3.bs (qD I3.ok.nX I3.sz) I3.stack I3.LR (fun b hb=>⟨HX b hb,(f2 b hb).2.2.2.2.1⟩) (fun b o e hb=>?_) (fun b hb z=>?_)
  ·rcases(f2 b hb).2.2.2.1 with q | q
   ·exact I2.ok.rS b o e q
   ·exact absurd (lC (cO (I2.ok.bs b o e).1) q) (Nat.lt_irrefl _)
  ·rcases eN.mp (I3.uU b z)with q | q
   ·exact(f2 b hb).2.1 q
   ·exact(f2 b hb).2.2.1 q
 have IC:Inv (eV X scope ls js cl G2.objs.size { s2 with heap:=G2 } (upd H1 s2.heap.objs.size (.lst [])) fp) [] (rX ls js σ) (upd H1 s2.heap.objs.size (.lst [])) { s2 with heap:=h₁,toks:=s2.toks+0 }:=by
  refine⟨VZ,rfl,I4.bare,Un.kept xV,⟨_,yH,fun i x v e1 e2 e3=>?_⟩,fun x c e=>I4.cell x c (gX x c e),?_,fun x c e=>I4.jM x c (gX x c e),fun p hp=>?_,I4.aH,?_⟩
  ·obtain⟨k,j,tS,hj,hσ⟩:=Me e2;obtain⟨y,hy,yB⟩:=L.Cm j (qF hj);have YO:x=y:=by
    have yY:(ls++js.map (fun j=>X.N.getD j Str.empty))[i]? = some x:=e1;rw [tS,nP (Nat.le_add_right ..),Nat.add_sub_cancel_left,gK,hj]at yY;have Cb:X.N.getD j Str.empty=x:=mF yY;rw [← Cb,Ue,hy];rfl
   subst YO;have GQ:X.env.kindOf x=some .cell∨X.env.kindOf x=some .free:=by
    have hm:(x,NameKind.free)∈scope.names:=by
     have q:=EZ (env:=X.env) L.cell (BF (env:=X.env) yB);exact q
    exact L.free _ hm rfl
   obtain⟨m,hn,hl⟩:=I4.loc;obtain⟨u,r,l⟩:=hl j x v hy hσ (GQ.elim (fun z => .inr (.inl z)) fun z => .inr (.inr z));refine⟨u,r,.inr ⟨BF (env:=X.env) yB,?_⟩⟩
   rcases l with⟨kl,_⟩ | ⟨_,c,pW,z⟩
   ·rcases GQ with q | q
    ·rw [q]at kl;cases kl
    ·rw [q]at kl;cases kl
   ·have hm:(x,NameKind.free)∈scope.names:=EZ (env:=X.env) L.cell (BF (env:=X.env) yB);obtain⟨c',HH⟩:=iI _ hm rfl;have:=gX _ _ HH;rw [pW]at this;cases this;exact⟨c,HH,z⟩
  ·show upd H1 s2.heap.objs.size (.lst []) G2.objs.size=none;rw [aY (bV Ac)];exact Ae
  ·have jK:p∈X.pn:=by simpa [eV]using hp
   obtain⟨e,n,ne,nf,d⟩:=I4.pin p (wM _ jK);obtain⟨e3,_⟩:=I3.pin p (wM _ jK);refine⟨e,n,?_,fun z=>?_,d⟩
   ·exact dA (cO e3)
   ·rcases eN.mp (I3.uU p.1 z)with q | q
    ·exact ne q
    ·exact nf q
  ·simp [rX,eV]
 obtain⟨ZT,ZS,ZU⟩:=hb cl G2.objs.size { s2 with heap:=G2 } (upd H1 s2.heap.objs.size (.lst [])) fp;obtain⟨W,⟨m0,w0⟩,turn⟩:=h2 s2.heap.objs.size HL;have EM:tn 0 h₁:=T.keep _ _ _ xD fun b hb o e=>xV b o (xU b o e);have cV:∀{H':Hp},(∀b∈fp,H' b=none)→∀b∈fp,pH (eV X scope ls js cl G2.objs.size { s2 with heap:=G2 } (upd H1 s2.heap.objs.size (.lst [])) fp) [] H' b:=fun hn b hb=>by
  refine⟨hn b hb,HX b hb,fun z=>?_,.inl hb,fun x c e=>(f2 b hb).2.2.2.2.1 x c (gX x c e),fun p hp=>?_⟩
  ·rcases eN.mp (I3.uU b z)with q | q
   ·exact(f2 b hb).2.1 q
   ·exact(f2 b hb).2.2.1 q
  ·have jK:p∈X.pn:=by simpa [eV]using hp
   exact(f2 b hb).2.2.2.2.2 p (wM _ jK)
 have Bm:∀b∈fp,(upd H1 s2.heap.objs.size (.lst [])) b=none:=fun b hb=>by
  rw [aY (show b≠s2.heap.objs.size from dA (yT b hb))];exact(f2 b hb).1
 have loop:∀s4:Shared,s4 = { s2 with heap:=h₁,toks:=s2.toks+0 } →
   codeAny (model X.prog X.w) X.A (.compLoop (.ListComp elt [⟨tg,iter,ifs,0⟩] scope pos) 0 (.ref it) (.ref s2.heap.objs.size) (compEnvC scope cl G2.objs.size X.env))
    (compPost (model X.prog X.w) X.A X.xe (some (assign (.Name x pos') X.env)) (fun _ s'=>SP X pins D .next s') (.ref s2.heap.objs.size) G2.objs.size) s4:=by
  rintro s4 rfl;refine Qp (fun n s'=>∃i σ' H',Inv (eV X scope ls js cl G2.objs.size { s2 with heap:=G2 } (upd H1 s2.heap.objs.size (.lst [])) fp) [] σ' H' s'∧tn i s'.heap∧(∀b∈fp,H' b=none)∧W i n σ' H') ?_ m0 ⟨0,_,_,IC,EM,Bm,w0⟩;rintro n s5 ⟨i,σ5,H5,I5,tD,yS,w5⟩
  rcases turn i n σ5 H5 w5 with⟨stop,qn⟩ | ⟨go,N,hN,step⟩
  ·refine bA (T.done (eV X scope ls js cl G2.objs.size { s2 with heap:=G2 } (upd H1 s2.heap.objs.size (.lst [])) fp) rfl rfl rfl hc i [] s5 σ5 H5 _ I5 (cV yS) tD stop) fun r s6 ⟨hr,I6⟩=>?_;subst hr;obtain⟨m6,ZD,_⟩:=I6.loc;have yJ:H5 G2.objs.size=none:=I6.free;have SD:Un (fS X.stack) fp (upd H1 s2.heap.objs.size (.lst [])) H5 G2 s6.heap:=I6.base;have SE:Un (fS X.stack) fp H1 (upd H1 s2.heap.objs.size (.lst [])) s2.heap G2:=Un.laid xU bP HL;have un:=SE.trans SD;have Ic:Inv X pins σ H5 s6:=I2.IJ (s':=s6) (ch:=fp) I6.os un I6.aH I6.bare fun b hb=>⟨(f2 b hb).2.2.2.1,(f2 b hb).2.1,(f2 b hb).2.2.2.2.1,(f2 b hb).2.2.2.2.2⟩
   have yK:pH X pins H5 G2.objs.size:=I3.yU bP yJ;have alO:∀b∈[G2.objs.size],pH X pins H5 b:=fun b hb=>by rw [nN.mp hb];exact yK
   obtain⟨oC,esC,epC,eC,dC,kC,fC⟩:=id ZD;have Ip:=Ic.pinned (fp:=[G2.objs.size]) alO fun b hb=>⟨oC,by rw [nN.mp hb];exact eC,fun v z=>by rw [dC]at z;cases z⟩
   refine bA (Kq (pos:=pos') hN tS rZ hf _ s6 σ H5 (.ref s2.heap.objs.size) _ _ Ip rfl qn) fun _ s8 ⟨σ8,H8,I8,q8⟩=>?_;obtain⟨p8,n8,_⟩:=I8.pin (G2.objs.size,oC) (nO _ (nO _ (xS (List.mem_singleton_self _) eC)));refine⟨m6,⟨oC,esC,epC,p8,dC,kC,fC⟩,fun h' kW=>⟨σ8,H8,?_,q8⟩⟩;have ne1:∀b,b∉[G2.objs.size]→b≠G2.objs.size:=fun b hb z=>hb (by rw [z];exact List.mem_singleton_self _);have SF:Un (fS X.stack) [G2.objs.size] H8 H8 s8.heap h':=⟨fun b o e n a x=>(kW.2 b (ne1 b x)).trans e,fun b o e n a x=>⟨o.slots,(kW.2 b (ne1 b x)).trans e⟩,fun _ _ _ n _=>n,fun b o e x=>⟨o,(kW.2 b (ne1 b x)).trans e⟩,fun _ _ q=>q,fun _ _ _ q=>q,fun _ ps q=>⟨#[],by rw [q];simp⟩⟩;have GK:eR X.prog X.w H8 h':=fun b o e=>by
    refine(I8.aH b o e).nC (fun c u pW q=>(kW.2 c ?_).trans q) (fun _ q=>q) fun _ _ q=>q;have Np:H8 G2.objs.size=none:=n8;rintro rfl
    rcases pW with z | z
    ·subst z;rw [Np]at e;cases e
    ·rw [Np]at z;cases z
   exact I8.AK.IJ (s':={ s8 with heap:=h' }) (ch:=[G2.objs.size]) rfl SF GK I8.bare fun b hb=>by
    rw [nN.mp hb];exact⟨yK.2.2.2.1,yK.2.1,yK.2.2.2.2.1,yK.2.2.2.2.2⟩
  ·refine bA (T.item (eV X scope ls js cl G2.objs.size { s2 with heap:=G2 } (upd H1 s2.heap.objs.size (.lst [])) fp) rfl rfl rfl hc i [] s5 σ5 H5 _ I5 (cV yS) tD go) fun r s6 ⟨u,hr,h6⟩=>?_;subst hr;refine bA h6 fun _ s7 ⟨x,H7,I7,r7,y7,xC,Bl⟩=>?_;have Fm:=I7.pinned (cV Bl) (T.obj _ _ xC);refine bA (ZT _ s7 σ5 H7 x u _ Fm r7 (step x H7 y7)) fun _ s8 ⟨σ8,H8,I8,q8⟩=>?_;refine bA (ZS _ s8 σ8 H8 _ I8 q8) fun ok s9 ⟨H9,I9,q9⟩=>?_;have again:∀{σa:St} {Ha:Hp} {sa:Shared},Inv (eV X scope ls js cl G2.objs.size { s2 with heap:=G2 } (upd H1 s2.heap.objs.size (.lst [])) fp) ([]++AY fp s7.heap) σa Ha sa→N σa Ha →
     ∃m,m<n∧∃i σ' H',Inv (eV X scope ls js cl G2.objs.size { s2 with heap:=G2 } (upd H1 s2.heap.objs.size (.lst [])) fp) [] σ' H' sa∧tn i sa.heap∧(∀b∈fp,H' b=none)∧W i m σ' H':=fun{σa Ha sa} Ia na=>by
    obtain⟨m',hm,wa⟩:=hN σa Ha na;refine⟨m',hm,i+1,σa,Ha,Ia.AK,T.keep _ _ _ xC fun b hb o e=>(Ia.pin (b,o) (nO _ (nO _ (xS hb e)))).1,fun b hb=>?_,wa⟩;obtain⟨o,e,d⟩:=T.obj _ _ xC b hb;exact(Ia.pin (b,o) (nO _ (nO _ (xS hb e)))).2.1
   cases ok with
   | false=>exact again I9 q9
   | true =>
    refine bA (ZU _ s9 σ8 H9 _ I9 q9) fun y UY ⟨z,H10,JI,VM,ys,hD,dD,nn⟩=>?_;obtain⟨zz,aL,k,r,hl,e⟩:=JI.FV hD;refine call_meets F.slot_list_append ⟨_,e,rfl⟩ F.entry_list_append (Uq _ _) (PySem.list_append s2.heap.objs.size aL.toArray k y (by rw [fU];omega)) ⟨e,?_⟩;refine again (JI.WL (its':=aL++[y]) (t':=UY.toks) hD e ?_ (r.append (.cons VM .nil)) ?_) nn
    ·simp
    ·simp;omega
 exact codeAny_compStart_list (loop _ rfl) (T.self _ 0 _ _ _ EM (loop _ rfl))
end
end L2
namespace V2
open PySem PySem.Spec PyProof.Rows L2
theorem RO{X:Cx}{W:WX}{elt tg iter:Expr}{ifs:List Expr}{scope:Scope}{pos EN pos':Pos}{fi:Ev→Mo Src}{g:A→MS}{c:Ev→Mo Bool}{e:Ev→Mo A}{i:Nat}{x:Str}(cf:Bool)(ls:List Str)(js:List Nat)(hN:X.N.Nodup)(tS:X.N[i]? = some x)(rZ:Loc X.env.scope x)(hc:X.calm=true)(L:wN X scope ls js)(hi:VI X W tg iter fi)
  (hb:∀cl C s H fp,VG (eV X scope ls js cl C s H fp) rU tg g∧CP (eV X scope ls js cl C s H fp) rU ifs c∧VE (eV X scope ls js cl C s H fp) rU elt e)
  (YS:swapsWith (.ListComp elt [⟨tg,iter,ifs,0⟩] scope pos) (some (.Name x pos')) EN.line X.env=pure true:=by rfl)
  (hs:∀x,foldedSetIterable iter X.env x=pure x:=by intro _;rfl) (hf:X.fn x=true∨X.env.scope.names.lookup x=some .local:=by first | exact .inl rfl | exact .inr rfl | assumption) :
  VS X W (.Assign [.Name x pos'] (.ListComp elt [⟨tg,iter,ifs,0⟩] scope pos) EN) (cM (kG cf ls.length js fi g c e) (gN i)):=by
 obtain⟨t1,p1,s1⟩:=hi;exact⟨_,ae4 hN tS rZ hc L p1 (fun cl C s H fp=>⟨(hb cl C s H fp).1.wG,(hb cl C s H fp).2.1.wG,(hb cl C s H fp).2.2.wG⟩) YS hs hf,TN (Jd _ s1 Jf LY LY) fun _ _ _ _ _ _ _ _ _ w r d h=>qQ w (r.set i d) h⟩
end V2
namespace L2
open PySem PySem.Spec PyProof.Rows
def asD(h:Heap)(mg:Str→Option Value):Prop:=∃bm o,mg "__builtins__" = some (.ref bm)∧bm≠builtinsNs∧h.get? bm=some o∧o.cls = .type "module"∧o.dict=some builtinsNs∧o.data = .plain
structure avB(h:Heap)(H:Hp)(f:Addr)(qual:Str)(params:Arguments)(body:Expr)(scope:Scope)(Rb:List (Str×Int)):Prop where
 ex:∃(cl:List (Str×Addr)) (pm ctv:Value) (c':Addr) (oc:Obj) (vs:Array Value) (t:Tok),
  H f=some (.cV (PySem.W.kla_obj "<lambda>" qual params body scope cl pm c' ctv) (.own 0))∧H c'=some (.cV oc (.own 0))∧oc.data = .fields vs∧vs[1]? = some (.str qual t) ∧
  (∀x y c,cl.lookup x=some c→cl.lookup y=some c→x=y)∧(∀y∈scope.names,y.2 = .free→∃c,cl.lookup y.1=some c) ∧
  (∀x c,cl.lookup x=some c→(∃v,h.IsCell c v)∧H c=none)∧∀p∈Rb,∃c t,cl.lookup p.1=some c∧h.IsCell c (some (.int p.2 t))
structure ar8(scope:Scope)(y:Str)(cs:List Str):Prop where
 kind:scope.kind = .function
 co:scope.isCoroutine=false
 gen:scope.isGenerator=false
 atA:∀x∈scope.names,x.2 ≠ .cell
 par:scope.names.lookup y=some .local
 Cm:∀x∈cs,scope.names.lookup x=some .free
end L2
namespace V2
open PySem PySem.Spec PyProof.Rows L2
structure au9(K:Frag)(mg:Str→Option Value)(base:Heap)(x:Str):Prop where
 vL:K.In base
 glob:base.Ns mainGlobals mg
 blt:asD base mg
 hd:∃c P,PySem.W.tabIn K x=some (c,P)∧PySem.W.codeHdIn K c P=true
structure Ul(X:Cx)(scope:Scope)(y:Str)(cs:List Str)(js:List Nat):Prop where
 S:ar8 scope y cs
 free:∀y∈scope.names,y.2 = .free→X.env.kindOf y.1=some .cell∨X.env.kindOf y.1=some .free
 Rb:js.map (fun j=>X.N[j]?)=cs.map some
 cell:∀x∈cs,X.env.scope.names.lookup x=some .cell
def Fp(sc:Scope)(N:List Str)(scope:Scope)(y:Str)(cs:List Str)(js:List Nat):Prop :=
 ((scope.kind == .function)=true∧scope.isCoroutine=false∧scope.isGenerator=false)∧(∀x∈scope.names,(x.2 == .cell)=false)∧(scope.names.lookup y == some .local)=true∧(∀x∈cs,(scope.names.lookup x == some .free)=true) ∧
 (∀y∈scope.names,(y.2 == .free)=true→(sc.names.lookup y.1 == some .cell)=true)∧js.map (fun j=>N[j]?)=cs.map some∧∀x∈cs,(sc.names.lookup x == some .cell)=true
instance (sc:Scope) (N:List Str) (scope:Scope) (y:Str) (cs:List Str) (js:List Nat):Decidable (Fp sc N scope y cs js):=by unfold Fp;infer_instance
theorem Ul.of{X:Cx}{scope:Scope}{y:Str}{cs:List Str}{js:List Nat}(sc:Scope)(N:List Str)(h1:X.env.scope=sc)(h2:X.N=N)(h:Fp sc N scope y cs js):Ul X scope y cs js:=by
 obtain⟨⟨a1,a2,a3⟩,a4,a5,a6,a7,a8,a9⟩:=h;refine⟨⟨by simpa using a1,a2,a3,fun x hx=>by simpa using a4 x hx,by simpa using a5,fun x hx=>by simpa using a6 x hx⟩,fun y hy hf => .inl ?_,by rw [h2];exact a8,fun x hx=>by rw [h1];simpa using a9 x hx⟩;have:=a7 y hy (by simp [hf]);show X.env.scope.names.lookup y.1=some .cell;rw [h1];simpa using this
@[elab_as_elim] theorem Wa{P:List Value→Prop}(us:List Value)(h:us.length=0)(f:P []):P us:=by cases us with | nil=>exact f | cons _ _=>simp at h
@[elab_as_elim] theorem rN{P:List Value→Prop}(us:List Value)(h:us.length=1)(f:∀a,P [a]):P us:=by
 cases us with
 | nil=>simp at h
 | cons a r=>exact Wa r (by simpa using h) (f a)
@[elab_as_elim] theorem nB{P:List Value→Prop}(us:List Value)(h:us.length=2)(f:∀a b,P [a,b]):P us:=by
 cases us with
 | nil=>simp at h
 | cons a r=>exact rN (P:=fun r=>P (a::r)) r (by simpa using h) (f a)
@[elab_as_elim] theorem LA{P:List Value→Prop}(us:List Value)(h:us.length=3)(f:∀a b c,P [a,b,c]):P us:=by
 cases us with
 | nil=>simp at h
 | cons a r=>exact nB (P:=fun r=>P (a::r)) r (by simpa using h) (f a)
@[elab_as_elim] theorem KZ{P:List Value→Prop}(us:List Value)(h:us.length=4)(f:∀a b c d,P [a,b,c,d]):P us:=by
 cases us with
 | nil=>simp at h
 | cons a r=>exact LA (P:=fun r=>P (a::r)) r (by simpa using h) (f a)
@[elab_as_elim] theorem Hk{P:List Value→Prop}(us:List Value)(h:us.length=5)(f:∀a b c d e,P [a,b,c,d,e]):P us:=by
 cases us with
 | nil=>simp at h
 | cons a r=>exact KZ (P:=fun r=>P (a::r)) r (by simpa using h) (f a)
section
variable{X:Cx}{pins:List (Addr×Obj)}{σ:L2.St}{H:Hp}{s:Shared}
theorem Inv.HW(I:Inv X pins σ H s):∃m,s.heap.Ns X.env.locals m∧Fr X.base X.env.locals s.heap m :=
 let ⟨m,hn,_⟩:=I.loc
 ⟨m,hn,hn,I.bk,qD I.ok.nX I.ok.above⟩
theorem Inv.led(I:Inv X pins σ H s){h':Heap}{m:Str→Option Value}{news:List (Addr×Obj)}(F:Fr X.base X.env.locals h' m)(N:News X.base X.env.locals h' news)(hN:∀p∈Dr X.base s.heap X.env.locals,p∈news) :
  ∀b o,b≠X.env.locals→s.heap.get? b=some o→h'.get? b=some o:=fun b o h1 e=>by
 cases q:X.base.get? b with
 | some u =>
  have:=I.bk b u q;rw [e]at this;cases this;exact F.keep b _ q
 | none=>exact(N (b,o) (hN _ (aiE h1 q e))).1
end
end V2
namespace L2
open PySem PySem.Spec PyProof.Rows
open PySem PySem.Spec PyProof.Rows Builtin Builtin.ObjectAttr
section
variable{X:Cx}
def Xh(j:Nat):TE:=fun σ H Q=>∃i,σ[j]? = some (some (.int i))∧i.natAbs.log2<1920∧∀x,Q (.str x) H
end
theorem ahO{K:Frag}{h:Heap}{N:Addr}{mg:Str→Option Value}{n:Str}{v:Value}(X:K.In h)(G:h.Ns N mg)(e:nsIn K N n=some (some v)):mg n=some v:=by
 obtain⟨o,es,ep,ho,hd,_,hf⟩:=G;unfold nsIn at e;split at e
 ·rename_i c d dX n' sl q;have:=X _ _ q;rw [ho]at this;cases this;cases hd;split at e
  ·rename_i en he;cases e;rw [← hf];unfold nsFind findBy;rw [← Array.find?_toList,he];rfl
  ·split at e <;> cases e
 ·cases e
def Pl(K:Frag)(C fI:Addr):Bool:=match K.lookup C with
 | some ⟨.type "type",_,.cls cd,sl⟩=>(match cd.mro,sl.toList with
  | .ref C'::bm,[_,_,_,_,some (.builtin n),_]=>C' == C&&n == "ValueError.__new__" && !cd.hasDel&&cd.hasDict&&PySem.W.tailIn K PB bm&&PySem.W.nsOkIn K cd.ns&&nsIn K cd.ns "__init__" == some (some (.ref fI))
  | _,_=>false)
 | _=>false
structure Tj(K:Frag)(C fI:Addr)(fld:Str):Prop where
 YM:Pl K C fI=true
 fn:typeIn K (.ref fI)=some (.type "function")
 as4:findIn K (.ref C) "__setattr__" = some (some (.builtin "object.__setattr__"))
 nof:findIn K (.ref C) fld=some none
theorem Tj.obj{K:Frag}{C fI:Addr}{fld:Str}(O:Tj K C fI fld){h:Heap}(X:K.In h):∃bm N nm q bs sn sub ab col dd k0 k1 k2 k3 k5 mN oI,h.get? C=some (excClassObj nm q C N bs bm true sn sub ab col dd k0 k1 k2 k3 k5 "ValueError.__new__")∧h.Ns N mN∧mN "__init__" = some (.ref fI)∧OwnTail h PB bm∧h.get? fI=some oI∧oI.cls = .type "function":=by
 have q:=O.YM;obtain⟨oI,lM,pW⟩:=uD.mp O.fn;unfold Pl at q;split at q
 ·rename_i dd cd sl ho;split at q
  ·rename_i C' bm k0 k1 k2 k3 n k5 hm hs;simp only [kR,sI,Uu]at q;obtain⟨⟨⟨⟨⟨⟨rfl,rfl⟩,HC⟩,Nv⟩,ht⟩,aH⟩,GN⟩:=q;obtain⟨nm,bs,mro,ns,qn,hd,sn,sub,ab,col,del⟩:=cd;dsimp only at hm HC aH GN Nv;subst hm HC Nv;have lL:sl = #[k0,k1,k2,k3,some (.builtin "ValueError.__new__"),k5]:=by
    obtain⟨l⟩:=sl;simp only at hs;rw [hs]
   subst lL;exact⟨bm,ns,nm,qn,bs,sn,sub,ab,col,dd,k0,k1,k2,k3,k5,_,oI,X _ _ ho,.of_isNs (isNs_of_in X aH),ahO X (.of_isNs (isNs_of_in X aH)) GN,PySem.W.tail_of_in X ht,X _ _ lM,pW⟩
  ·cases q
 ·cases q
structure avG(K:Frag)(R:Addr):Prop where
 reads:readsIn K R (.type "type")=true
 find:findCls K (.ref R) (.type "type") "__init__" = some (.val (.builtin "ValueError.__init__"))
 ga:specialIn K (.ref R) "__getattribute__" = some (some (.builtin "type.__getattribute__"))
section
variable{X:Cx}{pins:List (Addr×Obj)}{σ:St}{H:Hp}{s1:Shared}{C fI R e:Addr}{fld qual rk sf pa:Str}{st:Stmt}{fd:FuncData}{t:Tok}{i:Int}{h2:Heap}{k:Nat}{je:Expr}{np ap cp ep p1 p2 Dq p3 apos:Pos}
structure avD(st:Stmt)(fld rk sf pa:Str):Prop where
 scope:dI [sf,pa] [sf,pa] (aZ st)
 glob:(aZ st).names.lookup rk=some .globalImplicit
 atH:(aZ st).names.lookup sf=some .local
 atG:(aZ st).names.lookup pa=some .local
 dbg:(rk == ("__debug__" : Str))=false∧(sf == ("__debug__" : Str))=false∧(pa == ("__debug__" : Str))=false∧(sf == ("__classdict__" : Str))=false∧(pa == ("__classdict__" : Str))=false
 text:∃(je:Expr) (np ap cp ep p1 p2 Dq p3 apos:Pos),fB st=[.Expr (.Call (.Attribute (.Name rk np) "__init__" ap) [.Name sf p1,je] [] cp) ep, .Assign [.Attribute (.Name sf p2) fld Dq] (.Name pa p3) apos] ∧
  (∀env,starEach [.Name sf p1,je] env=(false,eval (.Name sf p1) env)::starEach [je] env)∧(∀env,starEach [je] env=(false,eval je env)::starEach [] env) ∧
  (∀env:Env,∃pl,eval (.Call (.Attribute (.Name rk np) "__init__" ap) [.Name sf p1,je] [] cp) env=(do
   let ov ← eval (.Name rk np) env
   standAt ap.atName
   let (f,first) ← holding [ov] (getMethod ov "__init__" pl)
   callWith cp f first (backTo cp (starEach [.Name sf p1,je] env)) [])) ∧
  (∀env,swapsWith (.Call (.Attribute (.Name rk np) "__init__" ap) [.Name sf p1,je] [] cp) none ep.line env=pure false) ∧
  (∀env,swapsWith (.Name pa p3) (some (.Attribute (.Name sf p2) fld Dq)) apos.line env=pure false) ∧
  (∀Y:Cx,Y.N=[sf,pa]→Y.env.scope=aZ st→PE Y je (Xh 1))
end
structure XAt(K:Frag)(D:Addr)(fld:Str):Prop where
 ga:findIn K (.ref D) "__getattribute__" = some (some (.builtin "BaseException.__getattribute__"))
 gx:findIn K (.ref D) "__getattr__" = some none
 no:findIn K (.ref D) fld=some none
 be:subIn K (.ref D) (.type "BaseException")=some true
 hd:(clsIn K D).any (·.hasDict)=true
end L2
namespace V2
open PySem PySem.Spec PyProof.Rows L2
section
variable{K:Frag}{G H:Hp}{ι:List Addr}{Ω:aI}{d:Addr}
theorem Wd.neG(w:Wd K G ι Ω H)(hd:H d=none){a:Addr}{o:HO}(h:G a=some o):a≠d:=fun z=>by
 have:=w.sub _ _ h;rw [z,hd]at this;cases this
theorem Wd.anU(w:Wd K G ι Ω H)(hd:H d=none)(o:HO):Ext G ι (upd G d o) ι:=⟨fun a u h=>by rw [aY (w.neG hd h)];exact h,fun _ _ h=>h⟩
theorem Wd.up(w:Wd K G ι Ω H)(hd:H d=none)(o:HO):Wd K (upd G d o) ι Ω (upd H d o):=w.new hd o
end
def asB(e:Exc)(d:Addr)(dx:Option Addr):Prop:=(e.fs=[]∧dx=none)∨(e.fs≠[]∧dx=some d)
structure Cau(K:Frag)(oe:Obj)(d:Addr)(e:Exc):Prop where
 dat:∃vs,oe.data = .fields vs
 cls:∃E,nsIn K mainGlobals e.cls=some (some (.ref E))∧oe.cls = .ref E
 dic:asB e d oe.dict
def jW:Hp→List Addr→List (List V)→Hp
 | H,a::as,t::ts=>jW (upd H a (.tup t)) as ts
 | H,[],_=>H
 | H,_::_,[]=>H
theorem Wb{H:Hp}{a b:Addr}{o u:HO}(h:a≠b):upd (upd H a o) b u=upd (upd H b u) a o:=by
 funext c
 by_cases h1:c=a
 ·subst h1;rw [aY h,dR,dR]
 ·by_cases h2:c=b
  ·subst h2;rw [dR,aY h1,dR]
  ·rw [aY h2,aY h1,aY h1,aY h2]
theorem Hl{l:Addr}{o:HO}:∀(as:List Addr) (ts:List (List V)) (H:Hp),l∉as→jW (upd H l o) as ts=upd (jW H as ts) l o
 | [],ts,H,_=>by cases ts <;> rfl
 | a::as,[],H,_=>rfl
 | a::as,t::ts,H,h=>by
  have kL:l≠a:=fun e=>h (by rw [e];exact List.mem_cons_self ..);show jW (upd (upd H l o) a (.tup t)) as ts=upd (jW (upd H a (.tup t)) as ts) l o;rw [Wb kL];exact Hl as ts _ fun e=>h (gQ _ e)
theorem NM{P:Program}{w:World}{k:Key}{u:Value}(h:(fR P w).is k u=true):RelV (kV k) u:=by
 rcases rY (k:=k) (v:=u) h with⟨i,t,q1,q2⟩ | ⟨x,t,q1,q2⟩
 ·subst q1;exact⟨t,q2⟩
 ·subst q1;exact⟨t,q2⟩
section
variable{X:Cx}{W:WX}
theorem SK{pins:List (Addr×Obj)}{σ:L2.St}{s2 s3:Shared}{H0:Hp}(I2:Inv X pins σ H0 s2):∀(as:List Addr) (ts:List (List V)) (H:Hp),Inv X pins σ H s3→as.length=ts.length→as.Nodup→(∀a∈as,s2.heap.objs.size≤a∧H a=none) →
  (∀(j:Nat) (a:Addr) (t:List V),as[j]? = some a→ts[j]? = some t→t.length≤sizeLine∧∃aL n,Vals t aL∧s3.heap.get? a=some { cls := .type "tuple",data := .seq aL.toArray n })→Inv X pins σ (jW H as ts) s3
 | [],[],H,I,_,_,_,_=>I
 | [],_::_,H,I,hl,_,_,_=>by simp at hl
 | _::_,[],H,I,hl,_,_,_=>by simp at hl
 | a::as,t::ts,H,I,hl,hn,hb,ho=>by
  obtain⟨h1,h2⟩:=hb a pR;obtain⟨hz,aL,n,rv,e⟩:=ho 0 a t rfl rfl;have aH:eR X.prog X.w (upd H a (.tup t)) s3.heap:=by
   refine fun b o q=>?_
   by_cases eb:b=a
   ·subst eb;rw [dR]at q;cases q;exact⟨hz,aL,rv,⟨_,e,rfl,_,rfl⟩⟩
   ·rw [aY eb]at q;exact(I.aH b o q).nC (fun c v _ z=>z) (fun c z=>by rw [aY (iF z h2)];exact z) fun c xs z=>by rw [aY (iF z h2)];exact z
  have fp:pH X pins H a:=I2.yU h1 h2;have h0:X.s₀.heap.get? a=none:=by
   cases q:X.s₀.heap.get? a with
   | none=>rfl
   | some ob=>exact absurd (lC (cO q) (qD I2.sz h1)) (Nat.lt_irrefl _)
  have I':=Inv.Hs I h2 h0 fp.2.1 fp.2.2.2.2.1 fp.2.2.2.2.2 aH;rw [mX]at hn;exact SK I2 as ts _ I' (by simpa using hl) hn.2 (fun b pX=>⟨(hb b (gQ _ pX)).1,by rw [aY (fun z=>hn.1 (by rw [← z];exact pX))];exact(hb b (gQ _ pX)).2⟩) (fun j b u e1 e2=>ho (j+1) b u e1 e2)
theorem MQ{α β:Type}{F:α→β→Prop}:∀{l₁:List α} {l₂:List β},Paired F l₁ l₂→∀{j:Nat} {a:α},l₁[j]? = some a→∃b,l₂[j]? = some b∧F a b
 | _,_,.nil,j,a,h=>by simp at h
 | _,_,.cons r _,0,a,h=>by cases h;exact⟨_,rfl,r⟩
 | _,_,.cons _ rs,j+1,a,h=>by obtain⟨b,q,f⟩:=MQ rs (j:=j) (by simpa using h);exact⟨b,by simpa using q,f⟩
theorem KQ:∀as:List Addr,Vals (as.map V.ref) (as.map Value.ref)
 | [] => .nil
 | a::as => .cons rfl (KQ as)
theorem Ks{o:Expr}{td:TE}{p1 apos q1 q2:Pos}(hc:X.calm=true)(oV:Gl X "list")(mB:X.mg "list" = none)(ho:PE X o td)
  (hs:starEach [.Call (.Attribute o "items" apos) [] [] q2] X.env=[(false,eval (.Call (.Attribute o "items" apos) [] [] q2) X.env)]:=by rfl)
  (iJ:attributeBase o "items" X.env (eval o X.env)=eval o X.env:=by rfl) (iH:(apos.endLine == q2.line)=true:=by rfl) :
  PE X (.Call (.Name "list" p1) [.Call (.Attribute o "items" apos) [] [] q2] [] q1) (fun σ H Q=>td σ H fun x H1=>∃a kvs,x = .ref a∧H1 a=some (.dK kvs) ∧
   ∀(as:List Addr) (l:Addr),as.length=kvs.length→as.Nodup→l∉as→(∀b∈as,H1 b=none)→H1 l=none→Q (.ref l) (upd (jW H1 as (kvs.map fun kv=>[kV kv.1,kv.2])) l (.lst (as.map V.ref)))):=by
 intro pins s σ H Q I h;refine uO (tL I oV mB CS ?_);refine QK ?_ hs rfl;rw [hs];show wpAny _ _ (spliced ((false,eval (.Call (.Attribute o "items" apos) [] [] q2) X.env)::[])) _ _ s;refine DO ?_;refine KI iJ iH (bA (ho pins s σ H _ I h) fun v s1 ⟨x,H1,I1,r1,q1⟩=>?_);obtain⟨a,kvs,rfl,hH,q⟩:=q1;cases r1;obtain⟨h1,h2,oR⟩:=xZ I1 (.inl ⟨kvs,.inl hH⟩);obtain⟨z,_,vs,rel,dd⟩:=zA I1.aH hH;refine⟨"dict", "dict.items",PySem.F.plainAttrs_dict,PySem.F.slot_dict_items,PySem.F.type_dict_items,h1,h2,DP rfl (PySem.evalArgs_none ?_)⟩;refine CM PySem.F.slot_dict_items dd.typeIs PySem.F.entry_dict_items (PySem.F.args_dict_items_1 _) (meets_dict_items (fR X.prog X.w) a oR) ⟨⟨vs,dd⟩,?_⟩;refine JX ?_;have I2:Inv X pins σ H1 { s1 with heap:=s1.heap.push { cls := .type "dict_items",data := .fields #[.ref a] } }:=I1.kept (t':=s1.toks) fun b o e=>cH _ e;obtain⟨ep,tU⟩:=dd.dictAt;have GB:kvs.length=vs.length:=rel.length;refine PySem.W.kdx_call (knd:=fR X.prog X.w) (kvs:=vs) (ep:=ep) (s:={ s1 with heap:=s1.heap.push { cls := .type "dict_items",data := .fields #[.ref a] } }) (I2.ok.hd hc) ⟨_,eY _ rfl,rfl,rfl⟩ (tU.push _) (by omega) fun h' tk acc c as hk hS hl hG kM=>?_;generalize nH:({ s1 with heap:=s1.heap.push { cls := .type "dict_items",data := .fields #[.ref a] } }:Shared)=s2 at I2 hk hS hG;have BO:as.Nodup:=hG.rise.imp fun h=>dA h;have kL:s2.heap.objs.size∉as:=fun z=>absurd (hG.above _ z) (Nat.lt_irrefl _);have tT:∀b∈as,s2.heap.objs.size≤b:=fun b hb=>QL (hG.above b hb);have hsz:as.length≤sizeLine:=by omega
 have I3:Inv X pins σ (upd H1 s2.heap.objs.size (.lst (as.map V.ref))) { s2 with heap:=h',toks:=tk }:=I2.laid (t':=tk) (o := .lst (as.map V.ref)) hk bP ⟨by rw [eG];exact hsz,as.map Value.ref,c,KQ as,by rw [← kM];exact hS⟩;have I4:=SK I2 as (kvs.map fun kv=>[kV kv.1,kv.2]) _ I3 (by simp;omega) BO (fun b hb=>⟨tT b hb,by rw [aY (fun z=>kL (by rw [← z];exact hb))];exact I2.aH.fresh (tT b hb)⟩) (fun j b t e1 e2=>by
  obtain⟨key,k,x,g1,g2,g3⟩:=hG.pairs j b e1;rw [gK]at e2;cases g4:kvs[j]? with
  | none=>rw [g4]at e2;cases e2
  | some kv =>
   rw [g4]at e2;cases e2;obtain⟨tN,g5,g6,g7⟩:=MQ rel g4;rw [g1]at g5;cases g5;refine⟨by show 2≤sizeLine;decide,[key,x],0,.cons (by rw [g6];exact NM g2) (.cons g7 .nil),g3⟩)
 rw [Hl as _ H1 kL]at I4;exact⟨.ref s2.heap.objs.size,_,I4,rfl,q as _ (by omega) BO kL (fun b hb=>I2.aH.fresh (tT b hb)) (I2.aH.fresh bP)⟩
end
def kA:Key→A
 | .inl i => .int i
 | .inr s => .str s
theorem Cd{K:Frag}{G:Hp}{ι:List Addr}(k:Key):Den K G ι (kV k) (kA k):=by cases k <;> simp only [kV,kA,Den]
def lZ(kv:Key×A):A := .tup [kA kv.1,kv.2]
section
variable{K:Frag}
theorem LB{Ω:aI}:∀(as:List Addr) (ws:List (Key×V)) (kvs:List (Key×A)) (G H:Hp) (ι:List Addr),Wd K G ι Ω H→as.length=ws.length→as.Nodup→(∀b∈as,H b=none)→ws.map (·.1)=kvs.map (·.1)→aN K G ι (ws.map (·.2)) (kvs.map (·.2)) →
  ∃G',Ext G ι G' ι∧Wd K G' ι Ω (jW H as (ws.map fun kv=>[kV kv.1,kv.2]))∧aN K G' ι (as.map V.ref) (kvs.map lZ)
 | [],[],[],G,H,ι,w,_,_,_,_,_=>⟨G,Ext.refl _ _,w,by rw [qG,qG,mD]⟩
 | [],[],_::_,_,_,_,_,_,_,_,h,_=>by simp at h
 | [],_::_,_,_,_,_,_,h,_,_,_,_=>by simp at h
 | _::_,[],_,_,_,_,_,h,_,_,_,_=>by simp at h
 | _::_,_::_,[],_,_,_,_,_,_,_,h,_=>by simp at h
 | a::as,wv::ws,kv::kvs,G,H,ι,w,hl,hn,hb,hk,d=>by
  rw [cX,cX]at d hk;obtain⟨x,r,hx,d1,d2⟩:=d.jF;obtain⟨rfl,rfl⟩:=JG hx;obtain⟨gX,iI⟩:=JG hk;rw [mX]at hn;have ha:=hb a pR;have e0:=w.anU ha (.tup [kV wv.1,wv.2]);have w':=w.up ha (.tup [kV wv.1,wv.2]);obtain⟨G',e1,w1,d3⟩:=LB as ws kvs _ _ ι w' (by simpa using hl) hn.2 (fun b pX=>by rw [aY (fun z=>hn.1 (by rw [← z];exact pX))];exact hb b (gQ _ pX)) iI (d2.ext e0);refine⟨G',e0.trans e1,w1,?_⟩;rw [cX,cX];refine .cons ?_ d3;simp only [lZ,Den];refine⟨a,[kV wv.1,wv.2],rfl,e1.same _ _ dR,.cons (by rw [gX];exact Cd _) (.cons (d1.ext (e0.trans e1)) (by rw [mD]))⟩
end
section
variable{X:Cx}{W:WX}
@[simp] def KY(c:Bool)(f:Ev→Mo A):Ev→Mo A:=fun ρ=>mb (f ρ) fun a Ω=>match gO Ω a with
 | some (_,kvs)=>iR c (kvs.map lZ) Ω
 | none=>none
theorem Vo{o:Expr}{f:Ev→Mo A}{p1 apos q1 q2:Pos}(c:Bool)(hc:X.calm=true)(mB:X.mg "list" = none)(oV:Gl X "list")(ho:VE X W o f)
  (hs:starEach [.Call (.Attribute o "items" apos) [] [] q2] X.env=[(false,eval (.Call (.Attribute o "items" apos) [] [] q2) X.env)]:=by rfl)
  (iJ:attributeBase o "items" X.env (eval o X.env)=eval o X.env:=by rfl) (iH:(apos.endLine == q2.line)=true:=by rfl) :
  VE X W (.Call (.Name "list" p1) [.Call (.Attribute o "items" apos) [] [] q2] [] q1) (KY c f):=by
 obtain⟨t,p,s⟩:=ho;refine⟨_,Ks hc oV mB p hs iJ iH,fun G ι Ω H σ ρ Q w r h=>?_⟩;refine s G ι Ω H σ ρ _ w r (bF.mb h fun a Ω1 v H1 G1 ι1 x1 w1 d1 h1=>?_);split at h1
 ·rename_i k kvs e;obtain⟨p,ws,rfl,hk,g,q1,q2,q3⟩:=sH w1 d1 e;refine⟨p,ws,rfl,q1,fun as l hl hn kL hb qX=>?_⟩;obtain⟨G',e1,w2,d2⟩:=LB as ws kvs G1 H1 ι1 w1 hl hn hb q2 q3;have cA:jW H1 as (ws.map fun kv=>[kV kv.1,kv.2]) l=none:=by
   have:∀(as:List Addr) (ts:List (List V)) (H:Hp),l∉as→jW H as ts l=H l:=by
    intro as
    induction as with
    | nil=>intro ts H _;cases ts <;> rfl
    | cons b as ih =>
     intro ts H kL;cases ts with
     | nil=>rfl
     | cons t ts =>
      show jW (upd H b (.tup t)) as ts l=H l;rw [ih ts _ fun z=>kL (gQ _ z),aY fun z=>kL (by rw [z];exact List.mem_cons_self ..)]
   rw [this as _ H1 kL];exact qX
  exact nT w2 cA d2 (h1.ext e1)
 ·exact False.elim h1
end
end V2
namespace L2
open PySem PySem.Spec PyProof.Rows
theorem an4:entryFor table "dict_itemiterator.__iter__" = some Builtin.«dict_keyiterator.__iter__» :=
 entryFor_alias (id' := "dict_keyiterator.__iter__") (by kernel_rfl) (by rfl) (by decide +kernel) (by kernel_rfl)
theorem ajS{prog:Program}{w:World}{A:Around}{E:Value→Shared→Prop}{s:Shared}{it d:Addr}{i n ep:Nat}{ok ov:Value}{Q:Value→Shared→Prop}(h:IsItemIter s.heap it d i n ep ok ov)(q:Q (.ref it) s):wpAny (model prog w) A (pyIter (.ref it)) Q E s:=by
 have ty:s.TypeIs (.ref it) "dict_itemiterator":=⟨_,h,rfl⟩;exact wpAny_pyIter_slot ty F.slot_dict_itemiterator_iter (pI F.slot_dict_itemiterator_iter ty an4 (aS ⟨_,rfl,_,_,ty,F.slot_dict_itemiterator_next.lookup,q⟩) (F.args_dict_itemiterator_iter_1 _))
end L2
namespace V2
open PySem PySem.Spec PyProof.Rows L2
def Fj(a:Addr)(o:Obj)(kvs:List (Key×V)):It :=
 ⟨fun i H=>H a=some (.cV o (.dK kvs))∧i<kvs.length,fun i H x H'=>∃p kv,kvs[i]? = some kv∧H p=none∧H'=upd H p (.tup [kV kv.1,kv.2])∧x = .ref p,fun i H=>H a=some (.cV o (.dK kvs))∧kvs.length≤i⟩
theorem Oz{X:Cx}{pins:List (Addr×Obj)}{σ:L2.St}{H:Hp}{s:Shared}{a:Addr}{o:Obj}{kvs:List (Key×V)}{es:Array DictEntry}{ep:Nat}(I:Inv X pins σ H s)(h:H a=some (.cV o (.dK kvs)))(hd:o.data = .dict es ep) :
  ∃vs,KV kvs vs∧Heap.DictAt (fR X.prog X.w) s.heap a vs ep:=by
 obtain⟨h1,z,y,vs,rel,o',dX,OP,q1,q2,q3,q4⟩:=I.aH a _ h;rw [h1]at q1;cases q1;rw [hd]at q3;cases q3;exact⟨vs,rel,o,es,h1,q2,hd,q4⟩
theorem Wn{P:Program}{w:World}{K:Frag}{elts:List Expr}{x1:Nat}{tp:Pos}(a it:Addr)(o:Obj)(kvs:List (Key×V))(es:Array DictEntry)(ep:Nat)(hd:o.data = .dict es ep) :
  Turn P w K (.Tuple elts x1 tp) (Fj a o kvs) [it] it (fun i h=>∃ok ov,IsItemIter h it a i kvs.length ep ok ov)where
 mem:=by simp
 obj:=fun i h st c hc=>by
  obtain⟨ok,ov,st⟩:=st;have e:c=it:=by simpa using hc
  subst e;exact⟨_,st,fun v z=>by cases z⟩
 keep:=fun i h h' st k=>by
  obtain⟨ok,ov,st⟩:=st;exact⟨ok,ov,k it (by simp) _ st⟩
 item:=by
  intro X hP hw hK hc i pins s σ H E I hf st hg;subst hP hw hK;obtain⟨ok,ov,st⟩:=st;obtain⟨hH,hi⟩:=hg;obtain⟨vs,rel,dat⟩:=Oz I hH hd;have hl:kvs.length=vs.length:=rel.length;have ZI:kvs[i]? = some kvs[i]:=jC hi;generalize kvs[i]=kv at ZI;obtain⟨tN,g1,g2,g3⟩:=MQ rel ZI;have hsz:it<s.heap.objs.size:=cO st;rw [hl]at st;refine wpAny_pyNext_items_item (k:=tN.1) (v:=tN.2) st dat g1 fun key h1 hk a1 a2 a3 a4=>?_;refine⟨_,rfl,wpAny_letOwnedTupleGo_items (s:={ s with heap:=h1 }) a1 fun h2 e2 sb=>?_⟩;have GJ:H s.heap.objs.size=none:=I.aH.fresh bP;have k2:∀c o,c∉[it]→s.heap.get? c=some o→h2.get? c=some o:=fun c o hc q=>by
   have hc:c≠it:=by simpa using hc
   exact sb.extBut c o hc (a4 c o hc q)
  have t2:h2.get? s.heap.objs.size=some { cls := .type "tuple",data := .seq #[key,tN.2] }:=sb.extBut _ _ (CW hsz) a2;have I1:Inv X pins σ H { s with heap:=h2 }:=Inv.Hn (t':=s.toks) I k2 hf;have rk:RelV (kV kv.1) key:=by rw [g2];exact NM hk
  have aH:eR X.prog X.w (upd H s.heap.objs.size (.tup [kV kv.1,kv.2])) h2:=by
   refine fun b o q=>?_
   by_cases eb:b=s.heap.objs.size
   ·subst eb;rw [dR]at q;cases q;exact⟨by show 2≤sizeLine;decide,[key,tN.2],.cons rk (.cons g3 .nil),⟨_,t2,rfl,_,rfl⟩⟩
   ·rw [aY eb]at q;exact(I1.aH b o q).nC (fun c v _ z=>z) (fun c z=>by rw [aY (iF z GJ)];exact z) fun c xs z=>by rw [aY (iF z GJ)];exact z
  have fp:pH X pins H s.heap.objs.size:=I.yU bP GJ;have h0:X.s₀.heap.get? s.heap.objs.size=none:=by
   cases q:X.s₀.heap.get? s.heap.objs.size with
   | none=>rfl
   | some ob=>exact absurd (lC (cO q) I.sz) (Nat.lt_irrefl _)
  have I2:Inv X pins σ (upd H s.heap.objs.size (.tup [kV kv.1,kv.2])) { s with heap:=h2 }:=Inv.Hs I1 GJ h0 fp.2.1 fp.2.2.2.2.1 fp.2.2.2.2.2 aH;rw [← hl]at e2;refine⟨.ref s.heap.objs.size,_,I2,rfl,⟨_,kv,ZI,GJ,rfl,rfl⟩,⟨_,_,e2⟩,fun c hc=>?_⟩;have OE:=(hf c hc).1;have e:c=it:=by simpa using hc
  subst e;rw [aY (dA hsz)];exact OE
 done:=by
  intro X hP hw hK hc i pins s σ H E I hf st hg;subst hP hw hK;obtain⟨ok,ov,st⟩:=st;obtain⟨hH,hi⟩:=hg;obtain⟨vs,rel,dat⟩:=Oz I hH hd;have hl:kvs.length=vs.length:=rel.length;rw [hl]at st;refine wpAny_pyNext_items_end (I.ok.hd hc) st dat (by simp;omega) fun h' hk=>⟨rfl,Inv.Hn (t':=s.toks) I (fun c o hc q=>hk c o (by simpa using hc) q) hf⟩
 self:=fun _ _ _ _ _ st h=>by
  obtain⟨ok,ov,st⟩:=st;exact ajS st h
theorem Inv.anG{X:Cx}{pins:List (Addr×Obj)}{σ:L2.St}{H:Hp}{s:Shared}{a:Addr}{kvs:List (Key×V)}{o:Obj}(I:Inv X pins σ H s)(h:H a=some (.dK kvs))(ho:s.heap.get? a=some o):Inv X pins σ (upd H a (.cV o (.dK kvs))) s where
 ok:=I.ok
 os:=I.os
 bare:=I.bare
 base:={
  keep:=I.base.keep
  slot:=I.base.slot
  free:=fun b ob q n hx=>by
   have z:=I.base.free b ob q n hx;rw [aY (bV (iF h z))];exact z
  there:=I.base.there
  kH:=fun b xs q=>by have z:=I.base.kH b xs q;rw [aY (rV z h (by intro w;cases w))];exact z
  jL:=fun b ob u q=>by have z:=I.base.jL b ob u q;rw [aY (rV z h (by intro w;cases w))];exact z
  kI:=fun b ps q=>by obtain⟨more,z⟩:=I.base.kI b ps q;exact⟨more,by rw [aY (rV z h (by intro w;cases w))];exact z⟩ }
 loc:=I.loc
 cell:=I.cell
 free:=by rw [aY (bV (iF h I.free))];exact I.free
 jM:=fun x c q=>by rw [aY (bV (iF h (I.jM x c q)))];exact I.jM x c q
 pin:=fun q hq=>by
  obtain⟨x,y,c⟩:=I.pin q hq;exact⟨x,by rw [aY (bV (iF h y))];exact y,c⟩
 aH:=fun b u q=>by
  have st:∀c v,H c=some v→v ≠ .dK kvs→upd H a (.cV o (.dK kvs)) c=some v:=fun c v z hv=>by rw [aY (rV z h hv)];exact z
  by_cases eb:b=a
  ·subst eb;rw [dR]at q;cases q;exact⟨ho,(I.aH b _ h).nC (fun c v _ z=>z) (fun c z=>st c _ z (by intro w;cases w)) fun c xs z=>st c _ z (by intro w;cases w)⟩
  ·rw [aY eb]at q;exact(I.aH b u q).nC (fun c v _ z=>z) (fun c z=>st c _ z (by intro w;cases w)) fun c xs z=>st c _ z (by intro w;cases w)
 len:=I.len
section
variable{X:Cx}{W:WX}{pos:Pos}
theorem afN{o:Expr}{td:TE}{elts:List Expr}{x1:Nat}{tp apos q2:Pos}(ho:PE X o td)(iJ:attributeBase o "items" X.env (eval o X.env)=eval o X.env:=by rfl)(iH:(apos.endLine == q2.line)=true:=by rfl) :
  PI X (.Tuple elts x1 tp) (.Call (.Attribute o "items" apos) [] [] q2) (fun σ H R=>td σ H fun x H1=>∃a kvs,x = .ref a∧H1 a=some (.dK kvs)∧∀ob,R (Fj a ob kvs) (upd H1 a (.cV ob (.dK kvs)))):=by
 intro pins s σ H R I h;refine KI iJ iH (bA (ho pins s σ H _ I h) fun v s1 ⟨x,H1,I1,r1,q1⟩=>?_);obtain⟨a,kvs,rfl,hH,q⟩:=q1;cases r1;obtain⟨h1,h2,oR⟩:=xZ I1 (.inl ⟨kvs,.inl hH⟩);obtain⟨z,_,vs,rel,dd⟩:=zA I1.aH hH;refine⟨"dict", "dict.items",PySem.F.plainAttrs_dict,PySem.F.slot_dict_items,PySem.F.type_dict_items,h1,h2,DP rfl (PySem.evalArgs_none ?_)⟩;refine CM PySem.F.slot_dict_items dd.typeIs PySem.F.entry_dict_items (PySem.F.args_dict_items_1 _) (meets_dict_items (fR X.prog X.w) a oR) ⟨⟨vs,dd⟩,?_⟩;obtain⟨ob,es,ep,g1,g2,g3,g4⟩:=dd;have hl:kvs.length=vs.length:=rel.length;have I2:Inv X pins σ H1 { s1 with heap:=s1.heap.push { cls := .type "dict_items",data := .fields #[.ref a] } }:=I1.kept (t':=s1.toks) fun b o e=>cH _ e;have dat:Heap.DictAt (fR X.prog X.w) (s1.heap.push { cls := .type "dict_items",data := .fields #[.ref a] }) a vs ep:=⟨ob,es,cH _ g1,g2,g3,g4⟩;refine wpAny_pyIter_items (s:={ s1 with heap:=s1.heap.push { cls := .type "dict_items",data := .fields #[.ref a] } }) ⟨_,eY _ rfl,rfl,rfl⟩ dat ?_;generalize nH:({ s1 with heap:=s1.heap.push { cls := .type "dict_items",data := .fields #[.ref a] } }:Shared)=s2 at I2 dat;have ga:s2.heap.get? a=some ob:=by rw [← nH];exact cH _ g1
 have I3:=V2.Inv.anG I2 hH ga;have I4:Inv X pins σ (upd H1 a (.cV ob (.dK kvs))) { s2 with heap:=s2.heap.push { cls := .type "dict_itemiterator",data := .fields #[.none,.bool false,.ref a,.int 0 0,.int vs.length 0,.int ep 0,.none,.none] } }:=I3.kept (t':=s2.toks) fun b o e=>cH _ e;have hs3:s2.heap=s1.heap.push { cls := .type "dict_items",data := .fields #[.ref a] }:=by rw [← nH]
 refine⟨s2.heap.objs.size,[s2.heap.objs.size],_,_,_,rfl,I4,Wn a _ ob kvs es ep g3,⟨.none,.none,by rw [hl];exact eY _ rfl⟩,fun c hc=>?_,q ob⟩;have e:c=s2.heap.objs.size:=by simpa using hc
 subst e;exact I3.yU bP (I3.aH.fresh bP)
def NK(kvs:List (Key×A)):Src:=⟨kvs.map lZ,fun _=>True⟩
theorem ajR{K:Frag}{G:Hp}{ι:List Addr}{p:Addr}{o:Obj}{ws:List (Key×V)}{kvs:List (Key×A)}(hG:G p=some (.cV o (.dK ws)))(hk:ws.map (·.1)=kvs.map (·.1))(d:aN K G ι (ws.map (·.2)) (kvs.map (·.2))):uI K G ι (Fj p o ws) (NK kvs):=by
 have hl:ws.length=kvs.length:=by have:=congrArg List.length hk;simpa using this
 have ls:(NK kvs).ds.length=kvs.length:=by simp [NK]
 refine⟨fun G' ι' Ω' H' e w h i hi=>⟨w.sub _ _ (e.same _ _ hG),by rw [hl,← ls];exact hi⟩,fun G' ι' Ω' H' e w h i hi=>⟨w.sub _ _ (e.same _ _ hG),by rw [hl,← ls];exact hi⟩,fun G' ι' Ω' H' e w h i x H2 y hy hd=>?_⟩;obtain⟨q,kv,g1,g2,rfl,rfl⟩:=hd;have GA:(kvs.map lZ)[i]? = some y:=hy;rw [gK]at GA;cases ek:kvs[i]? with
 | none=>rw [ek]at GA;cases GA
 | some tN =>
  rw [ek]at GA;cases GA;have k1:kv.1=tN.1:=by
   have:=congrArg (fun l=>l[i]?) hk;simp only [gK,g1,ek,IX,jB]at this;exact this
  obtain⟨z,z1,z2⟩:=d.get (i:=i) (d:=tN.2) (by rw [gK,ek];rfl);rw [gK,g1]at z1;cases z1;refine⟨upd G' q (.tup [kV kv.1,kv.2]),Ext.new (w.nV g2) _,w.new g2 _,?_⟩;simp only [lZ,Den];exact⟨q,[kV kv.1,kv.2],rfl,dR,.cons (by rw [k1];exact Cd _) (.cons ((z2.ext e).ext (Ext.new (w.nV g2) _)) .nil)⟩
end
section
variable{P:Program}{w:World}{K:Frag}{mg:Str→Option Value}{base:Heap}
structure Um(K:Frag)(x qual:Str)(st:Stmt)(f T:Addr)(fd:FuncData):Prop where
 ex:∃(oc:Value) (od:Option Addr) (kV doc pm:Value) (an:Option Addr) (aV ct:Value) (iQ:Array (Option Value)),
  fd=fnOf x qual (kN st) (fB st) (aZ st) (.ref T) kV doc pm an aV ct∧K.lookup f=some ⟨oc,od,.func fd,iQ⟩∧codeIn K aV qual=true
structure QU(K:Frag)(mg:Str→Option Value)(cls m qual:Str)(st:Stmt)(dv:Array Value):Prop where
 ex:∃C f fd T o n,nsIn K mainGlobals cls=some (some (.ref C))∧mg cls=some (.ref C)∧lD K C∧Meth K C m f∧Um K m qual st f T fd∧K.lookup T=some o∧o.data = .seq dv n
theorem cF.ofD{cls m qual:Str}{st:Stmt}{N ps:List Str}{k:Nat}{b:MS}{dv:Array Value}{ds:List Value}{dvs:List V}{das:List A}(h:QU K mg cls m qual st dv)(hv:Vals dvs ds)(hd:∀G ι,aN K G ι dvs das)(S:dI N ps (aZ st))
  (bind:∀(T:Addr) (kV doc pm:Value) (an:Option Addr) (aV ct:Value) (us:List Value),us.length+ds.length=ps.length→∃k,bindArgs (fnOf m qual (kN st) (fB st) (aZ st) (.ref T) kV doc pm an aV ct) ⟨us,[]⟩=seqItems? (.ref T) >>= k∧k (some dv)=pure (ps.zip (us++ds)))
  (kD:∀(f:Addr) (aV:Value) (A:Around) (outer:List Env) (s:Shared) (H:Hp) (E:XK),cE k (A.deeper (envOfC qual (aZ st) s.heap.objs.size f aV)) →
   lO (pB P w K mg base N qual (aZ st) f aV A outer s H E) (fun _=>E) (fB st) b):cF P w K mg base cls m (k+1) ps.length das (eE N.length b):=by
 obtain⟨C,f,fd,T,o,n,h1,_,h2,h3,F,hT,ho⟩:=h.ex;obtain⟨oc,od,kV,doc,pm,an,aV,ct,iQ,rfl,lk,kB⟩:=F.ex;refine⟨C,f,_,ps,ds,dvs,h1,h2,h3,rfl,HY lk kB S (fun vs H Q E h=>h.1) fun A outer s H vs Q E hr jZ=>?_,fun s us hK hl=>?_,hv,hd⟩
 ·obtain⟨t,p,q⟩:=kD f aV A outer s H E hr;exact⟨t,ND p,Cr q jZ⟩
 ·obtain⟨k',e1,e2⟩:=bind T kV doc pm an aV ct us (by rw [← sP];exact hl);exact BindsTo.of_defaults rfl (hK _ _ hT) ho e1 e2
end
end V2
namespace L2
open PySem
theorem cE.m{j k:Nat}{A:Around}(r:cE k A)(h:j≤k:=by first | decide | omega):cE j A:=r.mono h
end L2
namespace V2
open PySem L2 PyProof.Rows
variable{P:Program}{w:World}{K:Frag}{mg:Str→Option Value}{base:Heap}
theorem apU{h:Heap}{x:Str}{v:Int}{t:Tok}(X:K.In h)(G:h.Ns mainGlobals mg)(a:nsIn K mainGlobals x=some (some (.int v t))):∃t,mg x=some (.int v t):=⟨_,mg_of X G a⟩
structure lQ(K:Frag)(X:Addr)(m q:Str)(st:Stmt):Prop where
 ex:∃f fd,Meth K X m f∧oE K m q st f fd
theorem nF{X f:Addr}{m q:Str}{st:Stmt}{oc:Value}{od an:Option Addr}{iQ:Array (Option Value)}{kV doc pm aV ct:Value}(a:findIn K (.ref X) m=some (some (.ref f)))
  (l:K.lookup f=some ⟨oc,od,.func (fnOf m q (kN st) (fB st) (aZ st) .none kV doc pm an aV ct),iQ⟩) (c:codeIn K aV q=true) (k:keepIn K (.ref f)=true) (i:isFn K (.ref f)=true):lQ K X m q st:=⟨f,_,⟨a,i,k⟩,HV l c k⟩
theorem lQ.has{h:Heap}{cls m q:Str}{st:Stmt}{C:Addr}(M:lQ K C m q st)(X:K.In h)(G:h.Ns mainGlobals mg)(n:nsIn K mainGlobals cls=some (some (.ref C)))(L:lD K C):lR K mg cls m q st :=
 let ⟨f,fd,a,b⟩:=M.ex; ⟨C,f,fd,n,mg_of X G n,L,a,b⟩
structure QS(K:Frag)(X:Addr)(q:Str)(st:Stmt):Prop where
 ex:∃f fd,Mk K X f∧oE K "__init__" q st f fd
theorem aj7{X f:Addr}{q:Str}{st:Stmt}{oc:Value}{od an:Option Addr}{iQ:Array (Option Value)}{kV doc pm aV ct:Value}(a:findIn K (.ref X) "__init__" = some (some (.ref f)))
  (l:K.lookup f=some ⟨oc,od,.func (fnOf "__init__" q (kN st) (fB st) (aZ st) .none kV doc pm an aV ct),iQ⟩) (c:codeIn K aV q=true) (k:keepIn K (.ref f)=true) (i:isFn K (.ref f)=true)
  (mk:makesIn K X=true) (kc:keepIn K (.ref X)=true):QS K X q st:=⟨f,_,⟨mk,a,i,kc⟩,HV l c k⟩
theorem QS.has{h:Heap}{cls q:Str}{st:Stmt}{C:Addr}(M:QS K C q st)(X:K.In h)(G:h.Ns mainGlobals mg)(n:nsIn K mainGlobals cls=some (some (.ref C))):QV K mg cls q st :=
 let ⟨f,fd,a,b⟩:=M.ex; ⟨C,f,fd,n,mg_of X G n,a,b⟩
structure QM(K:Frag)(X:Addr)(m q:Str)(st:Stmt)(dv:Array Value):Prop where
 ex:∃f fd T o n,Meth K X m f∧Um K m q st f T fd∧K.lookup T=some o∧o.data = .seq dv n
theorem ah9{X f T:Addr}{m q:Str}{st:Stmt}{oc tc:Value}{od an td:Option Addr}{iQ ts:Array (Option Value)}{kV doc pm aV ct:Value}{n:Nat}{dv:Array Value}(a:findIn K (.ref X) m=some (some (.ref f)))
  (l:K.lookup f=some ⟨oc,od,.func (fnOf m q (kN st) (fB st) (aZ st) (.ref T) kV doc pm an aV ct),iQ⟩) (c:codeIn K aV q=true) (k:keepIn K (.ref f)=true) (i:isFn K (.ref f)=true)
  (t:K.lookup T=some ⟨tc,td,.seq dv n,ts⟩):QM K X m q st dv:=⟨f,_,T,_,n,⟨a,i,k⟩,⟨⟨_,_,_,_,_,_,_,_,_,rfl,l,c⟩⟩,t,rfl⟩
theorem QM.has{h:Heap}{cls m q:Str}{st:Stmt}{C:Addr}{dv:Array Value}(M:QM K C m q st dv)(X:K.In h)(G:h.Ns mainGlobals mg)(n:nsIn K mainGlobals cls=some (some (.ref C)))(L:lD K C):QU K mg cls m q st dv :=
 let ⟨f,fd,T,o,k,a,b,c,d⟩:=M.ex; ⟨C,f,fd,T,o,k,n,mg_of X G n,L,a,b,c,d⟩
theorem fT{N P:List Str}{sc:Scope}(a:sc.kind = .function:=by rfl)(b:sc.isCoroutine=false:=by rfl)(c:sc.isGenerator=false:=by rfl)(d:N.Nodup:=by decide +kernel)(e:N.take P.length=P:=by rfl)(f:∀x∈P,sc.names.lookup x=some .local∨sc.names.lookup x=some .cell:=by decide +kernel)(g:∀y∈sc.names,y.2 ≠ .free:=by decide +kernel):dI N P sc:=⟨a,b,c,d,e,f,g⟩
theorem vK{X:Cx}{scope:Scope}{ls:List Str}{js:List Nat}(sc:Scope)(N:List Str)(yD:X.env.scope=sc:=by rfl)(hN:X.N=N:=by rfl)(ok:WR scope sc N js=true:=by decide +kernel):wN X scope ls js := .of sc N yD hN ok
end V2
namespace PySem
open PyProof.Rows
def sN(xs:Array Nat):Prop:=∀i j a b:Nat,i<j→xs[i]? = some a→xs[j]? = some b→a<b
theorem Cu(xs:Array Nat)(j:Nat)(hr:sN xs):∀(fuel lo hi:Nat),lo≤hi→hi≤xs.size→hi - lo≤fuel→(∀i a,i<lo→xs[i]? = some a→a<j)→(∀i a,hi≤i→xs[i]? = some a→j≤a) →
  lo≤SetTable.below.go xs j fuel lo hi∧SetTable.below.go xs j fuel lo hi≤xs.size∧(∀i a,i<SetTable.below.go xs j fuel lo hi→xs[i]? = some a→a<j)∧(∀i a,SetTable.below.go xs j fuel lo hi≤i→xs[i]? = some a→j≤a)
 | 0,lo,hi,h1,h2,h3,h4,h5=>by
  have:lo=hi:=by omega
  subst this;exact⟨oB _,h2,h4,h5⟩
 | fuel+1,lo,hi,h1,h2,h3,h4,h5=>by
  unfold SetTable.below.go
  by_cases dD:lo<hi
  ·rw [if_pos dD];have hm:(lo+hi)/2<xs.size:=by omega
   have hg:xs[(lo+hi)/2]? = some xs[(lo+hi)/2]:=Bc xs _ hm;have hd:xs.getD ((lo+hi)/2) j=xs[(lo+hi)/2]:=by simp [Array.getD,hm]
   show lo≤(if xs.getD ((lo+hi)/2) j<j then SetTable.below.go xs j fuel ((lo+hi)/2+1) hi else SetTable.below.go xs j fuel lo ((lo+hi)/2))∧(if xs.getD ((lo+hi)/2) j<j then SetTable.below.go xs j fuel ((lo+hi)/2+1) hi else SetTable.below.go xs j fuel lo ((lo+hi)/2))≤xs.size∧(∀i a,i<(if xs.getD ((lo+hi)/2) j<j then SetTable.below.go xs j fuel ((lo+hi)/2+1) hi else SetTable.below.go xs j fuel lo ((lo+hi)/2))→xs[i]? = some a→a<j)∧(∀i a,(if xs.getD ((lo+hi)/2) j<j then SetTable.below.go xs j fuel ((lo+hi)/2+1) hi else SetTable.below.go xs j fuel lo ((lo+hi)/2))≤i→xs[i]? = some a→j≤a);rw [hd]
   by_cases hx:xs[(lo+hi)/2]<j
   ·rw [if_pos hx];obtain⟨a,b,c,d⟩:=Cu xs j hr fuel ((lo+hi)/2+1) hi (by omega) h2 (by omega) (fun i a tS ha=>by
     rcases Eg i ((lo+hi)/2)with z | z
     ·have:=hr i ((lo+hi)/2) a _ z ha hg;omega
     ·have:i=(lo+hi)/2:=by omega
      subst this;rw [hg]at ha;cases ha;exact hx) h5
    exact⟨by omega,b,c,d⟩
   ·rw [if_neg hx];obtain⟨a,b,c,d⟩:=Cu xs j hr fuel lo ((lo+hi)/2) (by omega) (by omega) (by omega) h4 (fun i a tS ha=>by
     rcases Eg ((lo+hi)/2) i with z | z
     ·have:=hr ((lo+hi)/2) i _ a z hg ha;omega
     ·have:i=(lo+hi)/2:=by omega
      subst this;rw [hg]at ha;cases ha;omega)
    exact⟨a,b,c,d⟩
  ·rw [if_neg dD];have:lo=hi:=by omega
   subst this;exact⟨oB _,h2,h4,h5⟩
theorem Ct{xs:Array Nat}(hr:sN xs)(j:Nat):SetTable.below xs j≤xs.size∧(∀i a,i<SetTable.below xs j→xs[i]? = some a→a<j)∧(∀i a,SetTable.below xs j≤i→xs[i]? = some a→j≤a):=by
 obtain⟨_,b,c,d⟩:=Cu xs j hr xs.size 0 xs.size xR bP (by omega) (fun i a h=>absurd h (Nat.not_lt_zero _)) (fun i a h ha=>by
  have:=(KC.mp ha).1;omega)
 exact⟨b,c,d⟩
theorem aq2{xs:Array Nat}(hr:sN xs){i a:Nat}(h:xs[i]? = some a):SetTable.below xs (a+1)=i+1:=by
 obtain⟨b,c,d⟩:=Ct hr (a+1);have hi:=(KC.mp h).1
 rcases Nat.lt_trichotomy (SetTable.below xs (a+1)) (i+1)with z | z | z
 ·have:=d i a (by omega) h;omega
 ·exact z
 ·have hl:i+1<xs.size:=by omega
  have hg:xs[i+1]? = some xs[i+1]:=Bc xs _ hl;have h1:=c (i+1) _ z hg;have h2:=hr i (i+1) a _ (by omega) h hg;omega
theorem aq1{xs:Array Nat}(hr:sN xs):SetTable.below xs 0=0:=by
 obtain⟨b,c,d⟩:=Ct hr 0
 rcases Nat.eq_zero_or_pos (SetTable.below xs 0)with z | z
 ·exact z
 ·have hl:0<xs.size:=by omega
  have hg:xs[0]? = some xs[0]:=Bc xs _ hl;have:=c 0 _ z hg;omega
theorem aj6{α:Type}(xs:Array α)(p:Nat)(x:α)(hp:p≤xs.size)(i:Nat):(SetTable.insertAt xs p x)[i]? = if i<p then xs[i]? else if i=p then some x else xs[i - 1]?:=by
 unfold SetTable.insertAt;have e1:(xs.extract 0 p).size=p:=by simp;omega
 have e2:((xs.extract 0 p).push x).size=p+1:=by rw [Array.size_push,e1]
 rw [Array.getElem?_append,e2]
 by_cases h1:i<p
 ·rw [if_pos (by omega),if_pos h1,Array.getElem?_push,e1,if_neg (by omega),Array.getElem?_extract];simp;intro h;omega
 ·rw [if_neg h1]
  by_cases h2:i=p
  ·rw [if_pos (by omega),if_pos h2,Array.getElem?_push,e1,if_pos h2]
  ·rw [if_neg (by omega),if_neg h2,Array.getElem?_extract]
   by_cases h3:i - (p+1)<xs.size - p
   ·rw [if_pos (by simpa using h3),show(p+(i - (p+1)))=i - 1 by omega]
   ·rw [if_neg (by simpa using h3),eq_comm,Uw];omega
theorem adZ{xs:Array Nat}(hr:sN xs)(j:Nat)(hn:xs[SetTable.below xs j]? ≠ some j):sN (SetTable.insertAt xs (SetTable.below xs j) j):=by
 obtain⟨b,c,d⟩:=Ct hr j;have d':∀i a,SetTable.below xs j≤i→xs[i]? = some a→j<a:=fun i a h1 h2=>by
  have h3:=d i a h1 h2
  rcases Eg j a with z | z
  ·exact z
  ·exfalso;have:a=j:=by omega
   subst this
   rcases Eg (SetTable.below xs a) i with y | y
   ·have hl:SetTable.below xs a<xs.size:=by have:=(KC.mp h2).1;omega
    have hg:xs[SetTable.below xs a]? = some xs[SetTable.below xs a]:=Bc xs _ hl;have h4:=d _ _ bP hg;have h5:=hr _ i _ a y hg h2;omega
   ·have:i=SetTable.below xs a:=by omega
    subst this;exact hn h2
 intro i k x y hik hx hy;rw [aj6 _ _ _ b]at hx hy
 by_cases h1:i<SetTable.below xs j
 ·rw [if_pos h1]at hx
  by_cases h2:k<SetTable.below xs j
  ·rw [if_pos h2]at hy;exact hr i k x y hik hx hy
  ·rw [if_neg h2]at hy
   by_cases h3:k=SetTable.below xs j
   ·rw [if_pos h3]at hy;cases hy;exact c i x h1 hx
   ·rw [if_neg h3]at hy;exact hr i (k - 1) x y (by omega) hx hy
 ·rw [if_neg h1]at hx;rw [if_neg (by omega),if_neg (by omega)]at hy
  by_cases h3:i=SetTable.below xs j
  ·rw [if_pos h3]at hx;cases hx;exact d' (k - 1) y (by omega) hy
  ·rw [if_neg h3]at hx;exact hr (i - 1) (k - 1) x y (by omega) hx hy
theorem adY(n:Nat):sN (Array.range n):=by
 intro i j a b kX ha hb;have h1:=(KC.mp ha);have h2:=(KC.mp hb);obtain⟨p,q⟩:=h1;obtain⟨p',q'⟩:=h2;simp at q q';omega
theorem ad0{l:List Nat}(h:l.Pairwise (· < ·)):sN l.toArray:=by
 intro i j a b kX ha hb;simp only [List.getElem?_toArray]at ha hb;obtain⟨p,q⟩:=bX.mp ha;obtain⟨p',q'⟩:=bX.mp hb;have:=Eu.mp h i j p p' kX;rw [q,q']at this;exact this
theorem VR(t:SetTable)(ha:Nat→Int)(h:Int):∀(fuel:Nat) (p:SetTable.Probe) (j:Nat) (dm:Option Nat),SetTable.probe.go t ha h fuel p=some (.empty j dm)→t.slot j = .empty∧∀d,dm=some d→p.dummy=some d∨t.slot d = .dummy
 | 0,p,j,dm,e=>by cases e
 | fuel+1,p,j,dm,e=>by
  unfold SetTable.probe.go at e;cases hs:t.slot p.j with
  | empty =>
   rw [hs]at e;dsimp only at e;cases e;exact⟨hs,fun d hd => .inl hd⟩
  | dummy =>
   rw [hs]at e;dsimp only at e;obtain⟨a,b⟩:=VR t ha h fuel _ j dm e;refine⟨a,fun d hd=>?_⟩
   rcases b d hd with z | z
   ·have e2:(t.advance { p with dummy:=some p.j }).dummy=some p.j:=by
     unfold SetTable.advance;split <;> rfl
    rw [e2]at z;cases z;exact .inr hs
   ·exact .inr z
  | live i =>
   rw [hs]at e;dsimp only at e
   by_cases hh:(ha i == h)=true
   ·rw [if_pos hh]at e;cases e
   ·rw [if_neg hh]at e;obtain⟨a,b⟩:=VR t ha h fuel _ j dm e;refine⟨a,fun d hd=>?_⟩
    rcases b d hd with z | z
    ·have e2:(t.advance p).dummy=p.dummy:=by
      unfold SetTable.advance;split <;> rfl
     rw [e2]at z;exact .inl z
    ·exact .inr z
theorem Iz{t:SetTable}{j:Nat}(h:t.slot j = .empty∨t.slot j = .dummy):t.place[SetTable.below t.place j]? ≠ some j:=by
 intro z;unfold SetTable.slot at h;simp only [z,beq_self_eq_true,jI]at h
 rcases h with h | h <;> cases h
theorem anH{t:SetTable}{h:Int}{j:Nat}{b:Bool}(e:t.freeSlot h=some (j,b)):t.place[SetTable.below t.place j]? ≠ some j:=by
 unfold SetTable.freeSlot at e;split at e
 ·next j0 dm hp =>
  cases e;obtain⟨a,c⟩:=VR t _ h _ _ j0 dm hp;cases dm with
  | none=>exact Iz (.inl a)
  | some d =>
   rcases c d rfl with z | z
   ·cases z
   ·exact Iz (.inr z)
 ·cases e
structure mW(led:Bool)(t:SetTable):Prop where
 rise:sN t.place
 led:t.led=led
theorem Wx(led:Bool):mW led (.fresh 0 0 led):=⟨fun i j a b _ h=>by simp [SetTable.fresh]at h,rfl⟩
theorem LH{led:Bool}{t:SetTable}(h:mW led t)(n:Nat):mW led (t.standIn n):=⟨adY n,h.led⟩
theorem Ww{led:Bool}{t:SetTable}(h:mW led t)(es:Array (Int×Value))(hs:Int)(x:Value):mW led (layNew t es hs x).2.1:=by
 unfold layNew;split
 ·next slot wd e =>
  show mW led ((t.put slot).1.orStandIn _);have hp:mW led (t.put slot).1:=⟨adZ h.rise slot (anH e),h.led⟩;unfold SetTable.orStandIn;split
  ·exact hp
  ·exact LH hp _
 ·exact LH h _
theorem Wu{led:Bool}{t:SetTable}(h:mW led t)(es:Array (Int×Value))(w:Nat):mW led (relayAll t es w).2.1:=by
 unfold relayAll;split
 ·next t' order e =>
  show mW led (if(coversAll order es.size&&t'.fits (order.filterMap (es[·]?)).size)=true then(order.filterMap (es[·]?),t',false)else(es,t.standIn es.size,true)).2.1;split
  ·show mW led t';unfold SetTable.relaid SetTable.laid at e;cases hc:SetTable.layClean (SetTable.sizeAbove w - 1) (es.map (·.1))with
   | none=>rw [hc]at e;cases e
   | some ow =>
    rw [hc]at e;simp at e;obtain⟨e1,e2⟩:=e;subst e1;refine⟨ad0 ?_,h.led⟩;rw [List.map_filterMap];refine List.Pairwise.filterMap _ (R:=(· < ·)) (fun a b HI x hx y hy=>?_) List.pairwise_lt_range;simp at hx hy;obtain⟨_,_,rfl⟩:=hx;obtain⟨_,_,rfl⟩:=hy;exact HI
  ·exact LH h _
 ·exact LH h _
theorem Wv{led:Bool}{t:SetTable}(h:mW led t)(b:Bool):mW led { t with plain:=b }:=⟨h.rise,h.led⟩
def lX(w:World):Bool:=!w.params.followText "set-order"
def jA(prog:Program)(w:World)(h:Heap)(a:Addr)(es:Array (Int×Value)):Prop :=
 ∃o ep t,h.get? a=some o∧o.ExactSet∧o.data = .set es ep t∧ElemsOf (intKind prog w) es.toList∧es.size<scanBound∧t.fits es.size=true∧mW (lX w) t
section
variable{prog:Program}{w:World}{A:Around}{E:Value→Shared→Prop}{s:Shared}
theorem jA.at{h h':Heap}{a:Addr}{es:Array (Int×Value)}(x:jA prog w h a es)(e:∀o,h.get? a=some o→h'.get? a=some o):jA prog w h' a es :=
 let ⟨o,ep,t,ho,r⟩:=x; ⟨o,ep,t,e _ ho,r⟩
theorem jA.typeIs{a:Addr}{es:Array (Int×Value)}(x:jA prog w s.heap a es):s.TypeIs (.ref a) "set":=let ⟨o,_,_,ho,hx,_⟩:=x; ⟨o,ho,hx.1⟩
theorem jA.lt{h:Heap}{a:Addr}{es:Array (Int×Value)}(x:jA prog w h a es):a<h.objs.size:=let ⟨_,_,_,ho,_⟩:=x;cO ho
theorem Sh{g:Bool→Sem Unit}(hg:∀(b:Bool) (s₁:Shared) (Q':Unit→Shared→Prop),Q' () s₁→wpAny (model prog w) A (g b) Q' E s₁)
  {a:Addr} {o:Obj} {es:Array (Int×Value)} {ep:Nat} {t:SetTable} (ho:s.heap.get? a=some o) (hex:o.ExactSet) (hd:o.data = .set es ep t)
  {gY:Array (Int×Value)} {t2:SetTable} (GY:ElemsOf (intKind prog w) gY.toList) (vR:gY.size<scanBound) (hf2:t2.fits gY.size=true) (hT:mW (lX w) t2) {Gk:Bool} {R:Option Bool→Shared→Prop}
  (h:∀h' dX,Heap.SameBut a s.heap h'→jA prog w h' a dX→dX.toList.Perm gY.toList→R (some true) { s with heap:=h' }) :
  wpAny (model prog w) A (do
    storeSet a gY t2
    if(!Gk&&t2.tooFull)=true then do
      g (relayAll t2 gY (SetTable.grown gY.size)).2.2
      storeSet a (relayAll t2 gY (SetTable.grown gY.size)).1 (relayAll t2 gY (SetTable.grown gY.size)).2.1
      pure (some true)
     else pure (some true)) R E s:=by
 have store:∀{h:Heap} {o:Obj} {es:Array (Int×Value)} {ep:Nat} {t:SetTable} (dX:Array (Int×Value)) (t':SetTable),h.get? a=some o→o.data = .set es ep t→(h.update a (Obj.putSet dX t')).get? a=some { o with data := .set dX (ep+1) t' }:=fun{h o es ep t} dX t' ho hd=>by
  have:=JJ (Obj.putSet dX t') ho (by rw [putSet_of dX t' hd];rfl);rw [putSet_of dX t' hd]at this;exact this
 refine aF (wpAny_storeSet_of ho hd ?_ (Bq vR));have oS:=store gY t2 ho hd;have Nc:=Heap.SameBut.update s.heap a (Obj.putSet gY t2);split
 ·have hp:=relayAll_perm t2 gY (SetTable.grown gY.size);have GW:=relayAll_fits t2 gY (SetTable.grown gY.size);have ZW:=Wu hT gY (SetTable.grown gY.size);generalize hRl:relayAll t2 gY (SetTable.grown gY.size)=Rl at hp GW ZW ⊢;obtain⟨IB,t3,auO⟩:=Rl;dsimp only at hp GW ZW ⊢;have alV:ElemsOf (intKind prog w) IB.toList:=GY.perm hp;have hsz:IB.size=gY.size:=by rw [← lE,hp.length_eq,lE]
  have oW:IB.size<scanBound:=by rw [hsz];exact vR
  refine aF (hg _ _ _ ?_);refine aF (wpAny_storeSet_of oS rfl ?_ (Bq oW));have sC:=store IB t3 oS rfl;exact aS (h _ IB (Nc.trans (Heap.SameBut.update _ a _)) ⟨_,_,t3,sC,hex,rfl,alV,oW,GW,ZW⟩ hp)
 ·exact aS (h _ gY Nc ⟨_,_,t2,oS,hex,rfl,GY,vR,hf2,hT⟩ (DJ _))
theorem arJ{a:Addr}{es:Array (Int×Value)}{k:Int}{x:Value}{Q:Bool→Shared→Prop}(NY:(intKind prog w).is k x=true)(yD:x.scannable=true)(hS:jA prog w s.heap a es)(YV:es.size+1<scanBound)
  (h:∀b h' dX,Heap.SameBut a s.heap h'→jA prog w h' a dX→(((∃e∈es.toList,(intKind prog w).is k e.2=true)∧dX=es)∨((∀e∈es.toList,(intKind prog w).is k e.2≠true)∧dX.toList.Perm (es.toList++[((intKind prog w).hash k,x)])))→Q b { s with heap:=h' }) :
  wpAny (model prog w) A (setAddHashed a x ((intKind prog w).hash k)) Q E s:=by
 obtain⟨o,ep,t,ho,hex,hd,GZ,hb,hf,hT⟩:=hS;unfold setAddHashed setAddHashedIn;refine oH (aF (wV ho hd hf ?_));dsimp only;rw [byScan_of yD hb GZ];simp only [↓reduceIte];unfold setAddByScan;refine aF ?_;refine aF (DU ?_);refine aF (wpAny_setScan_of NY ho hd hf GZ ?_);cases hr:List.findIdx? (fun e=>(intKind prog w).is k e.2) es.toList with
 | some j =>
  dsimp only;obtain⟨hj,hpj,_⟩:=List.findIdx?_eq_some_iff_getElem.mp hr;refine aS (aS ?_);have e:s = { s with heap:=s.heap }:=by cases s;rfl
  rw [e];exact h _ s.heap es (Heap.SameBut.refl a s.heap) ⟨o,ep,t,ho,hex,hd,GZ,hb,hf,hT⟩ (.inl ⟨⟨es.toList[j],uG hj,hpj⟩,rfl⟩)
 | none =>
  dsimp only;have tQ:∀e∈es.toList,(intKind prog w).is k e.2≠true:=fun e he hp=>by
   have:=List.findIdx?_eq_none_iff.mp hr e he;rw [hp]at this;exact Bool.noConfusion this
  have hgw:∀(b:Bool) {s₁:Shared} {Q':Unit→Shared→Prop},Q' () s₁→wpAny (model prog w) A (match b with | true=>rule "set.scan.the-table-gave-way" | false=>pure ()) Q' E s₁ :=
   fun b s₁ Q' hq=>by cases b <;> first | exact aS hq | exact DU hq
  have BL:=layNew_perm t es ((intKind prog w).hash k) x;have GX:=layNew_fits t es ((intKind prog w).hash k) x;have HJ:=Ww hT es ((intKind prog w).hash k) x;generalize hL:layNew t es ((intKind prog w).hash k) x=L at BL GX HJ ⊢;obtain⟨gY,t1,Gk,auP⟩:=L;dsimp only at BL GX HJ ⊢;rw [Array.toList_push]at BL;have GY:ElemsOf (intKind prog w) gY.toList:=(GZ.push NY yD).perm BL;have Oc:gY.size<scanBound:=by rw [← lE,BL.length_eq,sP,lE];simpa using YV
  refine aF (hgw _ ?_);have Nr:∀b h' dX,Heap.SameBut a s.heap h'→jA prog w h' a dX→dX.toList.Perm gY.toList→Q b { s with heap:=h' }:=fun b h' dX kW kY hp=>h b h' dX kW kY (.inr ⟨tQ,hp.trans BL⟩);split
  ·refine aF ?_;rw [hashByValue_scannable 8 yD];refine aS ?_;refine Sh ?_ ho hex hd GY Oc ?_ ?_ ?_
   ·intro b s₁ Q' hq;cases b <;> first | exact aS hq | exact DU hq
   ·split
    ·exact GX
    ·exact SetTable.fits_plain_off GX
   ·split
    ·exact HJ
    ·exact Wv HJ _
   ·intro h' dX kW kY hp;dsimp only;exact wpAny_pure (Nr _ h' dX kW kY hp)
  ·refine aF (aS ?_);simp only [↓reduceIte];refine Sh ?_ ho hex hd GY Oc GX HJ ?_
   ·intro b s₁ Q' hq;cases b <;> first | exact aS hq | exact DU hq
   ·intro h' dX kW kY hp;dsimp only;exact wpAny_pure (Nr _ h' dX kW kY hp)
end
def Nums(es:Array (Int×Value))(ms:List Int):Prop:=IntsAre (es.toList.map (·.2)) ms
theorem ahM{es dX:Array (Int×Value)}{ms:List Int}(h:Nums es ms){l:List (Int×Value)}(hl:dX.toList.Perm l){lJ:List Int}(h2:IntsAre (l.map (·.2)) lJ):∃tK,Nums dX tK∧tK.Perm lJ:=by
 have qZ:∀v∈dX.toList.map (·.2),∃n t,v = .int n t:=fun v hv=>by
  have:=(hl.map (·.2)).mem_iff.mp hv;exact IntsAre.all h2 v this
 refine⟨_,intsAre_map _ qZ,?_⟩;have:=(hl.map (·.2)).map numOf;rw [IntsAre.nums h2]at this;exact this
theorem ints_snoc:∀{vs:List Value} {ns:List Int},IntsAre vs ns→∀(n:Int) (t:Tok),IntsAre (vs++[.int n t]) (ns++[n])
 | _,_,.nil,n,t => .cons n t .nil
 | _,_,.cons m u h,n,t => .cons m u (ints_snoc h n t)
open PyProof.Rows PySem.Spec
set_option maxRecDepth 100000
theorem Lq{prog:Program}{w:World}:∀{l:List (Int×Value)} {ms:List Int},IntsAre (l.map (·.2)) ms→∀k:Int,(∃e∈l,(intKind prog w).is k e.2=true)↔k∈ms
 | [],_,h,k=>by
  cases h;constructor
  ·rintro⟨e,he,_⟩;cases he
  ·intro z;cases z
 | (hs,v)::l,_,h,k=>by
  cases h with
  | cons n t h =>
   have ih:=Lq (prog:=prog) (w:=w) h k;constructor
   ·rintro⟨e,he,hp⟩
    rcases eN.mp he with z | z
    ·subst z;have:=(intKind prog w).inj _ _ _ hp (intKind_is prog w n t);rw [this];exact List.mem_cons_self ..
    ·exact gQ _ (ih.mp ⟨e,z,hp⟩)
   ·intro z
    rcases eN.mp z with z | z
    ·subst z;exact⟨_,List.mem_cons_self ..,intKind_is prog w k t⟩
    ·obtain⟨e,he,hp⟩:=ih.mpr z;exact⟨e,gQ _ he,hp⟩
section
variable{prog:Program}{w:World}{A:Around}{R:Result→Shared→Prop}{I:Addr}{fp wr:List Addr}{G:Array GenState→Array GenState→Prop}{n:Nat}{P:Nat→Value→Prop}{St:Nat→Shared→Prop}
theorem apW(W:WalksS prog w A.in1 I fp wr G n P St)(S:Addr)(sD:S∉fp)
  (val:Nat→Int) (YQ:∀i v,P i v→∃t,v = .int (val i) t) (hb:n+1<scanBound) :
  ∀(k i:Nat) (s:Shared) (es:Array (Int×Value)) (ms:List Int),n - i=k→i≤n→St i s →
   jA prog w s.heap S es→Nums es ms→ms.Perm (firstMet val i) →
   (∀s' dX lJ,Moved (S::wr) G s s'→jA prog w s'.heap S dX→Nums dX lJ→lJ.Perm (firstMet val n)→R (.ok (.ret .none)) s') →
   codeAny (model prog w) A (.builtin "set.update.loop" ⟨[.ref S,.ref I],[]⟩) R s:=by
 have HK:S∉wr:=fun h=>sD (W.sub _ h);have vO:∀b∈wr,b∈S::wr:=fun b hb=>gQ _ hb;intro k
 induction k with
 | zero =>
  intro i s es ms hk hi iG hS hN hP hR;have mS:i=n:=by omega
  subst mS;refine zC arO ?_;rw [DQ Tf _];show wpAny _ A.in1 (pyNext (.ref I) >>= _) _ _ s;refine aF (W.done s _ _ iG fun s' hm=>?_);show wpAny _ A.in1 (ret Value.none) _ _ s';exact aS (hR s' es ms (hm.mono vO) (hS.at fun o e=>hm.heap S _ HK e) hN hP)
 | succ k ih =>
  intro i s es ms hk hi iG hS hN hP hR;have dD:i<n:=by omega
  refine zC arO ?_;rw [DQ Tf _];show wpAny _ A.in1 (pyNext (.ref I) >>= _) _ _ s;refine aF (W.item i s _ _ dD iG fun v s' ZY YT hm=>?_);obtain⟨t,rfl⟩:=YQ i v ZY;have kY:jA prog w s'.heap S es:=hS.at fun o e=>hm.heap S _ HK e;show wpAny _ A.in1 (holding [Value.int (val i) t] (setAdd S (.int (val i) t)) >>= _) _ _ s';refine aF (oH ?_);unfold setAdd;refine oH ?_;refine aF ((intKind prog w).pyHash (k:=val i) (intKind_is _ _ _ _) ?_);have hsz:es.size=(firstMet val i).length:=by
   have h1:=IntsAre.length hN;rw [eG,lE]at h1;rw [h1];exact hP.length_eq
  have YV:es.size+1<scanBound:=by have:=firstMet_length_le val i;omega
  refine arJ (s:={ s' with toks:=s'.toks+1 }) (intKind_is _ _ _ _) rfl kY YV fun b h' dX kW hS2 hor=>?_;have Nq:∀tK,Nums dX tK→tK.Perm (firstMet val (i+1))→_:=fun tK ZZ vU =>
   aS (M:=model prog w) (A:=A.in1) (s:={ s' with heap:=h',toks:=s'.toks+1 }) (a:=PySem.Fin.again (.builtin "set.update.loop" ⟨[.ref S,.ref I],[]⟩)) (Q:=fun fin s'=>match fin with | .done f=>R (.ok f) s' | .again c'=>c'.quiet=true∧codeAny (model prog w) A c' R s') (E:=fun e s'=>R (.error e) s')
    ⟨AX Tf _,ih (i+1) _ dX tK (by omega) dD (W.frame _ s' _ _ YT (qE _) fun b hb o e=>by
     rw [kW.2 b (fun h:b=S=>sD (by rw [← h];exact hb))];exact e) hS2 ZZ vU fun tF anY aiB ZG amU amY amX=>by
     refine hR tF anY aiB (Moved.trans W.gtrans ((hm.mono vO).then_heap (qE _) fun b o hb e=>?_) ZG) amU amY amX;rw [kW.2 b (fun h:b=S=>hb (by rw [h];exact List.mem_cons_self))];exact e⟩
  have NV:=Lq (prog:=prog) (w:=w) hN (val i)
  rcases hor with⟨mS,rfl⟩ | ⟨tQ,hp⟩
  ·refine Nq ms hN ?_;have yI:val i∈firstMet val i:=hP.mem_iff.mp (NV.mp mS);rw [firstMet_succ];unfold step_dedup;rw [if_pos (by rw [List.any_eq_true];exact⟨_,yI,by simp⟩)];exact hP
  ·have hnm:val i∉firstMet val i:=fun z=>by
    obtain⟨e,he,hpe⟩:=NV.mpr (hP.mem_iff.mpr z);exact tQ e he hpe
   have h2:IntsAre ((es.toList++[((intKind prog w).hash (val i),Value.int (val i) t)]).map (·.2)) (ms++[val i]):=by
    rw [JD];exact ints_snoc hN (val i) t
   obtain⟨tK,ZZ,vU⟩:=ahM hN hp h2;refine Nq tK ZZ ?_;rw [firstMet_succ];unfold step_dedup;rw [if_neg (by rw [List.any_eq_true];rintro⟨y,hy,e⟩;simp at e;subst e;exact hnm hy)];exact vU.trans (hP.append_right _)
end
section
variable{prog:Program}{w:World}{A:Around}{E:Value→Shared→Prop}{s:Shared}
theorem ac4(a:Value){Q₁:Value→Shared→Prop}
  (h:Q₁ (.ref s.heap.objs.size) { s with heap:=s.heap.push { cls := .type "set",dict:=none,data := .set #[] 0 (.fresh 0 0 (lX w)) } }) :
  codeAny (model prog w) A (.call (.builtin "set.__new__") ⟨[.type "set",a],[]⟩) (wants Q₁ E) s:=by
 refine codeAny_of_tree ?_;show wpAny _ A.in1 (do checkBuiltinCall "set.__new__" ⟨[.type "set",a],[]⟩;again (.builtin "set.__new__" ⟨[.type "set",a],[]⟩)) _ _ s;refine aF (wpAny_of_eq (F.newCall_set_1 a) (aS ⟨AX F.plain_set_new _,zC F.entry_set_new ?_⟩));rw [DQ F.plain_set_new _];unfold Builtin.«set.__new__» Builtin.Frozenset.newClass;have vO:=sub_set_self;obtain⟨hp,g,d,tk,os⟩:=s;dsimp only
 wp_walk
 refine wX (aS ?_);dsimp only;simp only [newObj];refine aF (wpAny_alloc (aS ?_));exact aS h
set_option maxHeartbeats 3200000 in
theorem aqH{l:Addr}{items:Array Value}{ns:List Int}{Q:Value→Shared→Prop}
  (hh:A.handled=none) (hl:s.heap.IsList l items) (hi:PyProof.Rows.IntsAre items.toList ns) (hb:items.size+1<scanBound)
  (h:∀(h':Heap) (tk:Nat) es ms,jA prog w h' s.heap.objs.size es→Nums es ms→ms.Perm (firstMet (fun i=>ns.getD i 0) items.size) →
   (∀b o,b<s.heap.objs.size→s.heap.get? b=some o→h'.get? b=some o)→Q (.ref s.heap.objs.size) { s with heap:=h',toks:=tk }) :
  wpAny (model prog w) A (call (.type "set") [.ref l]) Q E s:=by
 obtain⟨c,tl,at5⟩:=F.called_set.mro;have at6:=F.called_set.made;have vO:=F.called_set.sub;refine wpAny_call (codeAny_of_tree ?_);show wpAny _ _ (callAny (.type "set") _) _ _ _;refine aS ⟨Code.quiet_builtin _ (by decide +kernel),zC F.entry_type_call ?_⟩;rw [Around.under_plain (weight_type_call_type "set" [.ref l] []) rfl];have h1:=F.called_set.notType;have h2:=F.called_set.canCreate;have hct:=F.typeCall_set_1 (.ref l)
 repeat (any_goals (first | assumption | wp_step))
 refine uA (ac4 (.ref l) (E:=E) (Q₁:=fun obj s₁=>obj = .ref s.heap.objs.size∧s₁ = { s with heap:=s.heap.push { cls := .type "set",dict:=none,data := .set #[] 0 (.fresh 0 0 (lX w)) } }) ⟨rfl,rfl⟩) fun r s₁ hr=>?_;cases r with
 | error e=>exact hr
 | ok fl =>
  cases fl with
  | ret obj =>
   obtain⟨rfl,rfl⟩:=hr;have hS:(s.heap.push { cls := .type "set",dict:=none,data := .set #[] 0 (.fresh 0 0 (lX w)) }).get? s.heap.objs.size=some { cls := .type "set",dict:=none,data := .set #[] 0 (.fresh 0 0 (lX w)) }:=eY _ rfl;have hT:Shared.TypeIs { s with heap:=s.heap.push { cls := .type "set",dict:=none,data := .set #[] 0 (.fresh 0 0 (lX w)) } } (.ref s.heap.objs.size) "set":=⟨_,hS,rfl⟩;have hli:=F.called_set.init.lookup;have hbi:=F.called_set.init.bind (.ref s.heap.objs.size)
   repeat (any_goals (first | assumption | wp_step))
   refine uA (codeAny_call_builtin (R:=wants (fun r s₂=>r = .none∧∃h' tk es ms,s₂ = { s with heap:=h',toks:=tk } ∧
     jA prog w h' s.heap.objs.size es∧Nums es ms∧ms.Perm (firstMet (fun i=>ns.getD i 0) items.size) ∧
     (∀b o,b<s.heap.objs.size→s.heap.get? b=some o→h'.get? b=some o)) E) F.called_set.init.plain F.entry_set_init (check_set_init_1 hT ?_)) fun r₂ s₂ YU=>?_
   ·obtain⟨ol,tP,gM,nl,BS⟩:=hl;obtain⟨as7,ahE,as6,agQ⟩:=ol;simp only at gM BS;subst gM;subst BS;have NT:(s.heap.push { cls := .type "set",dict:=none,data := .set #[] 0 (.fresh 0 0 (lX w)) }).get? l=some { cls := .type "list",dict:=ahE,data := .seq items nl,slots:=agQ }:=cH _ tP;have atZ:=F.sub_list_set;have at0:=F.sub_list_frozenset;have cA:(Value.type "list" == Value.type "dict")=false:=by decide
    have vQ:(s.heap.push { cls := .type "set",dict:=none,data := .set #[] 0 (.fresh 0 0 (lX w)) }).IsList l items:=⟨_,NT,rfl,nl,rfl⟩;unfold Builtin.«set.__init__» noKeywords Builtin.Frozenset.updateFrom;generalize hPI:pyIter=PI
    wp_walk
    subst hPI;refine wpAny_pyIter_list vQ ?_;refine aF (wpAny_runValue ?_);have vP:l<s.heap.objs.size:=cO tP;have ZK:A.in1.in1.in1.handled=none:=by simp [hh]
    have ak5:l≠(s.heap.push { cls := .type "set",dict:=none,data := .set #[] 0 (.fresh 0 0 (lX w)) }).objs.size:=by
     rw [zV];exact dA (wJ vP)
    have sD:s.heap.objs.size∉[(s.heap.push { cls := .type "set",dict:=none,data := .set #[] 0 (.fresh 0 0 (lX w)) }).objs.size,l]:=by
     rw [zV];simp only [eN,nN,zM,xN,not_or];exact⟨dA (Ef _),CW vP⟩
    have YQ:∀(i:Nat) (v:Value),items[i]? = some v→∃t,v = .int ((fun i=>ns.getD i 0) i) t:=fun i v hv =>
     PyProof.Rows.IntsAre.int_at hi i v (by rw [RH];exact hv)
    refine apW ((Walks.list ZK _ l ak5 items).toS) s.heap.objs.size
     sD (fun i=>ns.getD i 0) YQ hb (items.size - 0) 0 _ #[] [] (by omega) xR
     ⟨⟨_,eY _ rfl,rfl,rfl⟩,(vQ.push _)⟩ ?hS0 .nil (DJ _) ?hR
    case hS0 =>
     have alM:((s.heap.push { cls := .type "set",dict:=none,data := .set #[] 0 (.fresh 0 0 (lX w)) }).push { cls := .type "list_iterator",data := .fields #[.ref l,.int 0 0] }).get? s.heap.objs.size
       = some { cls := .type "set",dict:=none,data := .set #[] 0 (.fresh 0 0 (lX w)) }:=cH _ hS
     exact⟨_,0,_,alM,⟨rfl,rfl,rfl⟩,rfl,fun e he=>by simp at he,by decide,rfl,Wx _⟩
    case hR =>
     intro s' dX lJ hm kY Aa vV;obtain⟨h',g',d',AN,FG⟩:=s';have eg:g'=s.gens:=hm.gens;have ed:d'=s.drawn:=hm.drawn;have eo:FG=s.os:=hm.os;subst eg;subst ed;subst eo;show wpAny _ _ _ _ _ _;refine aS ?_;show wpAny _ _ (ret Value.none) _ _ _;refine aS ⟨rfl,h',AN,dX,lJ,rfl,kY,Aa,vV,fun b o hb e=>?_⟩;have vR:b≠s.heap.objs.size:=dA hb;have oW:b≠(s.heap.push { cls := .type "set",dict:=none,data := .set #[] 0 (.fresh 0 0 (lX w)) }).objs.size:=by
      rw [zV];exact dA (wJ hb)
     exact hm.heap b o (by simp only [eN,nN,zM,xN,not_or];exact⟨vR,oW⟩) (cH _ (cH _ e))
   ·cases r₂ with
    | error e=>exact YU
    | ok fl₂ =>
     cases fl₂ with
     | ret r =>
      obtain⟨rfl,h',tk,es,ms,rfl,kY,Aa,vV,pV⟩:=YU
      repeat (any_goals (first | assumption | wp_step))
      exact h _ _ es ms kY Aa vV pV
     | _=>exact YU.elim
  | _=>exact hr.elim
end
set_option maxRecDepth 100000
theorem mQ:Slot "set_iterator" "__next__" "set_iterator.__next__" :=
 .of (owner := "set_iterator") (n := "__next__") (by rw [typeLookup_type,builtinLookup_eq_fast];kernel_rfl) (by decide +kernel) (by decide +kernel) (by decide +kernel)
  (by first | exact .inl (by decide +kernel) | exact .inr (by decide +kernel)) (by rw [isSubtype_type];kernel_rfl)
theorem Iy:Slot "set_iterator" "__iter__" "set_iterator.__iter__" :=
 .of (owner := "set_iterator") (n := "__iter__") (by rw [typeLookup_type,builtinLookup_eq_fast];kernel_rfl) (by decide +kernel) (by decide +kernel) (by decide +kernel)
  (by first | exact .inl (by decide +kernel) | exact .inr (by decide +kernel)) (by rw [isSubtype_type];kernel_rfl)
theorem CD:entryFor table "set_iterator.__next__" = some Builtin.«set_iterator.__next__»:=entryFor_of_tree (by kernel_rfl)
theorem an2:entryFor table "set_iterator.__iter__" = some Builtin.«dict_keyiterator.__iter__»:=entryFor_alias (id' := "dict_keyiterator.__iter__") (by kernel_rfl) rfl (by decide +kernel) (by kernel_rfl)
theorem an3:entryFor table "set.__iter__" = some Builtin.«frozenset.__iter__»:=entryFor_alias (id' := "frozenset.__iter__") (by kernel_rfl) rfl (by decide +kernel) (by kernel_rfl)
theorem Kv:Manifest.owners.lookup (String.ofList ['r','o','t','a','r','e','t','i','_','t','e','s'].reverse)=some Manifest.sig_set_iterator:=by kernel_rfl
theorem CO(a:Value):argsOk "set_iterator.__next__" ⟨[a],[]⟩:=by
 unfold argsOk;rw [signature?_of (id := "set_iterator.__next__") (n:=['_','_','t','x','e','n','_','_']) (o:=['r','o','t','a','r','e','t','i','_','t','e','s']) (by kernel_rfl) Kv];kernel_rfl
theorem arE(a:Value):argsOk "set_iterator.__iter__" ⟨[a],[]⟩:=by
 unfold argsOk;rw [signature?_of (id := "set_iterator.__iter__") (n:=['_','_','r','e','t','i','_','_']) (o:=['r','o','t','a','r','e','t','i','_','t','e','s']) (by kernel_rfl) Kv];kernel_rfl
def jQ(h:Heap)(I a:Addr)(first:Value)(i n ep:Nat):Prop:=h.get? I=some { cls := .type "set_iterator",data := .fields #[first,.int i 0,.ref a,.int n 0,.int ep 0] }
def oA(w:World)(h:Heap)(a:Addr)(es:Array (Int×Value))(ep:Nat)(t:SetTable):Prop:=∃o,h.get? a=some o∧o.data = .set es ep t∧t.fits es.size=true∧mW (lX w) t
theorem jQ.typeIs{s:Shared}{I a:Addr}{f:Value}{i n ep:Nat}(x:jQ s.heap I a f i n ep):s.TypeIs (.ref I) "set_iterator":=⟨_,x,rfl⟩
theorem jQ.at{h h':Heap}{I a:Addr}{f:Value}{i n ep:Nat}(x:jQ h I a f i n ep)(e:∀o,h.get? I=some o→h'.get? I=some o):jQ h' I a f i n ep:=e _ x
theorem oA.at{w:World}{h h':Heap}{a:Addr}{es:Array (Int×Value)}{ep:Nat}{t:SetTable}(x:oA w h a es ep t)(e:∀o,h.get? a=some o→h'.get? a=some o):oA w h' a es ep t:=let ⟨o,ho,r⟩:=x; ⟨o,e _ ho,r⟩
def uV(t:SetTable)(i:Nat):Nat:=if i=0 then 0 else t.place.getD (i - 1) 0+1
theorem Ja{t:SetTable}(h:sN t.place){i:Nat}(hi:i≤t.place.size):SetTable.below t.place (uV t i)=i:=by
 unfold uV
 by_cases h0:i=0
 ·rw [if_pos h0,aq1 h,h0]
 ·rw [if_neg h0];have hl:i - 1<t.place.size:=by omega
  have hg:t.place[i - 1]? = some (t.place.getD (i - 1) 0):=by simp [Array.getD,hl]
  rw [aq2 h hg];omega
section
variable{prog:Program}{w:World}{A:Around}{E:Value→Shared→Prop}{s:Shared}
theorem ahX{I a:Addr}{es:Array (Int×Value)}{ep i:Nat}{t:SetTable}{x:Int×Value}{Q:Option Value→Shared→Prop}(hit:jQ s.heap I a (.int (uV t i) 0) i es.size ep)(hs:oA w s.heap a es ep t)
  (hb:w.params.followText "set-order" = false) (hd:(!t.plain&&decide (es.size>1))=false) (hx:es[i]? = some x)
  (hQ:∀h',jQ h' I a (.int (uV t (i+1)) 0) (i+1) es.size ep→Heap.SameBut I s.heap h'→Q (some x.2) { s with heap:=h' }):wpAny (model prog w) A (pyNext (.ref I)) Q E s:=by
 obtain⟨os,gA,gG,hf,hT⟩:=id hs;have ZP:=hf;simp only [SetTable.fits,kR,sI,CI]at ZP;have dD:i<es.size:=(KC.mp hx).1;have akT:i<t.place.size:=by omega
 have dS:t.place[i]? = some (t.place.getD i 0):=by simp [Array.getD,akT]
 have ZH:(!t.led && !es.isEmpty)=false:=by rw [hT.led];simp [lX,hb]
 unfold pyNext;refine aF (DW (AF (name:=Str.ofString "__next__") hit.typeIs mQ
  (pI mQ hit.typeIs CD ?_ (CO _))))
 unfold Builtin.«set_iterator.__next__»;refine aF (aS ?_);refine aF (DV hit rfl ?_);dsimp only;refine aF (AE gA gG hf ?_);rw [if_neg (by simp)];refine aF ?_;unfold setNext;refine aF (wV gA gG hf ?_);dsimp only;unfold setsByText;refine aF (aF (wX (aS ?_)));refine rH (nJ (show ¬(w.params.followText "set-order" = true)by rw [hb];simp)) ?_;refine rH (nJ (show ¬((!t.plain&&decide (es.size>1))=true)by rw [hd];simp)) ?_;refine aF ?_;show wpAny (model prog w) A.in1 (if(!t.led && !es.isEmpty)=true then unsupported "set:maker-not-led" else pure ()) _ _ _;refine rH (by simp [ZH]) (aS ?_);rw [zR,Ja hT.rise (by omega),hx,dS];refine aS ?_;dsimp only;refine aF (uN hit (by simp) fun h1 e1 qN=>?_);refine aF (uN e1 (by simp) fun h2 e2 TY=>?_);refine aS ⟨_,rfl,aS (hQ h2 ?_ (qN.trans TY))⟩;unfold jQ;rw [e2];have:uV t (i+1)=t.place.getD i 0+1:=by unfold uV;simp
 rw [this];simp [rawInt]
theorem ahY{I a:Addr}{es:Array (Int×Value)}{ep:Nat}{t:SetTable}{Q:Option Value→Shared→Prop}(hh:A.handled=none)(hit:jQ s.heap I a (.int (uV t es.size) 0) es.size es.size ep)(hs:oA w s.heap a es ep t)
  (hb:w.params.followText "set-order" = false) (hd:(!t.plain&&decide (es.size>1))=false)
  (hQ:∀h',Heap.ExtBut I s.heap h'→Q none { s with heap:=h' }):wpAny (model prog w) A (pyNext (.ref I)) Q E s:=by
 obtain⟨os,gA,gG,hf,hT⟩:=id hs;have ZP:=hf;simp only [SetTable.fits,kR,sI,CI]at ZP;have ZH:(!t.led && !es.isEmpty)=false:=by rw [hT.led];simp [lX,hb]
 unfold pyNext;refine aF (DW (AF (name:=Str.ofString "__next__") hit.typeIs mQ
  (pI mQ hit.typeIs CD ?_ (CO _))))
 unfold Builtin.«set_iterator.__next__»;refine aF (aS ?_);refine aF (DV hit rfl ?_);dsimp only;refine aF (AE gA gG hf ?_);rw [if_neg (by simp)];refine aF ?_;unfold setNext;refine aF (wV gA gG hf ?_);dsimp only;unfold setsByText;refine aF (aF (wX (aS ?_)));refine rH (nJ (show ¬(w.params.followText "set-order" = true)by rw [hb];simp)) ?_;refine rH (nJ (show ¬((!t.plain&&decide (es.size>1))=true)by rw [hd];simp)) ?_;refine aF ?_;show wpAny (model prog w) A.in1 (if(!t.led && !es.isEmpty)=true then unsupported "set:maker-not-led" else pure ()) _ _ _;refine rH (by simp [ZH]) (aS ?_);rw [zR,Ja hT.rise (by omega),Array.getElem?_eq_none bP];refine aS ?_;dsimp only;refine aF (uN hit (by simp) fun h1 e1 qN=>?_);show wpAny _ _ (newExc (.type "StopIteration") [] >>= _) _ _ _;refine aF ?_;simp only [newExc,newTuple];refine aF (mK ?_ (by size_fits));refine aF (m:=firstArgMember _ _) (wpAny_of_eq (a:=Value.none) (by first | rfl | (simp only [firstArgMember];rfl)) ?_);refine mK ?_ (by size_fits);simp only [raiseNew];refine aF (wpAny_handled ?_);rw [show A.in1.handled=none from hh];refine aF (aS (wpAny_throw ?_));refine aF (RL (T := "StopIteration") (b:=true) ⟨_,eY _ rfl,rfl⟩ isSubtype_stop ?_);exact aS (hQ _ ((qN.extBut.push _).push _))
end
set_option maxRecDepth 100000
theorem By{α:Type}:∀(l:List α) (i:Nat) (h:i<l.length),(l[i]::l.eraseIdx i).Perm l
 | [],i,h=>absurd h (Nat.not_lt_zero _)
 | x::l,0,h=>DJ _
 | x::l,i+1,h=>by
  have ih:=By l i (by simpa using h);simp only [List.getElem_cons_succ,List.eraseIdx_cons_succ];exact(List.Perm.swap _ _ _).trans (ih.cons x)
theorem Kp{α:Type}(f:Nat→Nat):∀(fuel k:Nat) (left:List α) (out:Array α),left.length=fuel→(pickOrder.go f fuel k left out).toList.Perm (out.toList++left)
 | 0,k,left,out,h=>by
  have:left=[]:=List.length_eq_zero_iff.mp h;subst this;unfold pickOrder.go;simp
 | fuel+1,k,left,out,h=>by
  have hi:f k%left.length<left.length:=Nat.mod_lt _ (by omega);unfold pickOrder.go;rw [jC hi];have ih:=Kp f fuel (k+1) (left.eraseIdx (f k%left.length)) (out.push left[f k%left.length]) (by rw [List.length_eraseIdx_of_lt hi];omega);refine ih.trans ?_;rw [Array.toList_push,Fc];exact(By _ _ hi).append_left _
theorem VX{α:Type}(f:Nat→Nat)(xs:Array α):(pickOrder f xs).toList.Perm xs.toList:=by
 have h:=Kp f xs.size 0 xs.toList #[] (by simp);simp only [List.nil_append]at h;exact h
section
variable{prog:Program}{w:World}{A:Around}{E:Value→Shared→Prop}{s:Shared}
theorem Gm{a:Addr}{es:Array (Int×Value)}{ep:Nat}{t:SetTable}{Q:Array (Int×Value)→Shared→Prop}(hs:oA w s.heap a es ep t)(hb:w.params.followText "set-order" = true)
  (h:Q (pickOrder (w.params.setOrder a ep) es) s):wpAny (model prog w) A (setWalk a) Q E s:=by
 obtain⟨os,gA,gG,hf,hT⟩:=id hs;unfold setWalk;refine aF (wV gA gG hf ?_);dsimp only;unfold setsByText;refine aF (aF (wX (aS ?_)));refine KH (zB (show w.params.followText "set-order" = true from hb)) ?_;exact aF (wX (aS h))
theorem ahZ{I a:Addr}{es:Array (Int×Value)}{ep i:Nat}{t:SetTable}{x:Int×Value}{Q:Option Value→Shared→Prop}(hit:jQ s.heap I a (.int 0 0) i es.size ep)(hs:oA w s.heap a es ep t)
  (hb:w.params.followText "set-order" = true) (hx:(pickOrder (w.params.setOrder a ep) es)[i]? = some x)
  (hQ:∀h',jQ h' I a (.int 0 0) (i+1) es.size ep→Heap.SameBut I s.heap h'→Q (some x.2) { s with heap:=h' }):wpAny (model prog w) A (pyNext (.ref I)) Q E s:=by
 obtain⟨os,gA,gG,hf,hT⟩:=id hs;unfold pyNext;refine aF (DW (AF (name:=Str.ofString "__next__") hit.typeIs mQ
  (pI mQ hit.typeIs CD ?_ (CO _))))
 unfold Builtin.«set_iterator.__next__»;refine aF (aS ?_);refine aF (DV hit rfl ?_);dsimp only;refine aF (AE gA gG hf ?_);rw [if_neg (by simp)];refine aF ?_;unfold setNext;refine aF (wV gA gG hf ?_);dsimp only;unfold setsByText;refine aF (aF (wX (aS ?_)));refine KH (zB (show w.params.followText "set-order" = true from hb)) ?_;refine rH (by simp) ?_;refine aF (Gm hs hb ?_);rw [zR,hx];refine aS ?_;simp only [IX];refine aF (uN hit (by simp) fun h1 e1 qN=>?_);refine aF (uN e1 (by simp) fun h2 e2 TY=>?_);refine aS ⟨_,rfl,aS (hQ h2 ?_ (qN.trans TY))⟩;unfold jQ;rw [e2];simp [rawInt]
theorem ah0{I a:Addr}{es:Array (Int×Value)}{ep:Nat}{t:SetTable}{Q:Option Value→Shared→Prop}(hh:A.handled=none)(hit:jQ s.heap I a (.int 0 0) es.size es.size ep)(hs:oA w s.heap a es ep t)
  (hb:w.params.followText "set-order" = true)
  (hQ:∀h',Heap.ExtBut I s.heap h'→Q none { s with heap:=h' }):wpAny (model prog w) A (pyNext (.ref I)) Q E s:=by
 obtain⟨os,gA,gG,hf,hT⟩:=id hs;have hx:(pickOrder (w.params.setOrder a ep) es)[es.size]? = none:=by
  rw [Uw];have:=(VX (w.params.setOrder a ep) es).length_eq;simp only [lE]at this;omega
 unfold pyNext;refine aF (DW (AF (name:=Str.ofString "__next__") hit.typeIs mQ
  (pI mQ hit.typeIs CD ?_ (CO _))))
 unfold Builtin.«set_iterator.__next__»;refine aF (aS ?_);refine aF (DV hit rfl ?_);dsimp only;refine aF (AE gA gG hf ?_);rw [if_neg (by simp)];refine aF ?_;unfold setNext;refine aF (wV gA gG hf ?_);dsimp only;unfold setsByText;refine aF (aF (wX (aS ?_)));refine KH (zB (show w.params.followText "set-order" = true from hb)) ?_;refine rH (by simp) ?_;refine aF (Gm hs hb ?_);rw [zR,hx];refine aS ?_;simp only [Option.map_none];refine aF (uN hit (by simp) fun h1 e1 qN=>?_);show wpAny _ _ (newExc (.type "StopIteration") [] >>= _) _ _ _;refine aF ?_;simp only [newExc,newTuple];refine aF (mK ?_ (by size_fits));refine aF (m:=firstArgMember _ _) (wpAny_of_eq (a:=Value.none) (by first | rfl | (simp only [firstArgMember];rfl)) ?_);refine mK ?_ (by size_fits);simp only [raiseNew];refine aF (wpAny_handled ?_);rw [show A.in1.handled=none from hh];refine aF (aS (wpAny_throw ?_));refine aF (RL (T := "StopIteration") (b:=true) ⟨_,eY _ rfl,rfl⟩ isSubtype_stop ?_);exact aS (hQ _ ((qN.extBut.push _).push _))
theorem Uz{src:Source}{n:Nat}{Q:Nat→Shared→Prop}(hn:n≠0)(h:∀i,i<n→Q i { s with drawn:=s.drawn.bump src }):wpAny (model prog w) A (choose src n) Q E s:=fun Γ p _=>by
 unfold choose;rw [Sem.wp_choose];exact⟨hn,h _ (Nat.mod_lt _ (by omega))⟩
theorem Gj{α:Type}:∀(n:Nat) (xs:List α) (s:Shared) {Q:List α→Shared→Prop},xs.length=n→(∀ys d,ys.Perm xs→Q ys { s with drawn:=d })→wpAny (model prog w) A (drawOrder n xs) Q E s
 | 0,xs,s,Q,hl,h=>by
  have:xs=[]:=List.length_eq_zero_iff.mp hl;subst this;unfold drawOrder;have e:s = { s with drawn:=s.drawn }:=by cases s;rfl
  rw [e];exact aS (h [] s.drawn (DJ _))
 | n+1,[],s,Q,hl,h=>by simp at hl
 | n+1,x::xs,s,Q,hl,h=>by
  unfold drawOrder;refine aF (Uz (by simp) fun i hi=>?_);rw [jC hi];dsimp only;refine aF (Gj n ((x::xs).eraseIdx i) _ (by rw [List.length_eraseIdx_of_lt hi];omega) fun ys d hp=>?_);refine aS (h ((x::xs)[i]::ys) d ?_);exact(hp.cons _).trans (By _ _ hi)
end
set_option maxRecDepth 100000
def DK(h:Heap)(T:Addr)(ps:List Nat):Prop:=h.get? T=some { cls := .type "tuple",data := .seq (ps.map fun i:Nat=>rawInt (i:Int)).toArray }
section
variable{prog:Program}{w:World}{A:Around}{E:Value→Shared→Prop}{s:Shared}
theorem ahV{I a T:Addr}{es:Array (Int×Value)}{ep i j:Nat}{t:SetTable}{ps:List Nat}{x:Int×Value}{Q:Option Value→Shared→Prop}(hit:jQ s.heap I a (.ref T) i es.size ep)(hs:oA w s.heap a es ep t)(hT:DK s.heap T ps)
  (hj:ps[i]? = some j) (hx:es[j]? = some x)
  (hQ:∀h',jQ h' I a (.ref T) (i+1) es.size ep→Heap.SameBut I s.heap h'→Q (some x.2) { s with heap:=h' }):wpAny (model prog w) A (pyNext (.ref I)) Q E s:=by
 obtain⟨os,gA,gG,hf,_⟩:=id hs;unfold pyNext;refine aF (DW (AF (name:=Str.ofString "__next__") hit.typeIs mQ
  (pI mQ hit.typeIs CD ?_ (CO _))))
 unfold Builtin.«set_iterator.__next__»;refine aF (aS ?_);refine aF (DV hit rfl ?_);dsimp only;refine aF (AE gA gG hf ?_);rw [if_neg (by simp)];refine aF (wpAny_seqItems hT rfl ?_);have hp:(ps.map fun i:Nat=>rawInt (i:Int)).toArray[i]? = some (rawInt (j:Int)):=by simp [hj]
 dsimp only;rw [zR,hp];show wpAny _ _ (setNextDrawn a (j:Int).toNat (ep:Int).toNat >>= _) _ _ _;refine aF ?_;unfold setNextDrawn;refine aF (wV gA gG hf ?_);dsimp only;refine rH (by simp) ?_;rw [zR,hx];refine aS ?_;refine aF (uN hit (by simp) fun h1 e1 qN=>?_);refine aS ⟨_,rfl,aS (hQ h1 ?_ qN)⟩;unfold jQ;rw [e1];simp [rawInt]
theorem ahW{I a T:Addr}{es:Array (Int×Value)}{ep:Nat}{t:SetTable}{ps:List Nat}{Q:Option Value→Shared→Prop}(hh:A.handled=none)(hit:jQ s.heap I a (.ref T) es.size es.size ep)(hs:oA w s.heap a es ep t)(hT:DK s.heap T ps)
  (hj:ps.length=es.size)
  (hQ:∀h',Heap.ExtBut I s.heap h'→Q none { s with heap:=h' }):wpAny (model prog w) A (pyNext (.ref I)) Q E s:=by
 obtain⟨os,gA,gG,hf,_⟩:=id hs;unfold pyNext;refine aF (DW (AF (name:=Str.ofString "__next__") hit.typeIs mQ
  (pI mQ hit.typeIs CD ?_ (CO _))))
 unfold Builtin.«set_iterator.__next__»;refine aF (aS ?_);refine aF (DV hit rfl ?_);dsimp only;refine aF (AE gA gG hf ?_);rw [if_neg (by simp)];refine aF (wpAny_seqItems hT rfl ?_);have hp:(ps.map fun i:Nat=>rawInt (i:Int)).toArray[es.size]? = none:=by simp [← hj]
 dsimp only;rw [zR,hp];refine aF (uN hit (by simp) fun h0 e0 sb0=>?_);refine aF (uN e0 (by simp) fun h1 e1 qN=>?_);show wpAny _ _ (newExc (.type "StopIteration") [] >>= _) _ _ _;refine aF ?_;simp only [newExc,newTuple];refine aF (mK ?_ (by size_fits));refine aF (m:=firstArgMember _ _) (wpAny_of_eq (a:=Value.none) (by first | rfl | (simp only [firstArgMember];rfl)) ?_);refine mK ?_ (by size_fits);simp only [raiseNew];refine aF (wpAny_handled ?_);rw [show A.in1.handled=none from hh];refine aF (aS (wpAny_throw ?_));refine aF (RL (T := "StopIteration") (b:=true) ⟨_,eY _ rfl,rfl⟩ isSubtype_stop ?_);exact aS (hQ _ (((sb0.trans qN).extBut.push _).push _))
theorem VN{I a:Addr}{f:Value}{i n ep:Nat}{Q:Value→Shared→Prop}(hit:jQ s.heap I a f i n ep)(h:Q (.ref I) s):wpAny (model prog w) A (pyIter (.ref I)) Q E s:=by
 refine wpAny_pyIter_slot hit.typeIs Iy (pI Iy hit.typeIs an2 ?_ (arE _));show wpAny _ _ (ret (.ref I)) _ _ s;exact aS ⟨_,rfl, "set_iterator",_,hit.typeIs,mQ.lookup,h⟩
theorem DK.at{h h':Heap}{T:Addr}{ps:List Nat}(x:DK h T ps)(e:∀o,h.get? T=some o→h'.get? T=some o):DK h' T ps:=e _ x
theorem Vc(hh:A.handled=none)(I a:Addr)(cA:a≠I)(es:Array (Int×Value))(ep:Nat)(t:SetTable)(hb:w.params.followText "set-order" = true) :
  Walks prog w A I [I,a] [I] es.size (fun i v=>((pickOrder (w.params.setOrder a ep) es).toList.map (·.2))[i]? = some v) (fun i h=>jQ h I a (.int 0 0) i es.size ep∧oA w h a es ep t)where
 sub:=fun b hb=>by simp at hb;simp [hb]
 frame:=fun _ _ _ st hk=>⟨st.1.at fun o e=>hk I (by simp) o e,st.2.at fun o e=>hk a (by simp) o e⟩
 item:=fun i s Q E hi st hQ=>by
  have hl:i<(pickOrder (w.params.setOrder a ep) es).size:=by
   have:=(VX (w.params.setOrder a ep) es).length_eq;simp only [lE]at this;omega
  have hx:=Gd hl;refine ahZ st.1 st.2 hb hx fun h' GR jJ=>?_;exact hQ _ h' s.toks (by simp [hl]) ⟨GR,st.2.at fun o e=>jJ.extBut a o cA e⟩ fun b o hb e=>jJ.extBut b o (fun h=>hb (by simp [h])) e
 done:=fun s Q E st hQ=>ah0 hh st.1 st.2 hb fun h' HA=>hQ h' s.toks fun b o hb e=>HA b o (fun h=>hb (by simp [h])) e
 self:=fun _ _ _ _ st hQ=>VN st.1 hQ
theorem Vb(hh:A.handled=none)(I a:Addr)(cA:a≠I)(es:Array (Int×Value))(ep:Nat)(t:SetTable)(hb:w.params.followText "set-order" = false)(hd:(!t.plain&&decide (es.size>1))=false) :
  Walks prog w A I [I,a] [I] es.size (fun i v=>(es.toList.map (·.2))[i]? = some v) (fun i h=>jQ h I a (.int (uV t i) 0) i es.size ep∧oA w h a es ep t)where
 sub:=fun b hb=>by simp at hb;simp [hb]
 frame:=fun _ _ _ st hk=>⟨st.1.at fun o e=>hk I (by simp) o e,st.2.at fun o e=>hk a (by simp) o e⟩
 item:=fun i s Q E hi st hQ=>by
  have hx:=Gd hi;refine ahX st.1 st.2 hb hd hx fun h' GR jJ=>?_;exact hQ _ h' s.toks (by simp [hi]) ⟨GR,st.2.at fun o e=>jJ.extBut a o cA e⟩ fun b o hb e=>jJ.extBut b o (fun h=>hb (by simp [h])) e
 done:=fun s Q E st hQ=>ahY hh st.1 st.2 hb hd fun h' HA=>hQ h' s.toks fun b o hb e=>HA b o (fun h=>hb (by simp [h])) e
 self:=fun _ _ _ _ st hQ=>VN st.1 hQ
theorem Va(hh:A.handled=none)(I a T:Addr)(cA:a≠I)(hTI:T≠I)(es:Array (Int×Value))(ep:Nat)(t:SetTable)(ps:List Nat)(hp:ps.Perm (List.range es.size)) :
  Walks prog w A I [I,a,T] [I] es.size (fun i v=>(ps.map fun j=>(es.getD j (0,.none)).2)[i]? = some v) (fun i h=>jQ h I a (.ref T) i es.size ep∧oA w h a es ep t∧DK h T ps)where
 sub:=fun b hb=>by simp at hb;simp [hb]
 frame:=fun _ _ _ st hk=>⟨st.1.at fun o e=>hk I (by simp) o e,st.2.1.at fun o e=>hk a (by simp) o e,st.2.2.at fun o e=>hk T (by simp) o e⟩
 item:=fun i s Q E hi st hQ=>by
  have hl:i<ps.length:=by rw [hp.length_eq];simpa using hi
  have hm:ps[i]<es.size:=by
   have:=hp.mem_iff.mp (uG hl);simpa using this
  refine ahV (j:=ps[i]) (x:=es[ps[i]]) st.1 st.2.1 st.2.2 (jC hl) (Gd hm) fun h' GR jJ=>?_;exact hQ _ h' s.toks (by simp [hl,Array.getD,hm]) ⟨GR,st.2.1.at fun o e=>jJ.extBut a o cA e,st.2.2.at fun o e=>jJ.extBut T o hTI e⟩ fun b o hb e=>jJ.extBut b o (fun h=>hb (by simp [h])) e
 done:=fun s Q E st hQ=>ahW hh st.1 st.2.1 st.2.2 (by rw [hp.length_eq];simp) fun h' HA=>hQ h' s.toks fun b o hb e=>HA b o (fun h=>hb (by simp [h])) e
 self:=fun _ _ _ _ st hQ=>VN st.1 hQ
end
set_option maxRecDepth 100000
theorem jA.ac9{prog:Program}{w:World}{h:Heap}{a:Addr}{es:Array (Int×Value)}(x:jA prog w h a es):∃ep t,oA w h a es ep t:=let ⟨o,ep,t,ho,_,hd,_,_,hf,hT⟩:=x; ⟨ep,t,o,ho,hd,hf,hT⟩
section
variable{prog:Program}{w:World}{A:Around}{E:Value→Shared→Prop}{s:Shared}
theorem aeS{a:Addr}{es:Array (Int×Value)}{Q:Value→Shared→Prop}(hh:A.handled=none)(hS:jA prog w s.heap a es)
  (hQ:∀(I:Addr) (h':Heap) (d:Drawn) (ord:List Value) (fp:List Addr) (St:Nat→Heap→Prop),ord.Perm (es.toList.map (·.2))→(∀b o,s.heap.get? b=some o→h'.get? b=some o)→(∀b∈fp,b=a∨s.heap.objs.size≤b)→s.heap.objs.size≤I →
   Walks prog w A I fp [I] es.size (fun i v=>ord[i]? = some v) St→St 0 h'→Q (.ref I) { s with heap:=h',drawn:=d }):wpAny (model prog w) A (pyIter (.ref a)) Q E s:=by
 obtain⟨ep,t,hE⟩:=hS.ac9;obtain⟨os,gA,gG,hf,hT⟩:=id hE;have Of:=hS.typeIs;have dD:a<s.heap.objs.size:=hS.lt;have hsz:es.size<scanBound:=let ⟨_,_,_,_,_,_,_,hb,_,_⟩:=hS;hb;refine wpAny_pyIter_slot Of F.slot_set_iter (pI F.slot_set_iter Of an3 ?_ (F.args_set_iter_1 _));unfold Builtin.«frozenset.__iter__»;refine aF (aS ?_);refine aF ?_;unfold Builtin.Frozenset.sizeOf;refine aF (AE gA gG hf (aS ?_));refine aF ?_;unfold setDrawn;refine aF (wV gA gG hf ?_);dsimp only;unfold setsByText;refine aF (aF (wX (aS (aS ?_))));cases hb:w.params.followText "set-order" with
 | true =>
  refine rH (nJ (show ¬((!w.params.followText "set-order" && (!t.plain&&decide (es.size>1)))=true)by rw [hb];simp)) (aF (aS ?_));refine aF (wpAny_setEpoch_of gA gG hf ?_);refine aF (mK (aS ⟨_,rfl, "set_iterator",_,⟨_,eY _ rfl,rfl⟩,mQ.lookup,?_⟩));have e:s = { s with drawn:=s.drawn }:=by cases s;rfl
  have:=hQ s.heap.objs.size (s.heap.push { cls := .type "set_iterator",data := .fields #[.int 0 0,.int 0 0,.ref a,.int es.size 0,.int ep 0] }) s.drawn _ _ _ ((VX (w.params.setOrder a ep) es).map (·.2)) (fun b o e=>cH _ e) (fun b hb=>by
   simp only [eN,zM,xN]at hb
   rcases hb with z | z
   ·exact .inr (by rw [z];exact oB _)
   ·exact .inl z) bP (Vc hh _ a (dA dD) es ep t hb) ⟨eY _ rfl,hE.at fun o e=>cH _ e⟩
  simpa [rawInt]using this
 | false =>
  cases hd:(!t.plain&&decide (es.size>1))with
  | false =>
   refine rH (nJ (show ¬((!w.params.followText "set-order" && (!t.plain&&decide (es.size>1)))=true)by rw [hd];simp)) (aF (aS ?_));refine aF (wpAny_setEpoch_of gA gG hf ?_);refine aF (mK (aS ⟨_,rfl, "set_iterator",_,⟨_,eY _ rfl,rfl⟩,mQ.lookup,?_⟩));have:=hQ s.heap.objs.size (s.heap.push { cls := .type "set_iterator",data := .fields #[.int 0 0,.int 0 0,.ref a,.int es.size 0,.int ep 0] }) s.drawn _ _ _ (DJ _) (fun b o e=>cH _ e) (fun b hb=>by
    simp only [eN,zM,xN]at hb
    rcases hb with z | z
    ·exact .inr (by rw [z];exact oB _)
    ·exact .inl z) bP (Vb hh _ a (dA dD) es ep t hb hd) ⟨eY _ rfl,hE.at fun o e=>cH _ e⟩
   simpa [rawInt]using this
  | true =>
   refine KH (zB (show(!w.params.followText "set-order" && (!t.plain&&decide (es.size>1)))=true by rw [hb,hd];simp)) ?_;refine aF (Gj es.size (List.range es.size) s (by simp) fun ps d hp=>?_);have dS:ps.length=es.size:=by rw [hp.length_eq];simp
   refine aF (wpAny_newTuple ?_ (by rw [eG,dS];exact Bq hsz));have k1:∀b o,s.heap.get? b=some o→(s.heap.push { cls := .type "tuple",data := .seq (ps.map fun i:Nat=>rawInt (i:Int)).toArray }).get? b=some o:=fun b o e=>cH _ e;refine aF (wpAny_setEpoch_of (k1 a _ gA) gG hf ?_);refine aF (mK (aS ⟨_,rfl, "set_iterator",_,⟨_,eY _ rfl,rfl⟩,mQ.lookup,?_⟩));have Na:(s.heap.push { cls := .type "tuple",data := .seq (ps.map fun i:Nat=>rawInt (i:Int)).toArray }).objs.size=s.heap.objs.size+1:=zV _ _;have hpm:(ps.map fun j=>(es.getD j (0,.none)).2).Perm (es.toList.map (·.2)):=by
    have h1:=hp.map fun j=>(es.getD j (0,.none)).2;have h2:(List.range es.size).map (fun j=>(es.getD j (0,Value.none)).2)=es.toList.map (·.2):=by
     apply QP;intro j;rw [gK,gK]
     by_cases hj:j<es.size
     ·simp [hj,Array.getD]
     ·simp [hj]
    rw [h2]at h1;exact h1
   have:=hQ (s.heap.objs.size+1) ((s.heap.push { cls := .type "tuple",data := .seq (ps.map fun i:Nat=>rawInt (i:Int)).toArray }).push { cls := .type "set_iterator",data := .fields #[.ref s.heap.objs.size,.int 0 0,.ref a,.int es.size 0,.int ep 0] }) d _ _ _ hpm (fun b o e=>cH _ (k1 b o e)) (fun b hb=>by
    simp only [eN,zM,xN]at hb
    rcases hb with z | z | z
    ·exact .inr (by rw [z];exact qE _)
    ·exact .inl z
    ·exact .inr (by rw [z];exact oB _)) (qE _) (Va hh _ a s.heap.objs.size (dA (wJ dD)) (dA (Ef _)) es ep t ps hp) ⟨by
     unfold jQ;have q:=eY (s.heap.push { cls := .type "tuple",data := .seq (ps.map fun i:Nat=>rawInt (i:Int)).toArray }) (o:={ cls := .type "set_iterator",data := .fields #[.ref s.heap.objs.size,.int 0 0,.ref a,.int es.size 0,.int ep 0] }) rfl;rw [Na]at q;exact q,hE.at fun o e=>cH _ (k1 a o e),cH _ (eY _ rfl)⟩
   rw [← Na]at this;simpa [rawInt]using this
end
set_option maxRecDepth 100000
section
variable{prog:Program}{w:World}{A:Around}{E:Value→Shared→Prop}{s:Shared}
theorem alH{r:Addr}{Q:Bool→Shared→Prop}(hT:s.TypeIs (.ref r) "set")(h:Q false s):wpAny (model prog w) A (Builtin.List.listLengthHint (.ref r)) Q E s:=by
 unfold Builtin.List.listLengthHint;refine aF (wpAny_specialOf hT F.slot_set_len.lookup ?_);generalize GU:("set.__len__" : String)=id0
 wp_delta
 rw [show splitId id0=some ("set", "__len__")from by subst GU;decide +kernel];subst GU;refine aF (RL (T := "set") (b:=true) hT (by rw [isSubtype_type];kernel_rfl) ?_);refine wpAny_ite_split (fun HI=>absurd HI (by decide)) (fun _=>?_);refine wpAny_ite_split (fun _=>?_) (fun HI=>absurd (by decide +kernel) HI);refine aF (KD hT ?_);exact aS h
theorem ajT{ord:List Value}{acc:Array Value}(h:ItemsOf (fun i v=>ord[i]? = some v) acc ord.length):acc.toList=ord:=by
 apply QP;intro i;rw [RH];cases e:acc[i]? with
 | some v=>exact(h.2 i v e).symm
 | none =>
  rw [eq_comm,List.getElem?_eq_none_iff];rw [Uw,h.1]at e;exact e
theorem anS{R:Result→Shared→Prop}{r:Addr}{es:Array (Int×Value)}(hh:A.handled=none)(hS0:jA prog w s.heap r es)(S:Addr)(yN:S≠r)(res:Value)(c₀:Nat)(hS:s.heap.get? S=some { cls := .type "list",data := .seq #[] c₀ })
  (hR:∀h' tk d pE c',(∀b o,b≠S→s.heap.get? b=some o→h'.get? b=some o)→h'.get? S=some { cls := .type "list",dict:=none,data := .seq pE c',slots:=#[] }→pE.toList.Perm (es.toList.map (·.2))→R (.ok (.ret res)) { s with heap:=h',toks:=tk,drawn:=d }) :
  wpAny (model prog w) A.in1 (Builtin.List.listExtendWith (.ref S) (.ref r) res)
   (fun fin s'=>match fin with | .done f=>R (.ok f) s' | .again c'=>c'.quiet=true∧codeAny (model prog w) A c' R s') (fun e s'=>R (.error e) s') s:=by
 have hsz:es.size<scanBound:=let ⟨_,_,_,_,_,_,_,hb,_,_⟩:=hS0;hb;have vP:S<s.heap.objs.size:=cO hS;unfold Builtin.List.listExtendWith;refine aF (KD (T := "set") hS0.typeIs ?_);have h1:Builtin.List.listSameRef (.ref S) (.ref r)=false:=by simp [Builtin.List.listSameRef,yN]
 have n1:(Value.type "set" == Value.type "list")=false:=by decide
 have n2:(Value.type "set" == Value.type "tuple")=false:=by decide
 simp only [h1,n1,n2,Bool.or_false,sT,iX];refine aF (aeS (A:=A.in1) hh hS0 fun I h0 d ord fp St hp OA yK hI W st=>?_);have tP:ord.length=es.size:=by rw [hp.length_eq];simp
 have sD:S∉fp:=fun hm=>by
  rcases yK S hm with z | z
  ·exact yN z
  ·exact absurd vP (Nat.not_lt.mpr z)
 have hSI:S≠I:=fun z=>absurd vP (by rw [z];exact Nat.not_lt.mpr hI);have key:∀(h:Heap) (c₁ tk:Nat),St 0 h→(∀b o,b≠S→s.heap.get? b=some o→h.get? b=some o) →
   h.get? S=some { cls := .type "list",data := .seq #[] c₁ }→codeAny (model prog w) A (.builtin "list.extend.loop" ⟨[.ref S,.ref I,res],[]⟩) R { s with heap:=h,toks:=tk,drawn:=d }:=by
  intro h c₁ tk iG hk yM;refine codeAny_extend_loopS W.toS (Bq hsz) S sD res es.size 0 _ #[] c₁ rfl xR iG yM (ItemsOf.nil _) fun s' pE c' hm kY kM=>?_;rw [Moved.eq_with hm];refine hR s'.heap s'.toks d pE c' (fun b o hb e=>hm.heap b o (fun yI=>?_) (hk b o hb e)) kY (by rw [ajT (ord:=ord) (by rw [tP];exact kM)];exact hp)
  rcases eN.mp yI with e' | yI
  ·exact hb e'
  ·exact absurd (cO e) (by rw [nN.mp yI];exact Nat.not_lt.mpr hI)
 have yM:=OA S _ hS;refine aF (oH (alH (jA.typeIs (s:={ s with heap:=h0,drawn:=d }) (hS0.at fun o e=>OA r o e)) ?_));refine wpAny_ite_split (fun _=>?_) (fun _=>aS ⟨AX PySem.F.plain_extend_loop _,key _ c₀ _ st (fun b o _ e=>OA b o e) yM⟩);refine aF (DU ?_);refine aF ?_;show wpAny _ _ (updateSeq S (·.push .none) >>= fun _=>updateSeq S (·.pop)) _ _ _;refine aF (wpAny_updateSeq yM rfl ?_);have Og:=JJ (Obj.mapSeq (·.push Value.none)) yM rfl;refine wpAny_updateSeq (hz:=by seq_fits) Og rfl ?_;have hS₃:=JJ (Obj.mapSeq (·.pop)) Og rfl;refine aS ⟨AX PySem.F.plain_extend_loop _,key _ _ _ ?_ (fun b o hb e=>?_) hS₃⟩
 ·refine W.frame 0 _ _ st fun b hb o e=>?_;have Ob:b≠S:=fun h=>sD (h ▸ hb);exact(pG _ _ (bV Ob)).trans ((pG _ _ (bV Ob)).trans e)
 ·exact(pG _ _ (bV hb)).trans ((pG _ _ (bV hb)).trans (OA b o e))
theorem apV{R:List Value→Shared→Prop}{r:Addr}{es:Array (Int×Value)}(hh:A.handled=none)(hS0:jA prog w s.heap r es)
  (h:∀(h':Heap) (tk:Nat) (d:Drawn) (acc:Array Value),(∀b o,s.heap.get? b=some o→h'.get? b=some o)→acc.toList.Perm (es.toList.map (·.2))→R acc.toList { s with heap:=h',toks:=tk,drawn:=d }) :
  wpAny (model prog w) A (collect (.ref r)) R E s:=by
 have dD:=hS0.lt;unfold collect;refine aF (wpAny_runValue (zC entry_proto_collect' ?_));rw [DQ PySem.F.plain_proto_collect _];show wpAny _ A.in1 (newList [] >>= fun l=>again (.builtin "list.__iadd__" ⟨[l,.ref r],[]⟩)) _ _ s;refine aF (mK ?_);refine aS ⟨AX PySem.F.plain_list_iadd _,zC entry_list_iadd' ?_⟩;rw [DQ PySem.F.plain_list_iadd _];have yM:(s.heap.push { cls := .type "list",data := .seq ([]:List Value).toArray }).get? s.heap.objs.size=some { cls := .type "list",data := .seq #[] }:=eY _ rfl;show wpAny _ A.in1 (Builtin.List.listExtendWith (.ref s.heap.objs.size) (.ref r) (.ref s.heap.objs.size)) _ _ _;have key:=anS (A:=A) (s:={ s with heap:=s.heap.push { cls := .type "list",data := .seq ([]:List Value).toArray } }) (es:=es)
  (R:=fun(q:Result) (s':Shared)=>∃(h':Heap) (tk:Nat) (d:Drawn) (pE:Array Value) (c':Nat),q = .ok (.ret (.ref s.heap.objs.size))∧s' = { s with heap:=h',toks:=tk,drawn:=d } ∧
   (∀b o,s.heap.get? b=some o→h'.get? b=some o)∧h'.get? s.heap.objs.size=some { cls := .type "list",dict:=none,data := .seq pE c',slots:=#[] }∧pE.toList.Perm (es.toList.map (·.2)))
  hh (hS0.at fun o e=>cH _ e) s.heap.objs.size (CW dD) (.ref s.heap.objs.size) 0 yM
  (fun h' tk d pE c' hk kY kM=>⟨h',tk,d,pE,c',rfl,rfl,fun b o e=>hk b o (dA (cO e)) (cH _ e),kY,kM⟩)
 refine lF key (fun fin s' x=>?_) fun e s' x=>?_
 ·cases fin with
  | done f =>
   obtain⟨h',tk,d,pE,c',e,rfl,hk,kY,kM⟩:=x;cases e;show wpAny _ A (load s.heap.objs.size >>= _) _ _ _;refine aF (wpAny_load kY ?_);exact aS (h h' tk d pE hk kM)
  | again c₁ =>
   refine⟨x.1,uA x.2 fun q s₂ y=>?_⟩;obtain⟨h',tk,d,pE,c',rfl,rfl,hk,kY,kM⟩:=y;show wpAny _ A (load s.heap.objs.size >>= _) _ _ _;refine aF (wpAny_load kY ?_);exact aS (h h' tk d pE hk kM)
 ·obtain⟨_,_,_,_,_,e',_⟩:=x;cases e'
end
end PySem
namespace L2
open PySem PySem.Spec PyProof.Rows
section
variable{X:Cx}
def wI(P:Program)(w:World)(a:Addr)(ms:List Int)(h:Heap):Prop:=∃es lJ,jA P w h a es∧Nums es lJ∧lJ.Perm ms
def rC(ns:List Int):List Int:=ns.foldl step_dedup []
theorem ad4(ns:List Int):(List.range ns.length).map (fun i=>ns.getD i 0)=ns:=by
 apply QP;intro i;rw [gK]
 by_cases h:i<ns.length
 ·rw [List.getElem?_range h];simp [List.getD,h]
 ·rw [Ex (by simp;omega),Ex (by omega)];rfl
theorem ac7{P:Program}{w:World}{a:Addr}{ms:List Int}{H:Hp}{h:Heap}(x:wI P w a ms h):fN P w H h a (.ext (wI P w a ms)):=by
 refine⟨x,?_,fun h1 h2 y k=>?_⟩
 ·obtain⟨es,lJ,hs,_⟩:=x;obtain⟨o,_,_,ho,_⟩:=hs;exact⟨o,ho⟩
 ·obtain⟨es,lJ,hs,q⟩:=y;exact⟨es,lJ,hs.at k,q⟩
theorem Rc(hc:X.calm=true):jR X (.type "set") (fun xs H Q=>∃(a:Addr) (ns:List Int),xs=[.ref a]∧eX X.K H a (ns.map V.int)∧ns.length<4000 ∧
  ∀l,H l=none→Q (.ref l) (upd H l (.ext (wI X.prog X.w l (rC ns))))):=by
 intro pins s σ H xs us Q I r h;obtain⟨a,ns,rfl,hq,h4,q⟩:=h;obtain⟨u,rfl,ru⟩:=vals1 r;cases ru;obtain⟨aL,rv,pl,hz⟩:=I.list hq;have hI:IntsAre aL ns:=intsAre_of rv;have hl:aL.length=ns.length:=by rw [← rv.length,eG]
 refine aqH (I.ok.hd hc) pl.isList hI (by rw [fU,hl];show ns.length+1<4096;omega) fun h' tk es ms hT hN hP hk=>?_;rw [fU,hl]at hP;unfold firstMet at hP;rw [ad4]at hP;exact⟨.ref s.heap.objs.size,_,I.laid (t':=tk) (o := .ext (wI X.prog X.w s.heap.objs.size (rC ns))) (fun b o e=>hk b o (cO e) e) bP (ac7 ⟨es,ms,hT,hN,hP⟩),rfl,q _ (I.aH.fresh bP)⟩
theorem Inv.drawn{pins:List (Addr×Obj)}{σ:St}{H:Hp}{s:Shared}(I:Inv X pins σ H s)(d:Drawn):Inv X pins σ H { s with drawn:=d } :=
 ⟨I.ok,I.os,I.bare,I.base,I.loc,I.cell,I.free,I.jM,I.pin,I.aH,I.len⟩
theorem aj5:∀{l l':List Value},l'.Perm l→∀{ms:List Int},IntsAre l ms→∃lJ,IntsAre l' lJ∧lJ.Perm ms:=by
 intro l l' h
 induction h with
 | nil=>intro ms h;exact⟨ms,h,DJ _⟩
 | cons x _ ih =>
  intro ms h;cases h with
  | cons n t r=>obtain⟨lJ,a,b⟩:=ih r;exact⟨n::lJ,.cons n t a,b.cons n⟩
 | swap x y l =>
  intro ms h;cases h with
  | cons n t r =>
   cases r with
   | cons n2 t2 r=>exact⟨n2::n::_,.cons n2 t2 (.cons n t r),.swap n n2 _⟩
 | trans _ _ ih1 YN =>
  intro ms h;obtain⟨m1,a1,b1⟩:=YN h;obtain⟨m2,a2,b2⟩:=ih1 a1;exact⟨m2,a2,b2.trans b1⟩
theorem aqF(hc:X.calm=true):jR X (.builtin "sorted") (fun xs H Q=>∃(d:Addr) (ks:List Int),xs=[.ref d]∧H d=some (.ext (wI X.prog X.w d ks))∧ks.length<64 ∧
  ∀(ms:List Int) (l:Addr),ms.Perm ks→ms.Pairwise (· ≤ ·)→H l=none→Q (.ref l) (upd H l (.lst (ms.map V.int)))):=by
 intro pins s σ H xs us Q I r h;obtain⟨d,ks,rfl,hd,nU,q⟩:=h;obtain⟨u,rfl,ru⟩:=vals1 r;cases ru;obtain⟨⟨es,ms0,hT,hN,hP⟩,_,_⟩:=I.aH _ _ hd;have hsz:(64:Nat)≤sizeLine:=by decide
 refine Ga kind_sorted plain_sorted entry_sorted (args_sorted1 _) ?_;unfold Builtin.«sorted»;refine aF (m:=checkCount "sorted" 1 1 _) (aS ?_);refine aF (apV (A:=X.A.in1) (I.ok.hd hc) hT fun h' tk dr acc hkp kM=>?_);obtain⟨ks',hI,vV⟩:=aj5 kM hN;have vU:ks'.Perm ks:=vV.trans hP;have hl:acc.toList.length=ks.length:=by
  have:∀{vs:List Value} {ns:List Int},IntsAre vs ns→vs.length=ns.length:=by
   intro vs ns h
   induction h with
   | nil=>rfl
   | cons n t _ ih=>simp [ih]
  rw [this hI,vU.length_eq]
 refine aF (wpAny_newList ?_ (by rw [hl];omega));have pU:(h'.push (seqObj "list" acc.toList.toArray 0)).get? h'.objs.size=some (seqObj "list" acc.toList.toArray 0):=eY _ rfl;refine aF (oH (pI slot_list_sort ⟨_,pU,rfl⟩ entry_list_sort (list_sort_tree pU hI (by omega) fun out BD a1 a2 a3=>⟨_,rfl,?_⟩) (args_list_sort _)));refine aS ⟨_,rfl,?_⟩;have I1:Inv X pins σ H { s with heap:=h',toks:=tk,drawn:=dr }:=(I.kept (t':=tk) hkp).drawn dr;have hf:H h'.objs.size=none:=I1.aH.fresh bP;obtain⟨e1,oS⟩:∃e1,((h'.push (seqObj "list" acc.toList.toArray 0)).update h'.objs.size (Obj.mapSeq fun _=>#[])).get? h'.objs.size=some (seqObj "list" #[] e1):=⟨_,OI pU (fun _=>#[])⟩;have sC:=cH (seqObj "list" #[] 0) (cH (seqObj "tuple" acc.toList.toArray 0) oS);obtain⟨e2,ZA⟩:∃e2,(sortedHeap (h'.push (seqObj "list" acc.toList.toArray 0)) h'.objs.size acc.toList out).get? h'.objs.size=some (seqObj "list" out e2):=⟨_,OI sC (fun _=>out)⟩;have kp:∀b u,h'.get? b=some u→(sortedHeap (h'.push (seqObj "list" acc.toList.toArray 0)) h'.objs.size acc.toList out).get? b=some u:=fun b u e=>by
  have hb:b≠h'.objs.size:=dA (cO e);unfold sortedHeap;exact(pG _ _ (bV hb)).trans (cH _ (cH _ ((pG _ _ (bV hb)).trans (cH _ e))))
 have hv:Vals (BD.map V.int) out.toList:=RW a1;have GP:BD.length=ks.length:=(a2.trans vU).length_eq;refine⟨.ref h'.objs.size,upd H h'.objs.size (.lst (BD.map V.int)),I1.laid (t':=tk) kp bP ?_,rfl,q BD _ (a2.trans vU) a3 hf⟩;exact⟨by rw [eG];omega,out.toList,e2,hv,ZA⟩
theorem aqM:jR X (.builtin "len") (fun xs H Q=>∃(d:Addr) (ks:List Int),xs=[.ref d]∧H d=some (.ext (wI X.prog X.w d ks))∧Q (.int ks.length) H):=by
 intro pins s σ H xs us Q I r h;obtain⟨d,ks,rfl,hd,q⟩:=h;obtain⟨u,rfl,ru⟩:=vals1 r;cases ru;obtain⟨⟨es,ms0,hT,hN,hP⟩,_,_⟩:=I.aH _ _ hd;have hl:es.size=ks.length:=by
  have:∀{vs:List Value} {ns:List Int},IntsAre vs ns→vs.length=ns.length:=by
   intro vs ns h
   induction h with
   | nil=>rfl
   | cons n t _ ih=>simp [ih]
  have:=this hN;rw [eG,lE]at this;rw [this,hP.length_eq]
 obtain⟨o,ep,t,ho,hx,ZQ,vR,oW,hf,hTo⟩:=hT;have kW:scanBound=4096:=rfl;refine Ga kind_len plain_len entry_len (args_len1 _) ?_;exact wpAny_len_body_set ho hx ZQ hf (by omega) ⟨.int ks.length,H,I.tok _,⟨_,by rw [hl]⟩,q⟩
end
end L2
namespace PySem
open PyProof.Rows PySem.Spec
set_option maxRecDepth 100000
theorem aoD:typeLookup (.type "list") "keys" = pure none:=am_miss_of_fast (by kernel_rfl)
theorem aoE{prog:Program}{w:World}{A:Around}{E:Value→Shared→Prop}{s:Shared}{a:Addr}{o:Obj}{xs:Array Value}{k:Nat}{Q:Option Value→Shared→Prop}
  (hx:s.heap.get? a=some o) (hc:o.cls = .type "list") (OC:o.data = .seq xs k) (hd:o.dict=none) (hA:A.handled=none)
  (h:∀h' tk,(∀b ob,s.heap.get? b=some ob→h'.get? b=some ob)→Q none { s with heap:=h',toks:=tk }) :
  wpAny (model prog w) A (getAttr? (.ref a) "keys") Q E s:=by
 have hsz:("keys" : Str).length+100≤sizeLine:=by decide
 have ak8:=aoD;have ak6:(["__module__", "__name__", "__qualname__", "__doc__", "__annotations__"]:List Str).contains "keys" = false:=by decide +kernel
 obtain⟨c,aU,dat,sl⟩:=o;simp only at hc OC hd;subst hc OC hd;obtain⟨hp,g,d,tk,os⟩:=s;have hT:∀AN,(⟨hp,g,d,AN,os⟩:Shared).TypeIs (.ref a) "list":=fun _=>⟨_,hx,rfl⟩
 have f1:=sub_AttributeError;have f3:=F.slot_list_getattribute.lookup;have f4:=F.slot_list_getattribute.bind (.ref a);have f5:=am_list_getattr_none;unfold getAttr? getAttrBy? getAttrBy
 repeat (any_goals (first | assumption | exact hT _ | ((with_reducible show wpAny _ _ (call (Value.builtin "list.__getattribute__") _ _) _ _ _);refine call_meets F.slot_list_getattribute (hT _) am_entry_list_getattribute (F.args_list_getattribute_2 _ _) (meets_getattribute_miss_list a xs k sl "keys" _ ak8 ak6 hsz) ⟨hx,hA,fun h' AN e rZ=>?_⟩) | wp_step))
 obtain⟨t',u',he⟩:=rZ.there;show wpAny _ _ (getattributeRaised _ _ _ _ _ _ _) _ _ _;unfold getattributeRaised
 repeat (any_goals (first | assumption | wp_step))
 exact h _ _ rZ.keeps
theorem Pu:entryFor table "dict.update.loop" = some Builtin.«dict.update.loop»:=entryFor_of_tree (by kernel_rfl)
theorem MN:plainId "dict.update.loop" = true:=by decide +kernel
section
variable{prog:Program}{w:World}{K:Type} [DecidableEq K]{knd:KeyKind prog w K}{A:Around}{R:Result→Shared→Prop}{I:Addr}{fp wr:List Addr}{G:Array GenState→Array GenState→Prop}{n:Nat}{P:Nat→Value→Prop}{St:Nat→Shared→Prop}
def IV(knd:KeyKind prog w K)(h:Heap)(S:Addr)(wr:List Addr)(kvs:List (K×Value))(i:Nat)(v:Value):Prop :=
 ∃a key k x,v = .ref a∧a≠S∧a∉wr∧kvs[i]? = some (k,x)∧knd.is k key=true∧IsTup h a #[key,x]
theorem IV.at{h h':Heap}{S:Addr}{wr:List Addr}{kvs:List (K×Value)}{i:Nat}{v:Value}(p:IV knd h S wr kvs i v)(hk:∀b o,b∉S::wr→h.get? b=some o→h'.get? b=some o):IV knd h' S wr kvs i v:=by
 obtain⟨a,key,k,x,h1,h2,h3,h4,h5,o,ho,r⟩:=p;exact⟨a,key,k,x,h1,h2,h3,h4,h5,o,hk a o (by simp [h2,h3]) ho,r⟩
theorem apX(W:WalksS prog w A.in1 I fp wr G n P St)(S:Addr)(sD:S∉fp)(kvs:List (K×Value))(hn:kvs.length=n)(hb:n≤sizeLine) :
  ∀(k i:Nat) (s:Shared) (c:Int) (u:Tok),n - i=k→i≤n→St i s→(∀j v,P j v→IV knd s.heap S wr kvs j v) →
   s.heap.DictOf knd S (merged [] (kvs.take i)) →
   (∀s',Moved (S::wr) G s s'→s'.heap.DictOf knd S (merged [] kvs)→R (.ok (.ret .none)) s') →
   codeAny (model prog w) A (.builtin "dict.update.loop" ⟨[.ref S,.ref I,.int c u,.none],[]⟩) R s:=by
 have HK:S∉wr:=fun h=>sD (W.sub _ h);have vO:∀b∈wr,b∈S::wr:=fun b hb=>gQ _ hb;intro k
 induction k with
 | zero =>
  intro i s c u hk hi iG hP hD hR;have mS:i=n:=by omega
  subst mS;refine zC Pu ?_;rw [DQ MN _];show wpAny _ A.in1 (pyNext (.ref I) >>= _) _ _ s;refine aF (W.done s _ _ iG fun s' hm=>?_);show wpAny _ A.in1 (Builtin.Dict.addKeywords S [] >>= fun _=>ret Value.none) _ _ s';refine aF (aS (aS (hR s' (hm.mono vO) ?_)));rw [← hn,List.take_length]at hD;obtain⟨o,es,ep,ho,r⟩:=hD;exact⟨o,es,ep,hm.heap S _ HK ho,r⟩
 | succ k ih =>
  intro i s c u hk hi iG hP hD hR;have dD:i<n:=by omega
  refine zC Pu ?_;rw [DQ MN _];show wpAny _ A.in1 (pyNext (.ref I) >>= _) _ _ s;refine aF (W.item i s _ _ dD iG fun v s' ZY YT hm=>?_);have vV:∀j v,P j v→IV knd s'.heap S wr kvs j v:=fun j v q=>(hP j v q).at fun b o hb e=>hm.heap b o (fun z=>hb (vO b z)) e;have hD':s'.heap.DictOf knd S (merged [] (kvs.take i)):=by
   obtain⟨o,es,ep,ho,r⟩:=hD;exact⟨o,es,ep,hm.heap S _ HK ho,r⟩
  obtain⟨a,key,kk,x,rfl,h2,h3,h4,h5,o,ho,BN,nn,hod⟩:=vV i v ZY;show wpAny _ A.in1 (holding [Value.ref a] ((Builtin.Dict.pairItems (.ref a)).tryCatch _ >>= _) >>= _) _ _ s';refine aF (oH (aF (wpAny_tryCatch ?_)));unfold Builtin.Dict.pairItems;refine aF (KD (T := "tuple") ⟨o,ho,BN⟩ ?_);rw [if_pos (by decide)];refine aF (wpAny_seqItems ho hod (aS ?_));show wpAny _ _ (holding [key,x] (dictSet S key x)) _ _ _;refine oH (wpAny_dictSet_pairs (hsz:=by
   have e1:=merged_length_le [] (kvs.take i);rw [DG]at e1;simp only [QO]at e1;omega) h5 hD' fun h' BU jJ=>?_)
  rw [← merged_take_succ [] kvs i (kk,x) h4]at BU;refine aS ⟨AX MN _,ih (i+1) _ _ _ (by omega) dD (W.frame _ s' _ _ YT (qE _) fun b hb o e=>?_) (fun j v q=>(vV j v q).at fun b o hb e=>?_) BU fun tF ZG alZ=>?_⟩
  ·rw [jJ.2 b (fun h:b=S=>sD (by rw [← h];exact hb))];exact e
  ·rw [jJ.2 b (fun h:b=S=>hb (by rw [h];exact List.mem_cons_self))];exact e
  ·refine hR tF (Moved.trans W.gtrans ((hm.mono vO).then_heap (qE _) fun b o hb e=>?_) ZG) alZ;rw [jJ.2 b (fun h:b=S=>hb (by rw [h];exact List.mem_cons_self))];exact e
end
section
variable{prog:Program}{w:World}{K:Type} [DecidableEq K]{knd:KeyKind prog w K}{A:Around}{E:Value→Shared→Prop}{s:Shared}
theorem aqR{l:Addr}{items:Array Value}{kvs:List (K×Value)}{o:Obj}{nl:Nat}{Q:Value→Shared→Prop}
  (hh:A.handled=none) (tP:s.heap.get? l=some o) (gM:o.cls = .type "list") (BS:o.data = .seq items nl) (ZR:o.dict=none) (hlen:kvs.length=items.size) (hsz:items.size≤sizeLine)
  (hp:∀(i:Nat) (v:Value),items[i]? = some v→∃(a:Addr) (key:Value) (k:K) (x:Value),v=Value.ref a∧kvs[i]? = some (k,x)∧knd.is k key=true∧IsTup s.heap a #[key,x])
  (h:∀(h':Heap) (tk:Nat),h'.DictOf knd s.heap.objs.size (merged [] kvs)→(∀b o,s.heap.get? b=some o→h'.get? b=some o)→Q (.ref s.heap.objs.size) { s with heap:=h',toks:=tk }) :
  wpAny (model prog w) A (call (.type "dict") [.ref l]) Q E s:=by
 refine callType_codes (Q₁:=fun obj s₁=>obj = .ref s.heap.objs.size∧s₁ = { s with heap:=s.heap.push { cls := .type "dict",data := .dict #[] } }) F.kt_called_dict (F.kt_typeCall_dict_1 _) F.entry_dict_init (kt_code_dict_new _ ⟨rfl,rfl⟩) ?_;rintro obj s₁ ⟨rfl,rfl⟩;have ZC:(s.heap.push { cls := .type "dict",data := .dict #[] }).DictOf knd s.heap.objs.size []:=Heap.DictOf.new s.heap;refine⟨ZC.typeIs,F.args_dict_init_2 _ _,?_⟩;have vP:l<s.heap.objs.size:=cO tP;have NT:(s.heap.push { cls := .type "dict",data := .dict #[] }).get? l=some o:=cH _ tP;unfold Builtin.«dict.__init__»;refine aF ?_;unfold Builtin.Dict.selfAndRest;refine aF (wpAny_notOrdered_dict ZC.typeIs ?_);show wpAny _ _ (pure (s.heap.objs.size,[Value.ref l])) _ _ _;refine aS ?_;show wpAny _ _ (Builtin.Dict.updateFrom "dict.__init__" s.heap.objs.size (.ref l) [] .none) _ _ _;unfold Builtin.Dict.updateFrom;refine aF (KD (T := "list") ⟨o,NT,gM⟩ ?_);rw [if_pos (by decide)];refine aF (aoE NT gM BS ZR hh fun h1 tk1 gX=>?_);have NZ:∀b ob,s.heap.get? b=some ob→h1.get? b=some ob:=fun b ob e=>gX b ob (cH _ e);have NW:s.heap.objs.size<h1.objs.size:=cO (gX _ _ (eY _ rfl));refine KH (by rfl) ?_;refine aF (DU ?_);refine aF (wpAny_pyIter_list (items:=items) ⟨o,NZ _ _ tP,gM,nl,BS⟩ ?_);refine aS ⟨AX MN _,?_⟩;have cA:l≠h1.objs.size:=dA (Ee vP NW);have hD1:(h1.push { cls := .type "list_iterator",data := .fields #[.ref l,.int 0 0] }).DictOf knd s.heap.objs.size (merged [] (kvs.take 0)):=by
  obtain⟨o,es,ep,ho,r⟩:=ZC;exact⟨o,es,ep,cH _ (gX _ _ ho),r⟩
 have ZK:A.in1.in1.handled=none:=by simp [hh]
 refine apX (knd:=knd) ((Walks.list (A:=A.in1.in1) ZK h1.objs.size l cA items).toS) s.heap.objs.size (by
   simp only [eN,zM,xN,not_or];exact⟨dA NW,CW vP⟩) kvs hlen hsz (items.size - 0) 0 _ _ _ rfl xR
  ⟨⟨_,eY _ rfl,rfl,rfl⟩,⟨o,cH _ (NZ _ _ tP),gM,nl,BS⟩⟩ (fun j v q=>?_) hD1 fun s' hm hd=>?_
 ·obtain⟨a,key,kk,x,rfl,e1,e2,t⟩:=hp j v q;have kL:a<s.heap.objs.size:=by obtain⟨ot,et,_⟩:=t;exact cO et
  refine⟨a,key,kk,x,rfl,dA kL,?_,e1,e2,t.keeps fun b ob e=>cH _ (NZ b ob e)⟩;simp only [eN,zM,xN];exact dA (Ee kL NW)
 ·obtain⟨h',g',d',AN,FG⟩:=s';have eg:g'=s.gens:=hm.gens;have ed:d'=s.drawn:=hm.drawn;have eo:FG=s.os:=hm.os;subst eg;subst ed;subst eo;refine⟨rfl,h h' AN hd fun b ob e=>hm.heap b ob ?_ (cH _ (NZ b ob e))⟩;have hb:=cO e;simp only [eN,zM,xN,not_or];exact⟨dA hb,dA (Ee hb NW)⟩
end
end PySem
namespace V2
open PySem PySem.Spec PyProof.Rows L2
section
variable{X:Cx}{W:WX}
theorem RV{P:Program}{w:World}:∀(ks:List Key) (us:List Value),us.length=ks.length→(∀(i:Nat) (v:Value),us[i]? = some v→∃k,ks[i]? = some k∧(fR P w).is k v=true)→Vals (ks.map kV) us
 | [],[],_,_ => .nil
 | [],_::_,h,_=>by simp at h
 | _::_,[],h,_=>by simp at h
 | k::ks,u::us,h,q=>by
  obtain⟨k',e1,e2⟩:=q 0 u rfl;cases e1;exact .cons (NM e2) (RV (P:=P) (w:=w) ks us (by simpa using h) fun i v hv=>by simpa using q (i+1) v (by simpa using hv))
theorem af6{o:Expr}{td:TE}{p1 apos q1 q2:Pos}(hc:X.calm=true)(oV:Gl X "list")(mB:X.mg "list" = none)(ho:PE X o td)
  (hs:starEach [.Call (.Attribute o "keys" apos) [] [] q2] X.env=[(false,eval (.Call (.Attribute o "keys" apos) [] [] q2) X.env)]:=by rfl)
  (iJ:attributeBase o "keys" X.env (eval o X.env)=eval o X.env:=by rfl) (iH:(apos.endLine == q2.line)=true:=by rfl) :
  PE X (.Call (.Name "list" p1) [.Call (.Attribute o "keys" apos) [] [] q2] [] q1) (fun σ H Q=>td σ H fun x H1=>∃a kvs,x = .ref a∧H1 a=some (.dK kvs) ∧
   ∀(l:Addr),H1 l=none→Q (.ref l) (upd H1 l (.lst (kvs.map fun kv=>kV kv.1)))):=by
 intro pins s σ H Q I h;refine uO (tL I oV mB CS ?_);refine QK ?_ hs rfl;rw [hs];show wpAny _ _ (spliced ((false,eval (.Call (.Attribute o "keys" apos) [] [] q2) X.env)::[])) _ _ s;refine DO ?_;refine KI iJ iH (bA (ho pins s σ H _ I h) fun v s1 ⟨x,H1,I1,r1,q1⟩=>?_);obtain⟨a,kvs,rfl,hH,q⟩:=q1;cases r1;obtain⟨h1,h2,oR⟩:=xZ I1 (.inl ⟨kvs,.inl hH⟩);obtain⟨z,_,vs,rel,dd⟩:=zA I1.aH hH;refine⟨"dict", "dict.keys",PySem.F.plainAttrs_dict,PySem.F.slot_dict_keys,PySem.F.type_dict_keys,h1,h2,DP rfl (PySem.evalArgs_none ?_)⟩;refine CM PySem.F.slot_dict_keys dd.typeIs PySem.F.entry_dict_keys (PySem.F.args_dict_keys_1 _) (PySem.W.kdl_meets_keys (fR X.prog X.w) a oR) ⟨⟨vs,dd⟩,?_⟩;refine JX ?_;have I2:Inv X pins σ H1 { s1 with heap:=s1.heap.push { cls := .type "dict_keys",data := .fields #[.ref a] } }:=I1.kept (t':=s1.toks) fun b o e=>cH _ e;obtain⟨ep,tU⟩:=dd.dictAt;have GB:kvs.length=vs.length:=rel.length;refine kdl_call (s:={ s1 with heap:=s1.heap.push { cls := .type "dict_keys",data := .fields #[.ref a] } }) (PySem.W.kdl_keys (knd:=fR X.prog X.w) (r:=s1.heap.objs.size) (d:=a) (kvs:=vs) (ep:=ep)) (I2.ok.hd hc) ⟨⟨_,eY _ rfl,rfl,rfl⟩,tU.push _⟩ (by omega) fun h' tk acc c hk hS kM=>?_;generalize nH:({ s1 with heap:=s1.heap.push { cls := .type "dict_keys",data := .fields #[.ref a] } }:Shared)=s2 at I2 hk hS;have ZJ:kvs.map (·.1)=vs.map (·.1):=rel.keys;have hv:Vals ((kvs.map (·.1)).map kV) acc.toList:=RV (P:=X.prog) (w:=X.w) _ _ (by rw [lE,kM.1,eG];omega) fun i v hv=>by
  obtain⟨k,x,e1,e2⟩:=kM.2 i v (by rw [← RH];exact hv);exact⟨k,by rw [ZJ,gK,e1];rfl,e2⟩
 rw [uF]at hv;have GC:Vals (kvs.map fun kv=>kV kv.1) acc.toList:=hv;have I3:=I2.laid (t':=tk) (o := .lst (kvs.map fun kv=>kV kv.1)) hk bP ⟨by rw [eG];omega,acc.toList,c,GC,by simpa using hS⟩;exact⟨.ref s2.heap.objs.size,_,I3,rfl,q _ (I2.aH.fresh bP)⟩
theorem Cf{K:Frag}{G:Hp}{ι:List Addr}:∀{ws:List (Key×V)} {kvs:List (Key×A)},ws.map (·.1)=kvs.map (·.1)→aN K G ι (ws.map fun kv=>kV kv.1) (kvs.map fun kv=>kA kv.1)
 | [],[],_=>by rw [qG,qG,mD]
 | [],_::_,h=>by simp at h
 | _::_,[],h=>by simp at h
 | wv::ws,kv::kvs,h=>by
  rw [cX,cX]at h;obtain⟨h1,h2⟩:=JG h;rw [cX,cX];exact .cons (by rw [h1];exact Cd _) (Cf h2)
@[simp] def rM(c:Bool)(f:Ev→Mo A):Ev→Mo A:=fun ρ=>mb (f ρ) fun a Ω=>match gO Ω a with
 | some (_,kvs)=>iR c (kvs.map fun kv=>kA kv.1) Ω
 | none=>none
theorem Gy{o:Expr}{f:Ev→Mo A}{p1 apos q1 q2:Pos}(c:Bool)(hc:X.calm=true)(oV:Gl X "list")(mB:X.mg "list" = none)(ho:VE X W o f)
  (hs:starEach [.Call (.Attribute o "keys" apos) [] [] q2] X.env=[(false,eval (.Call (.Attribute o "keys" apos) [] [] q2) X.env)]:=by rfl)
  (iJ:attributeBase o "keys" X.env (eval o X.env)=eval o X.env:=by rfl) (iH:(apos.endLine == q2.line)=true:=by rfl) :
  VE X W (.Call (.Name "list" p1) [.Call (.Attribute o "keys" apos) [] [] q2] [] q1) (rM c f):=by
 obtain⟨t,p,s⟩:=ho;refine⟨_,af6 hc oV mB p hs iJ iH,fun G ι Ω H σ ρ Q w r h=>?_⟩;refine s G ι Ω H σ ρ _ w r (bF.mb h fun a Ω1 v H1 G1 ι1 x1 w1 d1 h1=>?_);split at h1
 ·rename_i k kvs e;obtain⟨p,ws,rfl,hk,g,q1,q2,q3⟩:=sH w1 d1 e;exact⟨p,ws,rfl,q1,fun l hl=>nT w1 hl (Cf q2) h1⟩
 ·exact False.elim h1
end
end V2
namespace L2
open PySem PySem.Spec PyProof.Rows
section
variable{X:Cx}
theorem Py{pins:List (Addr×Obj)}{σ:St}{H:Hp}{s:Shared}(I:Inv X pins σ H s):∀(kvs:List (Key×V)) (ys:List V) (aL:List Value),ys.length=kvs.length→Vals ys aL→(∀(i:Nat) (kv:Key×V),kvs[i]? = some kv→∃b,ys[i]? = some (.ref b)∧H b=some (.tup [kV kv.1,kv.2])) →
  ∃vs:List (Key×Value),KV kvs vs∧aL.length=kvs.length∧∀(i:Nat) (v:Value),aL[i]? = some v→∃(b:Addr) (key:Value) (k:Key) (x:Value),v=Value.ref b∧vs[i]? = some (k,x)∧(fR X.prog X.w).is k key=true∧IsTup s.heap b #[key,x]
 | [],[],_,_,.nil,_=>⟨[],.nil,rfl,fun i v h=>by simp at h⟩
 | [],_::_,_,h,_,_=>by simp at h
 | _::_,[],_,h,_,_=>by simp at h
 | kv::kvs,y::ys,u::aL,hl,.cons r rs,hp=>by
  obtain⟨b,e1,e2⟩:=hp 0 kv rfl;have ey:y = .ref b:=by simpa using e1
  subst ey;cases r;obtain⟨vs,q1,q2,q3⟩:=Py I kvs ys _ (by simpa using hl) rs fun i kv' hi=>by simpa using hp (i+1) kv' (by simpa using hi)
  obtain⟨_,NJ,rv,tp⟩:=I.aH b _ e2;cases rv with
  | cons r1 t1 =>
   cases t1 with
   | cons r2 t2 =>
    cases t2;rename_i key xv;refine⟨(kv.1,xv)::vs,.cons ⟨rfl,r2⟩ q1,by simp [q2],fun i v hi=>?_⟩;cases i with
    | zero =>
     simp at hi;subst hi;exact⟨b,key,kv.1,xv,rfl,rfl,BJ r1,tp⟩
    | succ i =>
     obtain⟨b',ajG,k',x',g1,g2,g3,g4⟩:=q3 i v (by simpa using hi);exact⟨b',ajG,k',x',g1,by simpa using g2,g3,g4⟩
theorem aqS(hc:X.calm=true):jR X (.type "dict") (fun xs H Q=>∃(a:Addr) (ys:List V) (kvs:List (Key×V)),xs=[.ref a]∧eX X.K H a ys∧ys.length=kvs.length∧(kvs.map (·.1)).Nodup ∧
  (∀(i:Nat) (kv:Key×V),kvs[i]? = some kv→∃b,ys[i]? = some (.ref b)∧H b=some (.tup [kV kv.1,kv.2]))∧∀l,H l=none→Q (.ref l) (upd H l (.dK kvs))):=by
 intro pins s σ H xs us Q I r h;obtain⟨a,ys,kvs,rfl,hq,hl,hn,hp,q⟩:=h;obtain⟨u,rfl,ru⟩:=vals1 r;cases ru;obtain⟨aL,rv,⟨o,n,e,gM,ZR,OC⟩,hz⟩:=I.list hq;obtain⟨vs,q1,q2,q3⟩:=Py I kvs ys aL hl rv hp;have GB:kvs.length=vs.length:=q1.length;refine aqR (knd:=fR X.prog X.w) (kvs:=vs) (I.ok.hd hc) e gM OC ZR (by rw [fU];omega) (by rw [fU];omega) (fun i v hi=>q3 i v (by simpa using hi)) fun h' tk hD hk=>?_;rw [merged_nil_of_nodup vs (by rw [← q1.keys];exact hn)]at hD;exact⟨.ref s.heap.objs.size,_,I.laid (t':=tk) (o := .dK kvs) hk bP (Pz (by omega) (sJ.mpr (CW I.big)) q1 hD),rfl,q _ (I.aH.fresh bP)⟩
theorem aqK(hc:X.calm=true):jR X (.type "list") (fun xs H Q=>∃(a:Addr) (kvs:List (Key×V)),xs=[.ref a]∧H a=some (.dK kvs)∧∀l,H l=none→Q (.ref l) (upd H l (.lst (kvs.map fun kv=>kV kv.1)))):=by
 intro pins s σ H xs us Q I r h;obtain⟨a,kvs,rfl,hH,q⟩:=h;obtain⟨u,rfl,ru⟩:=vals1 r;cases ru;obtain⟨h1,h2,oR⟩:=xZ I (.inl ⟨kvs,.inl hH⟩);obtain⟨z,_,vs,rel,dd⟩:=zA I.aH hH;obtain⟨ep,tU⟩:=dd.dictAt;have GB:kvs.length=vs.length:=rel.length;refine kdl_call (PySem.W.kdl_dict (knd:=fR X.prog X.w) (d:=a) (kvs:=vs) (ep:=ep) oR) (I.ok.hd hc) tU (by omega) fun h' tk acc c hk hS kM=>?_;have ZJ:kvs.map (·.1)=vs.map (·.1):=rel.keys;have hv:Vals ((kvs.map (·.1)).map kV) acc.toList:=V2.RV (P:=X.prog) (w:=X.w) _ _ (by rw [lE,kM.1,eG];omega) fun i v hv=>by
  obtain⟨k,x,e1,e2⟩:=kM.2 i v (by rw [← RH];exact hv);exact⟨k,by rw [ZJ,gK,e1];rfl,e2⟩
 rw [uF]at hv;have GC:Vals (kvs.map fun kv=>kV kv.1) acc.toList:=hv;have I3:=I.laid (t':=tk) (o := .lst (kvs.map fun kv=>kV kv.1)) hk bP ⟨by rw [eG];omega,acc.toList,c,GC,by simpa using hS⟩;exact⟨.ref s.heap.objs.size,_,I3,rfl,q _ (I.aH.fresh bP)⟩
theorem Inv.LI{pins:List (Addr×Obj)}{σ:St}{H:Hp}{s:Shared}{a:Addr}{kvs:List (Key×V)}{o:Obj}(I:Inv X pins σ H s)(h:H a=some (.cV o (.dK kvs)))(hb:∀ob u,X.H₀ a≠some (.cV ob u)):Inv X pins σ (upd H a (.dK kvs)) s where
 ok:=I.ok
 os:=I.os
 bare:=I.bare
 base:={
  keep:=I.base.keep
  slot:=I.base.slot
  free:=fun b ob q n hx=>by
   have z:=I.base.free b ob q n hx;rw [aY (bV (iF h z))];exact z
  there:=I.base.there
  kH:=fun b xs q=>by have z:=I.base.kH b xs q;rw [aY (rV z h (by intro w;cases w))];exact z
  jL:=fun b ob u q=>by
   have z:=I.base.jL b ob u q;have cA:b≠a:=fun e=>hb ob u (by rw [← e];exact q);rw [aY cA];exact z
  kI:=fun b ps q=>by obtain⟨more,z⟩:=I.base.kI b ps q;exact⟨more,by rw [aY (rV z h (by intro w;cases w))];exact z⟩ }
 loc:=I.loc
 cell:=I.cell
 free:=by rw [aY (bV (iF h I.free))];exact I.free
 jM:=fun x c q=>by rw [aY (bV (iF h (I.jM x c q)))];exact I.jM x c q
 pin:=fun q hq=>by
  obtain⟨x,y,c⟩:=I.pin q hq;exact⟨x,by rw [aY (bV (iF h y))];exact y,c⟩
 aH:=fun b u q=>by
  have st:∀c v,H c=some v→v ≠ .cV o (.dK kvs)→upd H a (.dK kvs) c=some v:=fun c v z hv=>by rw [aY (rV z h hv)];exact z
  by_cases eb:b=a
  ·subst eb;rw [dR]at q;cases q;obtain⟨_,ok⟩:=I.aH b _ h;exact fN.nC ok (fun c v _ z=>z) (fun c z=>st c _ z (by intro w;cases w)) fun c xs z=>st c _ z (by intro w;cases w)
  ·rw [aY eb]at q;exact(I.aH b u q).nC (fun c v _ z=>z) (fun c z=>st c _ z (by intro w;cases w)) fun c xs z=>st c _ z (by intro w;cases w)
 len:=I.len
def Hw(a:Addr)(D:Ends):Ends where
 nx:=fun σ H=>∃o kvs,H a=some (.cV o (.dK kvs))∧D.nx σ (upd H a (.dK kvs))
 rt:=fun v H=>∃o kvs,H a=some (.cV o (.dK kvs))∧D.rt v (upd H a (.dK kvs))
 bk:=fun σ H=>∃o kvs,H a=some (.cV o (.dK kvs))∧D.bk σ (upd H a (.dK kvs))
 ct:=fun σ H=>∃o kvs,H a=some (.cV o (.dK kvs))∧D.ct σ (upd H a (.dK kvs))
theorem ae3{st:Stmt}{t:TS}(h:PS X st t):PS X st (fun D σ H=>∃a kvs,H a=some (.dK kvs)∧t (Hw a D) σ H):=by
 intro pins s σ H D I ⟨a,kvs,ha,q⟩;have hb:∀ob u,X.H₀ a≠some (.cV ob u):=fun ob u e=>by
  have:=I.base.jL a ob u e;rw [ha]at this;cases this
 refine bA (h pins s σ H _ I q) fun f s' z=>?_;cases f with
 | next=>obtain⟨σ',H',I',o,NH,h1,h2⟩:=z;exact⟨σ',_,I'.LI h1 hb,h2⟩
 | brk=>obtain⟨σ',H',I',o,NH,h1,h2⟩:=z;exact⟨σ',_,I'.LI h1 hb,h2⟩
 | cont=>obtain⟨σ',H',I',o,NH,h1,h2⟩:=z;exact⟨σ',_,I'.LI h1 hb,h2⟩
 | ret u=>obtain⟨v,σ',H',I',r,o,NH,h1,h2⟩:=z;exact⟨v,σ',_,I'.LI h1 hb,r,h2⟩
theorem adX{k:Nat}{f:Addr}{fd:FuncData}{ps:List Str}{sp:Sp}{dvs:List V}{ds:List Value}{pins:List (Addr×Obj)}{σ:St}{H:Hp}{s:Shared}{Q:VK}{us:List Value}{vs:List V}(F:gC X.prog X.w X.K X.mg X.base (mI X.prog X.w) k f fd ps sp)(hr:cE k X.A)(hb:Binds X.K fd ps ds)(hd:Vals dvs ds)
  (I:Inv X pins σ H s) (r:Vals vs us) (h:sp (vs++dvs) H Q fun _ _ _=>False):wpAny (model X.prog X.w) X.A (call (.ref f) us) (EP X pins σ Q) X.xe s:=by
 have r2:Vals (vs++dvs) (us++ds):=r.append hd;have hl:(us++ds).length=ps.length:=by rw [← r2.length];exact F.len _ _ _ _ h
 refine wpAny_call (uA (F.run X.A X.stack s H ⟨us,[]⟩ (us++ds) (vs++dvs) Q _ hr I.OQ (hb s us I.fK hl) r2 h) fun r s' hq=>?_);cases r with
 | error ev =>
  obtain⟨a,cls,dx,H',rfl,os,bare,un,aH,ex,q'⟩:=hq;exact q'.elim
 | ok fl =>
  cases fl with
  | ret u=>exact I.after hq
  | next=>exact False.elim hq
  | brk=>exact False.elim hq
  | cont=>exact False.elim hq
theorem af2{o e:Expr}{es:List Expr}{m:Str}{ta:TE}{t:TA}{pos apos:Pos}{pl:Sem Bool}(he:PE X o ta)(ha:PA X (e::es) t)
  (iG:starEach (e::es) X.env=(false,eval e X.env)::starEach es X.env:=by rfl) (dS:(backTo pos (starEach es X.env)).any (·.1)=false:=by rfl)
  (ht:eval (.Call (.Attribute o m apos) (e::es) [] pos) X.env=(do
   let ov ← eval o X.env
   standAt apos.atName
   let (f,first) ← holding [ov] (getMethod ov m pl)
   callWith pos f first (backTo pos (starEach (e::es) X.env)) (backToKw pos (keywordEach [] X.env))):=by rfl) :
  PE X (.Call (.Attribute o m apos) (e::es) [] pos) (LK X V2.rU m ta t):=by
 intro pins s σ H Q I h;refine methodCall_KW (pl:=pl) (bA (he pins s σ H _ I h) fun u s1 ⟨x,H1,I1,rx,a,C,dx,fs,k,f,fd,ps,ds,dvs,sp,ex,ea,l,c,hm,F,hr,hb,hd,q⟩=>?_) ht;subst ex;obtain rfl:u=Value.ref a:=rx;refine Bb I1 ea c hm l ?_;refine callWith_K (first:=[.ref a]) (h₀:=X.base) I.ok.mod.vL hm.kp (bA (ha pos pins s1 σ H1 _ I1 q) fun us s2 ⟨vs,H2,I2,r,q2⟩=>⟨I2.fK,?_⟩) iG dS;exact adX (us := .ref a::us) (vs := .ref a::vs) F hr hb hd I2 (.cons rfl r) q2
end
end L2
namespace V2
open PySem PySem.Spec PyProof.Rows L2 KS
section
variable{X:Cx}{W:WX}{e o:Expr}
@[simp] def KW(c:Bool)(f:Ev→Mo A):Ev→Mo A:=fun ρ=>mb (f ρ) fun a Ω=>match (dF Ω a).bind intsOf with
 | some ns=>if ns.length<4000∧(rC ns).length<64 then iR c ((sortI (rC ns)).map A.int) Ω else none
 | none=>none
theorem Vj{f:Ev→Mo A}{p1 p2 q1 q2:Pos}(c:Bool)(hc:X.calm=true)(ZM:Gl X "sorted")(ZF:X.mg "sorted" = none)(ZL:Gl X "set")(ZE:X.mg "set" = none)(he:VE X W e f)
  (hs:starEach [.Call (.Name "set" p2) [e] [] q2] X.env=(false,eval (.Call (.Name "set" p2) [e] [] q2) X.env)::starEach [] X.env:=by rfl)
  (GD:starEach [e] X.env=(false,eval e X.env)::starEach [] X.env:=by rfl) :
  VE X W (.Call (.Name "sorted" p1) [.Call (.Name "set" p2) [e] [] q2] [] q1) (KW c f):=by
 obtain⟨t,p,s⟩:=he;refine⟨_,MP (aqF hc) ZM ZF IL (vF (MO (Rc hc) ZL ZE PyProof.Rows.boot_set (vF p vE GD) (by decide) (by decide) GD rfl) vE hs) (by decide) (by decide) hs rfl,fun G ι Ω H σ ρ Q w r h=>?_⟩;show t σ H _;refine s G ι Ω H σ ρ _ w r (bF.mb h fun a Ω1 v H1 G1 ι1 x1 w1 d1 h1=>?_);split at h1
 ·rename_i ns en;split at h1
  ·rename_i hl;rw [sO]at en;obtain⟨ds,e1,e2⟩:=en;obtain⟨p,ys,rfl,h2,h3⟩:=pS w1 d1 e1;rw [yA e2 h3]at h2;refine⟨p,ns,rfl,h2,hl.1,fun l qX=>?_⟩;refine⟨l,rC ns,rfl,dR,hl.2,fun ms l2 hp nH BP=>?_⟩;rw [EO hp nH];exact nT (w1.new qX (.ext (wI X.prog X.w l (rC ns)))) BP (ID _) (h1.ext (Ext.new (w1.nV qX) _))
  ·exact False.elim h1
 ·exact False.elim h1
@[simp] def EE(f:Ev→Mo A):Ev→Mo A:=fun ρ=>mb (f ρ) fun a Ω=>match (dF Ω a).bind intsOf with
 | some ns=>if ns.length<4000 then some (.ok (.int (rC ns).length),Ω)else none
 | none=>none
theorem Vp{f:Ev→Mo A}{p1 p2 q1 q2:Pos}(hc:X.calm=true)(ZM:Gl X "len")(ZF:X.mg "len" = none)(ZL:Gl X "set")(ZE:X.mg "set" = none)(he:VE X W e f)
  (hs:starEach [.Call (.Name "set" p2) [e] [] q2] X.env=(false,eval (.Call (.Name "set" p2) [e] [] q2) X.env)::starEach [] X.env:=by rfl)
  (GD:starEach [e] X.env=(false,eval e X.env)::starEach [] X.env:=by rfl) :
  VE X W (.Call (.Name "len" p1) [.Call (.Name "set" p2) [e] [] q2] [] q1) (EE f):=by
 obtain⟨t,p,s⟩:=he;refine⟨_,MP aqM ZM ZF PySem.boot_len (vF (MO (Rc hc) ZL ZE PyProof.Rows.boot_set (vF p vE GD) (by decide) (by decide) GD rfl) vE hs) (by decide) (by decide) hs rfl,fun G ι Ω H σ ρ Q w r h=>?_⟩;show t σ H _;refine s G ι Ω H σ ρ _ w r (bF.mb h fun a Ω1 v H1 G1 ι1 x1 w1 d1 h1=>?_);split at h1
 ·rename_i ns en;split at h1
  ·rename_i hl;rw [sO]at en;obtain⟨ds,e1,e2⟩:=en;obtain⟨p,ys,rfl,h2,h3⟩:=pS w1 d1 e1;rw [yA e2 h3]at h2;refine⟨p,ns,rfl,h2,hl,fun l qX=>?_⟩;refine⟨l,rC ns,rfl,dR,?_⟩;exact h1 _ _ _ _ (Ext.new (w1.nV qX) _) (w1.new qX (.ext (wI X.prog X.w l (rC ns)))) (by simp only [Den])
  ·exact False.elim h1
 ·exact False.elim h1
def vD:List A→Option (List (Key×A))
 | []=>some []
 | .tup [k,v]::r=>match lY k,vD r with
  | some x,some kvs=>some ((x,v)::kvs)
  | _,_=>none
 | _=>none
theorem agO{K:Frag}{G:Hp}{ι:List Addr}:∀(ds:List A) {kvs:List (Key×A)} {ys:List V},vD ds=some kvs→aN K G ι ys ds→∃ws:List (Key×V),ws.map (·.1)=kvs.map (·.1)∧aN K G ι (ws.map (·.2)) (kvs.map (·.2))∧ys.length=ws.length ∧
  ∀(i:Nat) (kv:Key×V),ws[i]? = some kv→∃b,ys[i]? = some (.ref b)∧G b=some (.tup [kV kv.1,kv.2]):=by
 intro ds
 induction ds with
 | nil =>
  intro kvs ys h d;simp only [vD,jB]at h;subst h;rw [mD]at d;subst d;exact⟨[],rfl,.nil,rfl,fun i kv hi=>by simp at hi⟩
 | cons a r ih =>
  intro kvs ys h d;obtain⟨y,ys',rfl,d1,d2⟩:=d.jF;unfold vD at h;split at h
  ·rename_i heq;cases heq
  ·rename_i k v r' heq;cases heq;split at h
   ·rename_i x NH e1 e2;cases h;obtain⟨ws,q1,q2,q3,q4⟩:=ih e2 d2;simp only [Den]at d1;obtain⟨b,xs,rfl,hG,dl⟩:=d1;obtain⟨u1,u2,rfl,dk,dv⟩:=OT dl;rw [FZ dk e1]at hG;refine⟨(x,u2)::ws,by simp [q1],.cons dv q2,by simp [q3],fun i kv hi=>?_⟩;cases i with
    | zero=>simp at hi;subst hi;exact⟨b,rfl,hG⟩
    | succ i=>obtain⟨b',g1,g2⟩:=q4 i kv (by simpa using hi);exact⟨b',by simpa using g1,g2⟩
   ·cases h
  ·cases h
@[simp] def tZ(as:List A):Mo A:=fun Ω=>match as with
 | [a]=>(match (dF Ω a).bind vD with
  | some kvs=>if(kvs.map (·.1)).Nodup then some (.ok (.aB Ω.length),Ω++[.aU kvs])else none
  | none=>none)
 | _=>none
theorem Ri(hc:X.calm=true):qI X W (.type "dict") tZ:=by
 refine⟨_,aqS hc,?_⟩;intro G ι Ω H σ xs as Q w d h;unfold tZ at h;split at h
 ·rename_i a;split at h
  ·rename_i kvs e;split at h
   ·rename_i hn;obtain⟨x,rfl,d1⟩:=sG d;rw [sO]at e;obtain⟨ds,e1,e2⟩:=e;obtain⟨p,ys,rfl,h2,h3⟩:=pS w d1 e1;obtain⟨ws,q1,q2,q3,q4⟩:=agO ds e2 h3;refine⟨p,ys,ws,rfl,h2,q3,by rw [q1];exact hn,fun i kv hi=>?_,fun l hl=>?_⟩
    ·obtain⟨b,g1,g2⟩:=q4 i kv hi;exact⟨b,g1,w.sub _ _ g2⟩
    ·refine h _ _ G (ι++[l]) (Ext.cell l) (w.cell hl ⟨w.nV hl,ws,dR,q1,q2.ext (Ext.cell l)⟩) ?_;simp only [Den];exact⟨l,rfl,by rw [← w.len];simp⟩
   ·exact False.elim h
  ·exact False.elim h
 ·exact False.elim h
theorem Hd:∀{kvs:List (Key×V)} {vs:List (Key×Value)},KV kvs vs→Vals (kvs.map (·.2)) (vs.map (·.2))
 | _,_,.nil => .nil
 | _,_,.cons r t => .cons r.2 (Hd t)
theorem af5{td:TE}{p1 apos q1 q2:Pos}(hc:X.calm=true)(oV:Gl X "list")(mB:X.mg "list" = none)(ho:PE X o td)
  (hs:starEach [.Call (.Attribute o "values" apos) [] [] q2] X.env=[(false,eval (.Call (.Attribute o "values" apos) [] [] q2) X.env)]:=by rfl)
  (iJ:attributeBase o "values" X.env (eval o X.env)=eval o X.env:=by rfl) (iH:(apos.endLine == q2.line)=true:=by rfl) :
  PE X (.Call (.Name "list" p1) [.Call (.Attribute o "values" apos) [] [] q2] [] q1) (fun σ H Q=>td σ H fun x H1=>∃a kvs,x = .ref a∧H1 a=some (.dK kvs) ∧
   ∀(l:Addr),H1 l=none→Q (.ref l) (upd H1 l (.lst (kvs.map (·.2))))):=by
 intro pins s σ H Q I h;refine uO (tL I oV mB CS ?_);refine QK ?_ hs rfl;rw [hs];show wpAny _ _ (spliced ((false,eval (.Call (.Attribute o "values" apos) [] [] q2) X.env)::[])) _ _ s;refine DO ?_;refine KI iJ iH (bA (ho pins s σ H _ I h) fun v s1 ⟨x,H1,I1,r1,q1⟩=>?_);obtain⟨a,kvs,rfl,hH,q⟩:=q1;cases r1;obtain⟨h1,h2,oR⟩:=xZ I1 (.inl ⟨kvs,.inl hH⟩);obtain⟨z,_,vs,rel,dd⟩:=zA I1.aH hH;refine⟨"dict", "dict.values",PySem.F.plainAttrs_dict,PySem.F.slot_dict_values,PySem.F.type_dict_values,h1,h2,DP rfl (PySem.evalArgs_none ?_)⟩;refine CM PySem.F.slot_dict_values dd.typeIs PySem.F.entry_dict_values (PySem.F.args_dict_values_1 _) (meets_dict_values (fR X.prog X.w) a oR) ⟨⟨vs,dd⟩,?_⟩;refine JX ?_;have I2:Inv X pins σ H1 { s1 with heap:=s1.heap.push { cls := .type "dict_values",data := .fields #[.ref a] } }:=I1.kept (t':=s1.toks) fun b o e=>cH _ e;obtain⟨ep,tU⟩:=dd.dictAt;have GB:kvs.length=vs.length:=rel.length;refine kdl_call (s:={ s1 with heap:=s1.heap.push { cls := .type "dict_values",data := .fields #[.ref a] } }) (PySem.W.kdl_values (knd:=fR X.prog X.w) (r:=s1.heap.objs.size) (d:=a) (kvs:=vs) (ep:=ep)) (I2.ok.hd hc) ⟨⟨_,eY _ rfl,rfl,rfl⟩,tU.push _⟩ (by omega) fun h' tk acc c hk hS kM=>?_;generalize nH:({ s1 with heap:=s1.heap.push { cls := .type "dict_values",data := .fields #[.ref a] } }:Shared)=s2 at I2 hk hS;have ev:acc.toList=vs.map (·.2):=by
  apply QP;intro i
  by_cases hi:i<acc.toList.length
  ·obtain⟨k,e1⟩:=kM.2 i _ (by rw [← RH];exact jC hi);rw [jC hi,gK,e1];rfl
  ·have:=kM.1;rw [lE]at hi;rw [Ex (by rw [lE];omega),Ex (by rw [eG];omega)]
 have hv:Vals (kvs.map (·.2)) acc.toList:=by rw [ev];exact Hd rel
 have I3:=I2.laid (t':=tk) (o := .lst (kvs.map (·.2))) hk bP ⟨by rw [eG];omega,acc.toList,c,hv,by simpa using hS⟩;exact⟨.ref s2.heap.objs.size,_,I3,rfl,q _ (I2.aH.fresh bP)⟩
@[simp] def sY(c:Bool)(f:Ev→Mo A):Ev→Mo A:=fun ρ=>mb (f ρ) fun a Ω=>match gO Ω a with
 | some (_,kvs)=>iR c (kvs.map (·.2)) Ω
 | none=>none
theorem Gx{f:Ev→Mo A}{p1 apos q1 q2:Pos}(c:Bool)(hc:X.calm=true)(oV:Gl X "list")(mB:X.mg "list" = none)(ho:VE X W o f)
  (hs:starEach [.Call (.Attribute o "values" apos) [] [] q2] X.env=[(false,eval (.Call (.Attribute o "values" apos) [] [] q2) X.env)]:=by rfl)
  (iJ:attributeBase o "values" X.env (eval o X.env)=eval o X.env:=by rfl) (iH:(apos.endLine == q2.line)=true:=by rfl) :
  VE X W (.Call (.Name "list" p1) [.Call (.Attribute o "values" apos) [] [] q2] [] q1) (sY c f):=by
 obtain⟨t,p,s⟩:=ho;refine⟨_,af5 hc oV mB p hs iJ iH,fun G ι Ω H σ ρ Q w r h=>?_⟩;refine s G ι Ω H σ ρ _ w r (bF.mb h fun a Ω1 v H1 G1 ι1 x1 w1 d1 h1=>?_);split at h1
 ·rename_i k kvs e;obtain⟨p,ws,rfl,hk,g,q1,q2,q3⟩:=sH w1 d1 e;exact⟨p,ws,rfl,q1,fun l hl=>nT w1 hl q3 h1⟩
 ·exact False.elim h1
theorem EJ{l:Addr}:∀(as:List Addr) (ts:List (List V)) (H:Hp),l∉as→jW H as ts l=H l
 | [],ts,H,_=>by cases ts <;> rfl
 | _::_,[],H,_=>rfl
 | b::as,t::ts,H,h=>by
  show jW (upd H b (.tup t)) as ts l=H l;rw [EJ as ts _ fun z=>h (gQ _ z),aY fun z=>h (by rw [z];exact List.mem_cons_self ..)]
theorem Hm:∀(as:List Addr) (ts:List (List Int)) (H:Hp),as.length=ts.length→as.Nodup→uC (jW H as (ts.map fun t=>t.map V.int)) (as.map V.ref) ts
 | [],[],H,_,_=>trivial
 | [],_::_,_,h,_=>by simp at h
 | _::_,[],_,h,_=>by simp at h
 | a::as,t::ts,H,hl,hn=>by
  rw [mX]at hn;refine⟨⟨a,rfl,?_⟩,Hm as ts (upd H a (.tup (t.map V.int))) (by simpa using hl) hn.2⟩;show jW (upd H a (.tup (t.map V.int))) as _ a=_;rw [EJ as _ _ hn.1,dR]
theorem afU{td:TE}{p1 apos q1 q2:Pos}(hc:X.calm=true)(oV:Gl X "sorted")(mB:X.mg "sorted" = none)(ho:PE X o td)
  (hs:starEach [.Call (.Attribute o "items" apos) [] [] q2] X.env=[(false,eval (.Call (.Attribute o "items" apos) [] [] q2) X.env)]:=by rfl)
  (iJ:attributeBase o "items" X.env (eval o X.env)=eval o X.env:=by rfl) (iH:(apos.endLine == q2.line)=true:=by rfl) :
  PE X (.Call (.Name "sorted" p1) [.Call (.Attribute o "items" apos) [] [] q2] [] q1) (fun σ H Q=>td σ H fun x H1=>∃a kvs ts,x = .ref a∧H1 a=some (.dK kvs)∧(kvs.map fun kv=>[kV kv.1,kv.2])=ts.map (fun t=>t.map V.int)∧(∀t∈ts,t≠[])∧kvs.length<64 ∧
   ∀(p:List Nat),zI ts p→∀(as:List Addr) (l:Addr),as.length=kvs.length→as.Nodup→l∉as→(∀b∈as,H1 b=none)→H1 l=none→Q (.ref l) (upd (jW H1 as (kvs.map fun kv=>[kV kv.1,kv.2])) l (.lst (p.map fun i=>(as.map V.ref).getD i .bH)))):=by
 intro pins s σ H Q I h;refine uO (tL I oV mB IL ?_);refine PyProof.Rows.callWith_builtin1 ?_ hs rfl;rw [hs];show wpAny _ _ (spliced ((false,eval (.Call (.Attribute o "items" apos) [] [] q2) X.env)::[])) _ _ s;refine DO ?_;refine KI iJ iH (bA (ho pins s σ H _ I h) fun v s1 ⟨x,H1,I1,r1,q1⟩=>?_);obtain⟨a,kvs,ts,rfl,hH,Mw,cA,nU,q⟩:=q1;cases r1;obtain⟨h1,h2,oR⟩:=xZ I1 (.inl ⟨kvs,.inl hH⟩);obtain⟨z,_,vs,rel,dd⟩:=zA I1.aH hH;refine⟨"dict", "dict.items",PySem.F.plainAttrs_dict,PySem.F.slot_dict_items,PySem.F.type_dict_items,h1,h2,DP rfl (PySem.evalArgs_none ?_)⟩;refine CM PySem.F.slot_dict_items dd.typeIs PySem.F.entry_dict_items (PySem.F.args_dict_items_1 _) (meets_dict_items (fR X.prog X.w) a oR) ⟨⟨vs,dd⟩,?_⟩;refine JX ?_;have I2:Inv X pins σ H1 { s1 with heap:=s1.heap.push { cls := .type "dict_items",data := .fields #[.ref a] } }:=I1.kept (t':=s1.toks) fun b o e=>cH _ e;obtain⟨ep,tU⟩:=dd.dictAt;have GB:kvs.length=vs.length:=rel.length;have hsz:(64:Nat)≤sizeLine:=by decide
 refine Ga kind_sorted plain_sorted entry_sorted (args_sorted1 _) ?_;unfold Builtin.«sorted»;refine aF (m:=checkCount "sorted" 1 1 _) (aS ?_);refine aF (PySem.W.kdx_collect (knd:=fR X.prog X.w) (kvs:=vs) (ep:=ep) (A:=X.A.in1) (s:={ s1 with heap:=s1.heap.push { cls := .type "dict_items",data := .fields #[.ref a] } }) (I2.ok.hd hc) ⟨_,eY _ rfl,rfl,rfl⟩ (tU.push _) (by omega) fun h' tk as hk hl hG=>?_);generalize nH:({ s1 with heap:=s1.heap.push { cls := .type "dict_items",data := .fields #[.ref a] } }:Shared)=s2 at I2 hk hG;have BO:as.Nodup:=hG.rise.imp fun h=>dA h;have tT:∀b∈as,s2.heap.objs.size≤b:=fun b hb=>QL (hG.above b hb);have I3:Inv X pins σ H1 { s2 with heap:=h',toks:=tk }:=I2.kept (t':=tk) hk;have htl:ts.length=kvs.length:=by have:=congrArg List.length Mw;simpa using this.symm
 have I4:=SK I2 as (kvs.map fun kv=>[kV kv.1,kv.2]) H1 I3 (by simp;omega) BO (fun b hb=>⟨tT b hb,I2.aH.fresh (tT b hb)⟩) (fun j b t e1 e2=>by
  obtain⟨key,k,x,g1,g2,g3⟩:=hG.pairs j b e1;rw [gK]at e2;cases g4:kvs[j]? with
  | none=>rw [g4]at e2;cases e2
  | some kv =>
   rw [g4]at e2;cases e2;obtain⟨tN,g5,g6,g7⟩:=MQ rel g4;rw [g1]at g5;cases g5;refine⟨by show 2≤sizeLine;decide,[key,x],0,.cons (by rw [g6];exact NM g2) (.cons g7 .nil),g3⟩)
 have hT:uC (jW H1 as (kvs.map fun kv=>[kV kv.1,kv.2])) (as.map V.ref) ts:=by rw [Mw];exact Hm as ts H1 (by omega) BO
 have dD:∀b∈as,b<h'.objs.size:=fun b hb=>by
  obtain⟨j,hj⟩:=List.getElem?_of_mem hb;obtain⟨key,k,x,g1,g2,g3⟩:=hG.pairs j b hj;exact cO g3
 have kL:h'.objs.size∉as:=fun w=>absurd (dD _ w) (Nat.lt_irrefl _);refine aF (wpAny_newList ?_ (by rw [eG];omega));have pU:(h'.push (seqObj "list" (as.map Value.ref).toArray 0)).get? h'.objs.size=some (seqObj "list" (as.map Value.ref).toArray 0):=eY _ rfl;have I5:Inv X pins σ (jW H1 as (kvs.map fun kv=>[kV kv.1,kv.2])) { s2 with heap:=h'.push (seqObj "list" (as.map Value.ref).toArray 0),toks:=tk }:=I4.kept (t':=tk) fun b o e=>cH _ e;refine aF (oH (pI slot_list_sort ⟨_,pU,rfl⟩ entry_list_sort (Lw pU (SH I5 (KQ as) hT) cA (by rw [eG];omega) fun p hp=>⟨_,rfl,?_⟩) (args_list_sort _)));refine aS ⟨_,rfl,?_⟩;have mS:∀i∈p,i<(as.map V.ref).length:=fun i hi=>by
  have:=hp.1.mem_iff.mp hi;rw [eG];have:=List.mem_range.mp this;omega
 have dS:p.length=as.length:=by rw [hp.1.length_eq,JE];omega
 have hf:jW H1 as (kvs.map fun kv=>[kV kv.1,kv.2]) h'.objs.size=none:=by rw [EJ as _ _ kL];exact I3.aH.fresh bP
 obtain⟨e1,oS⟩:∃e1,((h'.push (seqObj "list" (as.map Value.ref).toArray 0)).update h'.objs.size (Obj.mapSeq fun _=>#[])).get? h'.objs.size=some (seqObj "list" #[] e1):=⟨_,OI pU (fun _=>#[])⟩;have sC:=cH (seqObj "list" #[] 0) (cH (seqObj "tuple" (as.map Value.ref).toArray 0) oS);obtain⟨e2,ZA⟩:∃e2,(sortedHeap (h'.push (seqObj "list" (as.map Value.ref).toArray 0)) h'.objs.size (as.map Value.ref) (List.toArray (p.map fun i=>(as.map Value.ref).getD i Value.none))).get? h'.objs.size=some (seqObj "list" (List.toArray (p.map fun i=>(as.map Value.ref).getD i Value.none)) e2):=⟨_,OI sC (fun _=>List.toArray (p.map fun i=>(as.map Value.ref).getD i Value.none))⟩;have kp:∀b u,h'.get? b=some u→(sortedHeap (h'.push (seqObj "list" (as.map Value.ref).toArray 0)) h'.objs.size (as.map Value.ref) (List.toArray (p.map fun i=>(as.map Value.ref).getD i Value.none))).get? b=some u:=fun b u e=>by
  have hb:b≠h'.objs.size:=dA (cO e);unfold sortedHeap;exact(pG _ _ (bV hb)).trans (cH _ (cH _ ((pG _ _ (bV hb)).trans (cH _ e))))
 refine⟨.ref h'.objs.size,_,I4.laid (t':=tk) (o := .lst (p.map fun i=>(as.map V.ref).getD i .bH)) kp bP ?_,rfl,q p hp as _ (by omega) BO kL (fun b hb=>I2.aH.fresh (tT b hb)) (I3.aH.fresh bP)⟩;exact⟨by rw [eG];omega,p.map (fun i=>(as.map Value.ref).getD i Value.none),e2,RT (KQ as) mS,ZA⟩
theorem Mp{K:Frag}{G:Hp}{ι:List Addr}:∀{ws:List (Key×V)} {kvs:List (Key×A)} {ts:List (List Int)},ws.map (·.1)=kvs.map (·.1)→aN K G ι (ws.map (·.2)) (kvs.map (·.2))→kvs.map lZ=ts.map oZ→(ws.map fun kv=>[kV kv.1,kv.2])=ts.map (fun t=>t.map V.int)
 | [],[],[],_,_,_=>rfl
 | [],[],_::_,_,_,h=>by simp at h
 | [],_::_,_,h,_,_=>by simp at h
 | _::_,[],_,h,_,_=>by simp at h
 | _::_,_::_,[],_,_,h=>by simp at h
 | wv::ws,kv::kvs,t::ts,hk,d,h=>by
  rw [cX,cX]at hk d h;obtain⟨x,r,hx,d1,d2⟩:=d.jF;obtain⟨rfl,rfl⟩:=JG hx;obtain⟨gX,iI⟩:=JG hk;obtain⟨h1,h2⟩:=JG h;rw [cX,cX,Mp iI d2 h2];congr 1;simp only [lZ,oZ,A.tup.injEq]at h1
  match t,h1 with
  | [],h1=>simp at h1
  | [_],h1=>simp at h1
  | [i,j],h1 =>
   simp only [cX,qG,JF,and_true]at h1 ⊢;obtain⟨g1,g2⟩:=h1;rw [g2]at d1;simp only [Den]at d1;refine⟨?_,d1⟩;rw [gX];cases NX:kv.1 with
   | inl n=>rw [NX]at g1;simp only [kA,A.int.injEq]at g1;rw [← g1];rfl
   | inr n=>rw [NX]at g1;simp [kA]at g1
  | _::_::_::_,h1=>simp at h1
theorem Vm{es:List Expr}{m:Str}{tab:List (Str×(List A→Mo A))}{fo:Ev→Mo A}{fs:Ev→Mo (List A)}{pos apos:Pos}{pl:Sem Bool}(yC:bW X m tab)(ho:VE X rU o fo)(ha:VA X rU (e::es) fs)
  (iG:starEach (e::es) X.env=(false,eval e X.env)::starEach es X.env:=by rfl) (dS:(backTo pos (starEach es X.env)).any (·.1)=false:=by rfl)
  (ht:eval (.Call (.Attribute o m apos) (e::es) [] pos) X.env=(do
   let ov ← eval o X.env
   standAt apos.atName
   let (f,first) ← holding [ov] (getMethod ov m pl)
   callWith pos f first (backTo pos (starEach (e::es) X.env)) (backToKw pos (keywordEach [] X.env))):=by rfl) :
  VE X rU (.Call (.Attribute o m apos) (e::es) [] pos) (cP m tab fo fs):=by
 obtain⟨ta,p1,s1⟩:=ho;obtain⟨t,p2,s2⟩:=ha;exact⟨_,af2 p1 p2 iG dS ht,TM yC s1 s2⟩
end
def del(G:Hp)(p:Addr):Hp:=fun b=>if b=p then none else G b
section
variable{K:Frag}{G H:Hp}{ι:List Addr}{Ω:aI}{p:Addr}{ob:Obj}{ws:List (Key×V)}
theorem Cg{b:Addr}(h:b≠p):del G p b=G b:=by unfold del;rw [if_neg h]
theorem Qd:del G p p=none:=by unfold del;rw [if_pos rfl]
theorem CH{b:Addr}{o:HO}(hp:G p=some (.cV ob (.dK ws)))(h:G b=some o)(ho:o ≠ .cV ob (.dK ws)):del G p b=some o:=by
 rw [Cg];exact h;intro e;subst e;rw [hp]at h;cases h;exact ho rfl
theorem CG{b:Addr}(h:G b=none):del G p b=none:=by
 unfold del;split
 ·rfl
 ·exact h
mutual
theorem Den.del(hp:G p=some (.cV ob (.dK ws))):∀{v:V} {d:A},Den K G ι v d→Den K (del G p) ι v d
 | _,.int _,h=>by simpa only [Den]using h
 | _,.bl _,h=>by simpa only [Den]using h
 | _,.str _,h=>by simpa only [Den]using h
 | _,.bH,h=>by simpa only [Den]using h
 | _,.ty _,h=>by simpa only [Den]using h
 | _,.adr _,h=>by simpa only [Den]using h
 | _, .CC _ _ _ _,h=>by
  simp only [Den]at h ⊢;exact⟨h.1,CH hp h.2 (by intro w;cases w)⟩
 | _,.gl _,h=>by simpa only [Den]using h
 | _,.bK _,h=>by
  simp only [Den]at h ⊢;obtain⟨a,h1,h2⟩:=h;refine⟨a,h1,?_⟩
  rcases h2 with(q | ⟨o,q⟩) | q
  ·exact .inl (.inl (CH hp q (by intro w;cases w)))
  ·exact .inl (.inr ⟨o,CH hp q (by intro w;cases w)⟩)
  ·exact .inr q
 | _,.tup ds,h=>by
  simp only [Den]at h ⊢;obtain⟨a,xs,h1,h2,h3⟩:=h;exact⟨a,xs,h1,CH hp h2 (by intro w;cases w),aN.del hp h3⟩
 | _,.lst ds,h=>by
  simp only [Den]at h ⊢;obtain⟨a,xs,h1,h2,h3⟩:=h;exact⟨a,xs,h1,CH hp h2 (by intro w;cases w),aN.del hp h3⟩
 | _,.aB k,h=>by simpa only [Den]using h
theorem aN.del(hp:G p=some (.cV ob (.dK ws))):∀{xs:List V} {ds:List A},aN K G ι xs ds→aN K (del G p) ι xs ds
 | _,[],h=>by simpa only [aN]using h
 | _,d::ds,h=>by
  simp only [aN]at h ⊢;obtain⟨x,r,h1,h2,h3⟩:=h;exact⟨x,r,h1,Den.del hp h2,aN.del hp h3⟩
end
theorem gT.del(hp:G p=some (.cV ob (.dK ws))){u:HO}{v:V}{fd:Fd}(h:gT K G ι H v fd):gT K (del G p) ι (upd H p u) v fd:=by
 have nb:∀b,G b=none→b≠p:=fun b z e=>by subst e;rw [hp]at z;cases z
 cases fd with
 | val a=>exact Den.del hp h
 | lst ds =>
  obtain⟨b,xs,h1,h2,h3,h4,h5⟩:=h;exact⟨b,xs,h1,CG h2,h3,by rw [aY (nb b h2)];exact h4,aN.del hp h5⟩
 | aU kvs =>
  obtain⟨b,iD,h1,h2,h3,h4,h5,h6⟩:=h;exact⟨b,iD,h1,CG h2,h3,by rw [aY (nb b h2)];exact h4,h5,aN.del hp h6⟩
theorem mZ.del(hp:G p=some (.cV ob (.dK ws))){u:HO}{a:Addr}{c:Cell}(h:mZ K G ι H a c)(ha:a≠p):mZ K (del G p) ι (upd H p u) a c:=by
 cases c with
 | lst ds=>obtain⟨g,xs,h1,h2⟩:=h;exact⟨CG g,xs,by rw [aY ha];exact h1,aN.del hp h2⟩
 | aU kvs=>obtain⟨g,iD,h1,h2,h3⟩:=h;exact⟨CG g,iD,by rw [aY ha];exact h1,h2,aN.del hp h3⟩
 | ins cls fs=>obtain⟨g,C,dx,iD,h0,h1,h2⟩:=h;exact⟨CG g,C,dx,iD,h0,by rw [aY ha];exact h1,h2.map fun _ _ q=>q.del hp⟩
 | tab x pos qual =>
  obtain⟨g,hc,ps,h1,h2,h3⟩:=h;exact⟨CG g,hc,ps,by rw [aY ha];exact h1,h2,h3.imp id fun⟨c',oc,vs,t,q1,q2,q3⟩=>⟨c',oc,vs,t,q1,CH hp q2 (by intro w;cases w),q3⟩⟩
 | dead=>trivial
theorem Wd.Xa{k:Nat}{kvs:List (Key×A)}(w:Wd K G ι Ω H)(hp:G p=some (.cV ob (.dK ws)))(hk:ι[k]? = some p)(hd:Ω[k]? = some .dead)(h1:ws.map (·.1)=kvs.map (·.1))(h2:aN K G ι (ws.map (·.2)) (kvs.map (·.2))):Wd K (del G p) ι (Ω.set k (.aU kvs)) (upd H p (.dK ws))where
 sub:=fun b u h=>by
  have hb:b≠p:=fun e=>by subst e;rw [Qd]at h;cases h
  rw [Cg hb]at h;rw [aY hb];exact w.sub _ _ h
 inj:=w.inj
 len:=by rw [zO];exact w.len
 live:=fun b hb=>by
  by_cases e:b=p
  ·subst e;exact⟨_,dR⟩
  ·rw [aY e];exact w.live b hb
 aB:=fun j c b z1 z2=>by
  by_cases hj:j=k
  ·subst hj;rw [hk]at z2;cases z2;rw [gR (bX.mp hd).1]at z1;cases z1;exact⟨Qd,ws,dR,h1,aN.del hp h2⟩
  ·rw [gS (bV hj)]at z1;exact(w.aB j c b z1 z2).del hp fun e=>by subst e;exact hj (rT w.inj z2 hk)
 sep:=fun b j i j' i' z1 z2=>by
  have back:∀{j i},gP (upd H p (.dK ws)) ι (Ω.set k (.aU kvs)) j i b→gP H ι Ω j i b:=fun{j i} h=>by
   have h0:=h;obtain⟨a',cls,fs,C,dx,iD,g,h',fd,q1,q2,q3,q4,q5,q6⟩:=h
   by_cases hj:j=k
   ·subst hj;exact(h0.no (gR (bX.mp hd).1) rfl).elim
   ·rw [gS (bV hj)]at q2;rw [aY (fun e=>by subst e;exact hj (rT w.inj q1 hk))]at q3;exact⟨a',cls,fs,C,dx,iD,g,h',fd,q1,q2,q3,q4,q5,q6⟩
  exact w.sep b j i j' i' (back z1) (back z2)
end
theorem acZ{K:Frag}{W:WX}{tg:TG}{tb:TS}{g:A→MS}{b:MS}(hg:CQ K W tg g)(hb:sL K W tb b){G1:Hp}{ι1:List Addr}{Ω1:aI}{H1:Hp}{σ:L2.St}{ρ:Ev}{D:Ends}{J:It}{S:Src}
  (w1:Wd K G1 ι1 Ω1 H1) (r1:fW K G1 ι1 σ ρ) (j1:uI K G1 ι1 J S) (h1:dU K W G1 ι1 D (dO S.ok g b S.ds ρ Ω1)):SV (fun _ _ R=>R J H1) tg tb D σ H1:=by
 refine⟨fun i m σ' H'=>m=S.ds.length - i∧i≤S.ds.length∧∃G' ι' Ω' ρ',Ext G1 ι1 G' ι'∧Wd K G' ι' Ω' H'∧fW K G' ι' σ' ρ'∧dU K W G' ι' D (dO S.ok g b (S.ds.drop i) ρ' Ω'),
  ⟨_,rfl,CU _,G1,ι1,Ω1,ρ,Ext.refl _ _,w1,r1,by simpa using h1⟩,?_⟩
 rintro i m σ' H' ⟨rfl,Nn,G',ι',Ω',ρ',e',w',r',h'⟩;have aH:=Pj h'
 by_cases dD:i<S.ds.length
 ·right
  refine⟨j1.go G' ι' Ω' H' e' w' aH i dD,fun σ2 H2=>∃G2 ι2 Ω2 ρ2,Ext G1 ι1 G2 ι2∧Wd K G2 ι2 Ω2 H2∧fW K G2 ι2 σ2 ρ2∧dU K W G2 ι2 D (dO S.ok g b (S.ds.drop (i+1)) ρ2 Ω2),fun σ2 H2 n=>?_,fun x H2 y=>?_⟩
  ·exact⟨S.ds.length - (i+1),by omega,rfl,dD,n⟩
  ·obtain⟨G2,e2,w2,d2⟩:=j1.sU G' ι' Ω' H' e' w' aH i x H2 S.ds[i] (jC dD) y;rw [Uh dD]at h';unfold dO at h';rw [if_pos aH]at h';refine hg G2 ι' Ω' H2 σ' ρ' x S.ds[i] { D with nx:=fun σ3 H3=>tb _ σ3 H3 } w2 (r'.ext e2) d2 ?_
   revert h'
   generalize g S.ds[i] ρ' Ω'=q;intro h'
   match q,h' with
   | some (.nx,ρ3,Ω3),h' =>
    intro σ3 H3 G3 ι3 x3 w3 r3;refine hb G3 ι3 Ω3 H3 σ3 ρ3 _ w3 r3 ?_;simp only at h'
    revert h'
    generalize b ρ3 Ω3=q2;intro h'
    match q2,h' with
    | some (.nx,ρ4,Ω4),h'=>exact fun σ4 H4 G4 ι4 x4 w4 r4=>⟨G4,ι4,Ω4,ρ4,(e'.trans (e2.trans x3)).trans x4,w4,r4,dU.ext h' ((e2.trans x3).trans x4)⟩
    | some (.ct,ρ4,Ω4),h'=>exact fun σ4 H4 G4 ι4 x4 w4 r4=>⟨G4,ι4,Ω4,ρ4,(e'.trans (e2.trans x3)).trans x4,w4,r4,dU.ext h' ((e2.trans x3).trans x4)⟩
    | some (.bk,ρ4,Ω4),h'=>exact fun σ4 H4 G4 ι4 x4 w4 r4=>h' σ4 H4 G4 ι4 ((e2.trans x3).trans x4) w4 r4
    | some (.ret a,ρ4,Ω4),h'=>exact fun σ4 H4 G4 ι4 x4 w4 r4=>h' σ4 H4 G4 ι4 ((e2.trans x3).trans x4) w4 r4
    | some (.exc a,ρ4,Ω4),h'=>exact fun σ4 H4 G4 ι4 x4 w4 r4=>h' σ4 H4 G4 ι4 ((e2.trans x3).trans x4) w4 r4
   | some (.exc a,ρ3,Ω3),h'=>exact fun σ4 H4 G4 ι4 x4 w4 r4=>h' σ4 H4 G4 ι4 (e2.trans x4) w4 r4
 ·have GS:i=S.ds.length:=by omega
  subst GS
  left
  rw [List.drop_length]at h';unfold dO at h';rw [if_pos aH]at h';exact⟨j1.stop G' ι' Ω' H' e' w' aH _ bP,qQ w' r' h'⟩
def SQ(k:Nat)(kvs:List (Key×A)):OS→OS
 | some (.exc _,_,_)=>none
 | some (o,ρ',Ω')=>(match Ω'[k]? with
  | some .dead=>some (o,ρ',Ω'.set k (.aU kvs))
  | _=>none)
 | none=>none
@[simp] noncomputable def EY(i:Nat)(g:A→MS)(b:MS):MS:=fun ρ Ω=>match (ρ[i]?).join with
 | some a=>(match gO Ω a with
  | some (k,kvs)=>SQ k kvs (dO (fun _=>True) g b (kvs.map lZ) ρ (Ω.set k .dead))
  | none=>none)
 | none=>none
theorem Wz{K:Frag}{W:WX}{G G1:Hp}{ι ι1:List Addr}{D:Ends}{k:Nat}{kvs:List (Key×A)}{r:OS}{p:Addr}{ob:Obj}{ws:List (Key×V)}(h:dU K W G ι D (SQ k kvs r))(e:Ext G ι G1 ι1)(hG:G p=none)(hG1:G1 p=some (.cV ob (.dK ws)))(hk:ι1[k]? = some p)(q1:ws.map (·.1)=kvs.map (·.1))(q2:aN K G1 ι1 (ws.map (·.2)) (kvs.map (·.2))):dU K W G1 ι1 (Hw p D) r:=by
 match r,h with
 | some (o,ρ',Ω'),h =>
  intro σ' H' G' ι' e' w' r';have hp:=e'.same _ _ hG1;have pV:=e'.pre _ _ hk;have hH:H' p=some (.cV ob (.dK ws)):=w'.sub _ _ hp;have ex:Ext G ι (del G' p) ι':=⟨fun b u z=>by
   have hb:b≠p:=fun y=>by subst y;rw [hG]at z;cases z
   rw [Cg hb];exact e'.same _ _ (e.same _ _ z),fun j x z=>e'.pre _ _ (e.pre _ _ z)⟩
  have rr:fW K (del G' p) ι' σ' ρ':=⟨r'.1,fun i d z=>let ⟨v,a1,a2⟩:=r'.2 i d z; ⟨v,a1,a2.del hp⟩⟩;have main:∀o2:Out,(∀x,o2 ≠ .exc x)→dU K W G ι D (match Ω'[k]? with | some .dead=>some (o2,ρ',Ω'.set k (.aU kvs)) | _=>none)→To K W (del G' p) ι' D σ' (upd H' p (.dK ws)) o2:=fun o2 _ h2=>by
   split at h2
   ·rename_i hd;exact h2 σ' _ _ ι' ex (w'.Xa hp pV hd q1 (q2.ext e')) rr
   ·exact h2.elim
  cases o with
  | nx=>exact⟨ob,ws,hH,main .nx (fun _ z=>by cases z) h⟩
  | bk=>exact⟨ob,ws,hH,main .bk (fun _ z=>by cases z) h⟩
  | ct=>exact⟨ob,ws,hH,main .ct (fun _ z=>by cases z) h⟩
  | ret a=>exact fun v dv=>⟨ob,ws,hH,main (.ret a) (fun _ z=>by cases z) h v (dv.del hp)⟩
  | exc x=>exact h.elim
theorem Vi{X:Cx}{W:WX}{o:Expr}{i:Nat}{elts:List Expr}{x1:Nat}{tp apos q2 pos:Pos}{body:List Stmt}{g:A→MS}{b:MS}(yG:PassesOwn (model X.prog X.w) X.A X.env X.xe)(hc:X.calm=true)(ho:VE X W o (dH i))(hg:VG X W (.Tuple elts x1 tp) g)(hb:lO X W body b)
  (iJ:attributeBase o "items" X.env (eval o X.env)=eval o X.env:=by rfl) (iH:(apos.endLine == q2.line)=true:=by rfl)
  (hs:∀x,foldedSetIterable (.Call (.Attribute o "items" apos) [] [] q2) X.env x=pure x:=by intro _;rfl):VS X W (.For (.Tuple elts x1 tp) (.Call (.Attribute o "items" apos) [] [] q2) body [] pos) (EY i g b):=by
 obtain⟨t1,p1,s1⟩:=ho;obtain⟨t2,p2,s2⟩:=hg;obtain⟨t3,p3,s3⟩:=hb;refine⟨_,ae3 (Kl yG hc (afN p1 iJ iH) p2 p3 hs),fun G ι Ω H σ ρ D w r h=>?_⟩;unfold EY at h;cases ea:(ρ[i]?).join with
 | none=>rw [ea]at h;exact h.elim
 | some a =>
  rw [ea]at h;simp only at h;cases ed:gO Ω a with
  | none=>rw [ed]at h;exact h.elim
  | some kk =>
   obtain⟨k,kvs⟩:=kk;rw [ed]at h;simp only at h;obtain⟨v0,hv0,dv0⟩:=r.2 i a (join_some ea);obtain⟨p,Uy,_,hk,hG,hH,_,_⟩:=sH w dv0 ed;refine⟨p,Uy,hH,?_⟩;show t1 σ H _;refine s1 G ι Ω H σ ρ _ w r ?_;show bF X.K (Den X.K) W G ι σ _ (need (ρ[i]?).join Ω);rw [ea];intro v H1 G1 ι1 x1 w1 d1;obtain⟨p',ws,rfl,gX,g1,q1,q2,q3⟩:=sH w1 d1 ed;have ep:p'=p:=by have:=x1.pre _ _ hk;rw [gX]at this;cases this;rfl
   subst ep;refine⟨p',ws,rfl,q1,fun ob=>?_⟩;have w2:=w1.put (k:=k) (c := .dead) (o := .cV ob (.dK ws)) gX g1 trivial;have w3:=w2.freeze gX g1 dR;rw [rF]at w3;have e0:Ext G1 ι1 (upd G1 p' (.cV ob (.dK ws))) ι1:=Ext.new g1 _;exact acZ (S:=NK kvs) s2 s3 w3 ((r.ext x1).ext e0) (ajR dR q2 (q3.ext e0)) (Wz h (x1.trans e0) hG dR gX q2 (q3.ext e0))
end V2
namespace V2
open PySem PySem.Spec PyProof.Rows L2 KS
@[simp] def kT(cs:List Str)(i:Nat)(f:Str)(k:List (Key×A)→Mo A):Ev→Mo A:=fun ρ Ω=>match vG cs i f ρ Ω with
 | some (_,_,_,.aU kvs)=>k kvs Ω
 | _=>none
section
variable{X:Cx}{W:WX}{e:Expr}{i:Nat}{f:Str}{cs:List Str}{lA:Pos}
theorem KO{te:TE}{k:List (Key×A)→Mo A}{R:V→Hp→VK→Prop}(s:eQ X.K (Den X.K) W te (dH i))(hc:cY X.K cs f)
  (hk:∀G ι Ω H σ b vs kvs Q,Wd X.K G ι Ω H→H b=some (.dK vs)→vs.map (·.1)=kvs.map (·.1)→aN X.K G ι (vs.map (·.2)) (kvs.map (·.2))→bF X.K (Den X.K) W G ι σ Q (k kvs Ω)→R (.ref b) H Q) :
  eQ X.K (Den X.K) W (fun σ H Q=>Ib X.K te f σ H fun x H1=>R x H1 Q) (kT cs i f k):=by
 intro G ι Ω H σ ρ Q w r h;unfold kT at h;split at h
 ·rename_i s0 cls fs kvs eo;obtain⟨h1,h2,h3,h4⟩:=Kw eo;show te σ H _;refine s G ι Ω H σ ρ _ w r ?_;show bF X.K (Den X.K) W G ι σ _ (need (ρ[i]?).join Ω);rw [h1];intro v H1 G1 ι1 x1 w1 d1;obtain⟨a,C,dx,ws,rfl,ha,hg,h0,hH,hF⟩:=w1.ins h2 d1;obtain⟨C',q0,q1,q2⟩:=hc cls h3;rw [h0]at q0;cases q0;obtain⟨u,l,b,vs,rfl,g1,g2,g3,g4,g5⟩:=hF.look h4;exact⟨a,C,dx,ws,.ref b,rfl,hH,q1,q2,l,hk G1 ι1 Ω H1 σ b vs kvs Q w1 g3 g4 g5 (h.ext x1)⟩
 ·exact h.elim
theorem Vv{p1 q1:Pos}(he:VE X W e (dH i))(hc:cY X.K cs f)(hg:Gl X "len")(hm:X.mg "len" = none)
  (hb:attributeBase e f X.env (eval e X.env)=eval e X.env:=by rfl)
  (hs:starEach [.Attribute e f lA] X.env=(false,eval (.Attribute e f lA) X.env)::starEach [] X.env:=by rfl) :
  VE X W (.Call (.Name "len" p1) [.Attribute e f lA] [] q1) (kT cs i f fun kvs=>ret (.int kvs.length)):=by
 obtain⟨t,p,s⟩:=he;refine⟨_,MP aqN hg hm PySem.boot_len (vF (FE p hb) vE hs) (by decide) (by decide) hs rfl,?_⟩;refine KO (R:=fun x H Q=>∃a kvs,[x]=[V.ref a]∧H a=some (.dK kvs)∧Q (.int kvs.length) H) s hc fun G ι Ω H σ b vs kvs Q w hb k1 k2 h=>?_;have hl:vs.length=kvs.length:=by have:=congrArg List.length k1;simpa using this
 exact⟨b,vs,rfl,hb,h _ H G ι (Ext.refl _ _) w (by simp only [Den];rw [hl])⟩
theorem Vu(c:Bool){p1 q1:Pos}(HG:X.calm=true)(he:VE X W e (dH i))(hc:cY X.K cs f)(hg:Gl X "list")(hm:X.mg "list" = none)
  (hb:attributeBase e f X.env (eval e X.env)=eval e X.env:=by rfl)
  (hs:starEach [.Attribute e f lA] X.env=(false,eval (.Attribute e f lA) X.env)::starEach [] X.env:=by rfl) :
  VE X W (.Call (.Name "list" p1) [.Attribute e f lA] [] q1) (kT cs i f fun kvs=>iR c (kvs.map fun kv=>kA kv.1)):=by
 obtain⟨t,p,s⟩:=he;refine⟨_,MO (aqK HG) hg hm CS (vF (FE p hb) vE hs) (by decide) (by decide) hs rfl,?_⟩;refine KO (R:=fun x H Q=>∃(a:Addr) (kvs:List (Key×V)),[x]=[V.ref a]∧H a=some (.dK kvs)∧∀l,H l=none→Q (.ref l) (upd H l (.lst (kvs.map fun kv=>kV kv.1)))) s hc fun G ι Ω H σ b vs kvs Q w hb k1 k2 h=>?_;exact⟨b,vs,rfl,hb,fun l hl=>nT w hl (Cf k1) h⟩
theorem Vw(c:Bool){p1 apos q1 q2:Pos}(HG:X.calm=true)(he:VE X W e (dH i))(hc:cY X.K cs f)(hg:Gl X "list")(hm:X.mg "list" = none)
  (hb:attributeBase e f X.env (eval e X.env)=eval e X.env:=by rfl)
  (hs:starEach [.Call (.Attribute (.Attribute e f lA) "items" apos) [] [] q2] X.env=[(false,eval (.Call (.Attribute (.Attribute e f lA) "items" apos) [] [] q2) X.env)]:=by rfl)
  (iJ:attributeBase (.Attribute e f lA) "items" X.env (eval (.Attribute e f lA) X.env)=eval (.Attribute e f lA) X.env:=by rfl) (iH:(apos.endLine == q2.line)=true:=by rfl) :
  VE X W (.Call (.Name "list" p1) [.Call (.Attribute (.Attribute e f lA) "items" apos) [] [] q2] [] q1) (kT cs i f fun kvs=>iR c (kvs.map lZ)):=by
 obtain⟨t,p,s⟩:=he;refine⟨_,Ks HG hg hm (FE p hb) hs iJ iH,?_⟩;refine KO (R:=fun x H1 Q=>∃a kvs,x = .ref a∧H1 a=some (.dK kvs) ∧
   ∀(as:List Addr) (l:Addr),as.length=kvs.length→as.Nodup→l∉as→(∀b∈as,H1 b=none)→H1 l=none→Q (.ref l) (upd (jW H1 as (kvs.map fun kv=>[kV kv.1,kv.2])) l (.lst (as.map V.ref)))) s hc fun G ι Ω H σ b vs kvs Q w hb k1 k2 h=>?_
 refine⟨b,vs,rfl,hb,fun as l hl hn kL hb qX=>?_⟩;obtain⟨G',e1,w2,d2⟩:=LB as vs kvs G H ι w hl hn hb k1 k2;exact nT w2 (by rw [EJ as _ _ kL];exact qX) d2 (h.ext e1)
@[simp] def HP(c:Bool)(kvs:List (Key×A)):Mo A:=fun Ω=>match uT (kvs.map lZ)with
 | some ts=>if ts.length<64 then iR c ((nD ts).map oZ) Ω else none
 | none=>none
theorem Vt(c:Bool){p1 apos q1 q2:Pos}(HG:X.calm=true)(he:VE X W e (dH i))(hc:cY X.K cs f)(hg:Gl X "sorted")(hm:X.mg "sorted" = none)
  (hb:attributeBase e f X.env (eval e X.env)=eval e X.env:=by rfl)
  (hs:starEach [.Call (.Attribute (.Attribute e f lA) "items" apos) [] [] q2] X.env=[(false,eval (.Call (.Attribute (.Attribute e f lA) "items" apos) [] [] q2) X.env)]:=by rfl)
  (iJ:attributeBase (.Attribute e f lA) "items" X.env (eval (.Attribute e f lA) X.env)=eval (.Attribute e f lA) X.env:=by rfl) (iH:(apos.endLine == q2.line)=true:=by rfl) :
  VE X W (.Call (.Name "sorted" p1) [.Call (.Attribute (.Attribute e f lA) "items" apos) [] [] q2] [] q1) (kT cs i f (HP c)):=by
 obtain⟨t,p,s⟩:=he;refine⟨_,afU HG hg hm (FE p hb) hs iJ iH,?_⟩;refine KO (R:=fun x H1 Q=>∃a kvs ts,x = .ref a∧H1 a=some (.dK kvs)∧(kvs.map fun kv=>[kV kv.1,kv.2])=ts.map (fun t=>t.map V.int)∧(∀t∈ts,t≠[])∧kvs.length<64 ∧
   ∀(p:List Nat),zI ts p→∀(as:List Addr) (l:Addr),as.length=kvs.length→as.Nodup→l∉as→(∀b∈as,H1 b=none)→H1 l=none→Q (.ref l) (upd (jW H1 as (kvs.map fun kv=>[kV kv.1,kv.2])) l (.lst (p.map fun i=>(as.map V.ref).getD i .bH)))) s hc fun G ι Ω H σ b vs kvs Q w hb k1 k2 h=>?_
 unfold HP at h;split at h
 ·rename_i ts et;split at h
  ·rename_i nU;obtain⟨e3,cA⟩:=SI et;have sA:vs.length=kvs.length:=by have:=congrArg List.length k1;simpa using this
   have htl:ts.length=kvs.length:=by have:=congrArg List.length e3;simpa using this.symm
   refine⟨b,vs,ts,rfl,hb,Mp k1 k2 e3,cA,by omega,fun pp hp as l hl hn kL hb qX=>?_⟩;obtain⟨G',e1,w2,d2⟩:=LB as vs kvs G H ι w hl hn hb k1 k2;rw [e3]at d2;have dp:=Ce d2 (p:=pp) fun i hi=>by have:=hp.1.mem_iff.mp hi;simpa using this
   rw [Ir hp]at dp;exact nT w2 (by rw [EJ as _ _ kL];exact qX) dp (h.ext e1)
  ·exact False.elim h
 ·exact False.elim h
end
theorem aq3{K:Frag}{mg:Str→Option Value}{h:Heap}{rk m q:Str}{st:Stmt}{R f:Addr}{oc:Value}{od an:Option Addr}{iQ:Array (Option Value)}{kV doc pm aV ct:Value}(X:K.In h)(G:h.Ns mainGlobals mg)(n:nsIn K mainGlobals rk=some (some (.ref R)))
  (r:readsIn K R (.type "type")=true) (fi:findCls K (.ref R) (.type "type") m=some (.val (.ref f))) (ga:specialIn K (.ref R) "__getattribute__" = some (some (.builtin "type.__getattribute__")))
  (l:K.lookup f=some ⟨oc,od,.func (fnOf m q (kN st) (fB st) (aZ st) .none kV doc pm an aV ct),iQ⟩) (c:codeIn K aV q=true) (k:keepIn K (.ref f)=true):JL K mg rk m q st :=
 ⟨R,f,_,mg_of X G n,⟨r,fi,ga,k⟩,HV l c k⟩
theorem Sg(a:A)(ha:cS 7 a=true):∀(ds:List A),ds.all (cS 7)=true→((ds.map (toPy 7)).any fun y=>PyData.eqv y (toPy 7 a))=ds.any fun d=>fL 7 d a
 | [],_=>rfl
 | d::ds,h=>by
  simp only [Fe,kR]at h;simp only [cX,QQ];rw [SN 7 d a h.1 ha,Sg a ha ds h.2]
def Jx(K:Frag)(neg:Bool):R2:=fun x y H Q=>∃ι a ds,cS 7 a=true∧cS 8 (.lst ds)=true∧Den K H ι x a∧Den K H ι y (.lst ds)∧Q (.bl (if neg then !(ds.any fun d=>fL 7 d a)else ds.any fun d=>fL 7 d a)) H
theorem agV{X:Cx}(hu:X.A.units+64<cLine):gB X (compareOp .NotIn) (Jx X.K true):=by
 intro pins s σ H x y v u Q I rx ry h;obtain⟨ι,a,ds,h1,h2,d1,d2,q⟩:=h;obtain⟨as,q1⟩:=AU I 7 x v a h1 d1 rx;obtain⟨bs,q2⟩:=AU I 8 y u (.lst ds) h2 d2 ry;have e1:=SO 7 a;have qZ:ds.all (cS 7)=true:=h2;refine SeqAt.notIn_list_reads (xs:=ds.map (toPy 7)) q2 q1 (OY ds 7 (fun d _=>AM 7 d) qZ) (AM 7 a h1) (by omega) ?_;rw [Sg a h1 ds qZ];exact⟨.bl (!(ds.any fun d=>fL 7 d a)),H,I,rfl,q⟩
def BW(neg:Bool)(a b:A):Mo A:=fun Ω=>match res Ω 6 a,res Ω 6 b with
 | some x,some (.lst ds)=>if(cS 7 x&&cS 8 (.lst ds))=true then some (.ok (.bl (if neg then !(ds.any fun d=>fL 7 d x)else ds.any fun d=>fL 7 d x)),Ω)else none
 | _,_=>none
theorem agR{K:Frag}{W:WX}{neg:Bool}:uE K W (Jx K neg) (BW neg):=by
 intro G ι Ω H σ x y a b Q w d1 d2 h;unfold BW at h;split at h
 ·rename_i a' ds e1 e2;split at h
  ·rename_i hp;simp only [kR]at hp;exact⟨ι,a',ds,hp.1,hp.2,MJ w 6 x a a' d1 e1,MJ w 6 y b _ d2 e2,h _ H G ι (Ext.refl _ _) w (by simp only [Den])⟩
  ·exact False.elim h
 ·exact False.elim h
theorem ahH{X:Cx}{W:WX}(hu:X.A.units+64<cLine):kO X W (compareOp .NotIn) (BW true):=⟨_,agV hu,agR⟩
end V2
namespace M
open PySem V2
noncomputable section
def QA:MS :=
 (bC (lU ["Often"] "keep" aP aX)
  (bC (lU ["Often"] "many" aP bM)
  (lU ["Often"] "taken" aP bM)))
def zX:List A→Mo A:=eE 2 QA
def Dd:MS :=
 (dZ (bJ (aC oY (aC bE (eT ["Often"] "many" aP) aX) (cI 1000000000)))
   (fun _ _=>none)
   fP)
def JR:List A→Mo A:=eE 2 Dd
def De:MS :=
 (dE (eT ["Often"] "many" aP))
def JS:List A→Mo A:=eE 1 De
def Rx:Ev→Mo A :=
 (kG false 1 [] (fY aP) (gN 0) oG (aC bB aP bL))
def Rw:Ev→Mo A :=
 (kG false 1 [2] (fY aP) (gN 0) (bJ (aC oY (aC bB aP bL) aX)) (sW (aE (aC bB aP bM) (aE (aC (nW) (aC bB aP bL) aX) a0))))
def PH:MS :=
 (bC (cM bM (gN 2))
  (bC (dZ (bJ (aC oY (aW iK (aE aP a0)) aX))
   (cM (aC bB (Hi false Rx) aX) (gN 2))
   fP)
  (dE (sW (aE (aW (OJ false) (aE Rw a0)) (aE bT a0))))))
def JM:List A→Mo A:=eE 3 PH
def QE:MS :=
 (uY 0 "tally" (xJ (aC bE (iW (eT ["Often"] "tally" aP) aX bM) bT) (eT ["Often"] "tally" aP) aX))
def JW:List A→Mo A:=eE 3 QE
def QD:MS :=
 (dE (kT ["Often"] 0 "tally" (HP true)))
def DM:List A→Mo A:=eE 1 QD
def Dl:MS :=
 (dE (kT ["Often"] 0 "tally" fun kvs=>iR false (kvs.map fun kv=>kA kv.1)))
def sR:List A→Mo A:=eE 1 Dl
def Dk:MS :=
 (dE (eT ["Often"] "lost" aP))
def mH:List A→Mo A:=eE 1 Dk
def Dm:MS :=
 (bC (uY 0 "tally" (cM (iW (eT ["Often"] "tally" aP) aX bM) (gN 2)))
  (dE (sW (aE bT (aE (aC bE bT (eT ["Often"] "lost" aP)) a0)))))
def zY:List A→Mo A:=eE 3 Dm
def CN:MS :=
 (bC (dZ (bJ (aC iZ aX bM))
   (dE (aC (bY) aP KJ))
   fP)
  (bC (dZ (bJ (aC iZ aX bL))
   (dE (aC (fD) (aC (bY) aP rJ) (aC (bY) (aC (eI) aP rJ) (cI 14))))
   fP)
  (bC (dZ (bJ (aC iZ aX fO))
   (dE (aC (nW) (aC (bY) aP (cI 60)) (cI 30)))
   fP)
  (dE (aC bB (mP false (aE (aC (bY) aP rJ) (aE (aC (fD) (aC (nW) (aC (bY) (aC (eI) aP qK) (cI 1999)) (cI 999)) (aC (Ot) Vf (cI 15))) a0))) (aW Bh (aE (aC iZ (aC (bY) aP qK) bM) a0)))))))
def wU:List A→Mo A:=eE 2 CN
def Df:MS :=
 (dE (aW iK (aE (cP "kept" [("Often",cK 1 [] sR)] aP a0) a0)))
def JT:List A→Mo A:=eE 1 Df
def PY:MS :=
 (dE (KW true (cP "kept" [("Often",cK 1 [] sR)] aP a0)))
def DL:List A→Mo A:=eE 1 PY
def IS:MS :=
 (dZ (bJ (aC oY (kT ["Often"] 0 "tally" fun kvs=>ret (.int kvs.length)) (eT ["Often"] "keep" aP)))
   (bC (cM (aW (eB 2 JM) (aE (kT ["Often"] 0 "tally" fun kvs=>iR false (kvs.map lZ)) (aE (eT ["Often"] "keep" aP) a0))) (gN 1))
   (bC (uZ ["Often"] 0 "tally" (aW tZ (aE (aC bB aX bM) a0)))
   (lU ["Often"] "lost" aP (aC bE (eT ["Often"] "lost" aP) (aC bB aX bL)))))
   fP)
def JV:List A→Mo A:=eE 2 IS
def PV:MS :=
 (bC (cM (cP "counted" [("Often",cK 2 [] zY)] aP (aE dG a0)) (gN 5))
  (bC (dZ (iP (lT (bJ (aW yR (aE dJ (aE (cT "tuple") a0))))) (iP (bJ (aC iY (aW iK (aE dJ a0)) fO)) (iP (lT (bJ (aW (eB 1 uJ) (aE (aC bB dJ bM) a0)))) (lT (bJ (aW (eB 1 uJ) (aE (aC bB dJ bL) a0)))))))
   (dE (cB false))
   fP)
  (bC (cM (iW aX dG bM) (gN 6))
  (bC (dZ (bJ (aC iY dJ (sW (aE fF (aE (aW rA (aE cL (aE (aC bE fF (cP "off" [("Often",cK 1 [] mH)] aP a0)) a0))) a0)))))
   (dE (cB false))
   fP)
  (dE (EG yQ yQ (aC bB dJ bM) (iW bT dG bM) (aC bB dJ bL)))))))
def JP:List A→Mo A:=eE 7 PV
def QF:MS :=
 (bC (jG (aW (eB 2 zX) (aE aP (aE aX a0))))
  (bC (uZ ["Often"] 0 "tally" AJ)
  (lU ["Often"] "lost" aP bM)))
def zZ:List A→Mo A:=eE 2 QF
def Dh:MS :=
 (bC (jG (cP "count_in" [("Often",cK 3 [] JW)] aP (aE aX (aE bT a0))))
  (jG (cP "cut_down" [("Often",cK 1 [] JV)] aP a0)))
def RB:List A→Mo A:=eE 3 Dh
def Dj:Ev→Mo A :=
 (kG false 1 [0,1] (fY (cP "numbers" [("Often",cK 1 [] DL)] aP a0)) (gN 0) (bJ (aC BZ (aC bB (cP "counted" [("Often",cK 2 [] zY)] aX (aE aP a0)) bL) bT)) aP)
def QC:MS :=
 (dE Dj)
def RC:List A→Mo A:=eE 2 QC
def Dc:MS :=
 (bC (dZ (iP (lT (bJ (aW yR (aE cL (aE (cT "tuple") a0))))) (iP (bJ (aC iY (aW iK (aE cL a0)) fO)) (iP (lT (bJ (aW (eB 1 uJ) (aE (aC bB cL bM) a0)))) (lT (bJ (aW (eB 1 uJ) (aE (aC bB cL bL) a0)))))))
    (dE cN)
    fP)
   (dZ (bJ (aC HR (aC bB cL bL) bL))
    (dE cN)
    fP))
def Sb:Ev→Mo A :=
 (kG false 2 [] (fY dG) (oX 2 (iU (gN 0) (iU (gN 1) qA))) oG aP)
def PR:Ev→Mo A :=
 (kG false 2 [] (fY dG) (oX 2 (iU (gN 0) (iU (gN 1) qA))) oG aX)
def PU:MS :=
 (bC (cM (cP "counts" [("Often",cK 1 [] DM)] aP a0) (gN 3))
  (bC (dZ (iP (lT (bJ (aW yR (aE dG (aE (cT "list") a0))))) (iP (bJ (aC iY dG (aW (OJ false) (aE dG a0)))) (bJ (aC oY (aW iK (aE dG a0)) aX))))
   (dE cN)
   fP)
  (bC (oO (fY dG) (gN 4) Dc)
  (bC (cM Sb (gN 5))
  (bC (cM (cP "off" [("Often",cK 1 [] mH)] aP a0) (gN 6))
  (bC (dZ (iP (bJ (aC iY (EE dJ) (aW iK (aE dJ a0)))) (iP (lT (bJ (aW (eB 1 uJ) (aE fF a0)))) (bJ (aC HR fF bM))))
   (dE cN)
   fP)
  (bC (dZ (bJ (aC oY (aC bE (aC (fD) fF (aC bE aX bL)) (aW pZ (aE PR a0))) bT))
   (dE cN)
   fP)
  (bC (dZ (iP (bJ (aC iY (cP "held" [("Often",cK 1 [] JT)] aP a0) (aW iK (aE dG a0)))) (iP (bJ (aC iY (cP "numbers" [("Often",cK 1 [] DL)] aP a0) dJ)) (bJ (aC iY (cP "length" [("Often",cK 1 [] JS)] aP a0) bT))))
   (dE cN)
   fP)
  (dE (aW tZ (aE dG a0)))))))))))
def Fq:List A→Mo A:=eE 7 PU
def PX:MS :=
 (bC (dZ (bJ (aC HR bT bL))
   (fun _ _=>none)
   fP)
  (bC (jG (cP "look_room" [("Often",cK 2 [] JR)] aP (aE bT a0)))
  (bC (jG (cP "take" [("Often",cK 3 [] RB)] aP (aE aX (aE bT a0))))
  (bC (lU ["Often"] "many" aP (aC bE (eT ["Often"] "many" aP) bT))
  (lU ["Often"] "taken" aP (aC bE (eT ["Often"] "taken" aP) bL))))))
def JQ:List A→Mo A:=eE 3 PX
def Cy:Ev→Mo A :=
 (kG false 1 [1,3,4,6] (fY (aW (HQ false) (aE (rM false aX) a0))) (gN 0) (bJ (aC BZ (aW rA (aE dG (aE (aC bE (aC vX aX aP) cL) a0))) bT)) aP)
def PK:MS :=
 (dZ (uS (bJ (aC BZ mM dG)) (uS (bJ (aC oY mM fF)) (bJ (aC (BW true) iO dJ))))
    (dE (cB false))
    fP)
def PL:MS :=
 (bC (cM (cP "often" [("Often",cK 2 [] RC)] aP (aE dG a0)) (gN 5))
  (bC (cM (cP "off" [("Often",cK 1 [] mH)] aP a0) (gN 6))
  (bC (dZ (bJ (aC iY dJ Cy))
   (dE (cB false))
   fP)
  (bC (EY 2 (oX 2 (iU (gN 7) (iU (gN 8) qA))) PK)
  (dE (cB true))))))
def QX:List A→Mo A:=eE 9 PL
def Cw:MS :=
 (bC (dZ (lT (bJ (aW (eB 5 JP) (aE aP (aE dJ (aE bT (aE fF (aE cL a0))))))))
    (dE (cB false))
    fP)
   (dZ (uS (bJ (aC oY (aC (fD) (iW bT fF bM) (aC bE aX bL)) cL)) (bJ (aC (CA true) fF dJ)))
    (dE (cB false))
    fP))
def Cv:MS :=
 (dZ (lT (bJ (aW (eB 5 QX) (aE aP (aE dJ (aE bT (aE iO (aE cL a0))))))))
    (dE (cB false))
    fP)
def PJ:MS :=
 (bC (cM (aW pZ (aE (sY false bT) a0)) (gN 4))
  (bC (cM (aW (eB 3 Fq) (aE aP (aE aX (aE cL a0)))) (gN 5))
  (bC (dZ (bJ (aC (Ov false) dJ cN))
   (dE (cB false))
   fP)
  (bC (oO (fY (aC bE (rM false bT) (mP false (aE (aC (nW) (aC (bY) dG (cI 99)) (cI 50)) a0)))) (gN 6) Cw)
  (bC (oO (fY (mP false (aE bL (aE (aC bE bL (aC (bY) dG AG)) (aE (aC bE (cP "off" [("Often",cK 1 [] mH)] aP a0) bL) (aE (aC bE bL (aC (eI) cL (aC bE aX bL))) a0)))))) (gN 7) Cv)
  (dE (cB true)))))))
def QW:List A→Mo A:=eE 8 PJ
end
open PySem L2 V2
def aR:List Rn→Int→Int
 | [],_=>0
 | r::rs,n=>if r.1=n then r.2 else aR rs n
def bS:List Rn→Int→Int→List Rn
 | [],n,t=>[(n,t)]
 | r::rs,n,t=>if r.1=n then(r.1,r.2+t)::rs else r::bS rs n t
def dM:List Rn→Int
 | []=>0
 | r::rs=>r.2+dM rs
theorem CJ:∀{rs:List Rn} {n:Int},n∉rs.map (·.1)→aR rs n=0
 | [],_,_=>rfl
 | r::rs,n,h=>by
  simp only [cX,eN,not_or]at h;simp only [aR,if_neg (bV h.1)];exact CJ h.2
theorem OW:∀{rs:List Rn} {r:Rn},(rs.map (·.1)).Nodup→r∈rs→aR rs r.1=r.2
 | [],r,_,h=>by simp at h
 | s::rs,r,nd,h=>by
  rw [cX,mX]at nd
  rcases eN.mp h with e | e
  ·subst e;simp [aR]
  ·have:s.1≠r.1:=fun z=>nd.1 (by rw [z];exact List.mem_map_of_mem e);simp only [aR,if_neg this];exact OW nd.2 e
theorem OV:∀{rs:List Rn} {n:Int},(∀r∈rs,1≤r.2)→0≤aR rs n
 | [],_,_=>by simp [aR]
 | r::rs,n,h=>by
  simp only [aR];split
  ·have:=h r (by simp);omega
  ·exact OV fun r hr=>h r (by simp [hr])
theorem Qq:∀{rs:List Rn} {n:Int},1≤aR rs n→n∈rs.map (·.1)
 | [],_,h=>by simp [aR]at h
 | r::rs,n,h=>by
  simp only [aR]at h;split at h
  ·rename_i e;simp [e]
  ·simp only [cX,eN];exact Or.inr (Qq h)
theorem Qr:∀{rs:List Rn} {n:Int},(∀r∈rs,1≤r.2)→aR rs n≤dM rs
 | [],_,_=>by simp [aR,dM]
 | r::rs,n,h=>by
  have ih:=Qr (rs:=rs) (n:=n) fun r hr=>h r (by simp [hr]);have h0:=OV (rs:=rs) (n:=n) fun r hr=>h r (by simp [hr]);have h1:=h r (by simp);simp only [aR,dM];split <;> omega
theorem SY:∀{rs:List Rn},(∀r∈rs,1≤r.2)→0≤dM rs
 | [],_=>by simp [dM]
 | r::rs,h=>by
  have ih:=SY (rs:=rs) fun r hr=>h r (by simp [hr]);have h1:=h r (by simp);simp only [dM];omega
theorem LP:∀(rs:List Rn) (n t:Int),dM (bS rs n t)=dM rs+t
 | [],n,t=>by simp [bS,dM]
 | r::rs,n,t=>by
  simp only [bS];split
  ·simp only [dM];omega
  ·simp only [dM,LP rs n t];omega
theorem CK:∀(rs:List Rn) (n t m:Int),aR (bS rs n t) m=aR rs m+if m=n then t else 0
 | [],n,t,m=>by
  simp only [bS,aR]
  by_cases h:n=m
  ·rw [if_pos h,if_pos h.symm];omega
  ·rw [if_neg h,if_neg (bV h)];omega
 | r::rs,n,t,m=>by
  simp only [bS];split
  ·rename_i e;simp only [aR]
   by_cases h:r.1=m
   ·rw [if_pos h,if_pos h,if_pos (by omega)]
   ·rw [if_neg h,if_neg h,if_neg (by omega)];omega
  ·rename_i e;simp only [aR]
   by_cases h:r.1=m
   ·rw [if_pos h,if_pos h,if_neg (by omega)];omega
   ·rw [if_neg h,if_neg h,CK rs n t m]
theorem Mh:∀(rs:List Rn) (n t m:Int),m∈(bS rs n t).map (·.1)→m∈rs.map (·.1)∨m=n
 | [],n,t,m,h=>by simp only [bS,cX,qG,nN]at h;exact .inr h
 | r::rs,n,t,m,h=>by
  simp only [bS]at h;split at h
  ·exact .inl (by simpa using h)
  ·simp only [cX,eN]at h ⊢
   rcases h with h | h
   ·exact .inl (.inl h)
   ·rcases Mh rs n t m h with q | q
    ·exact .inl (.inr q)
    ·exact .inr q
theorem xQ:∀(rs:List Rn) (n t:Int),(rs.map (·.1)).Nodup→((bS rs n t).map (·.1)).Nodup
 | [],n,t,_=>by simp [bS]
 | r::rs,n,t,nd=>by
  simp only [bS];split
  ·simpa using nd
  ·rename_i e;rw [cX,mX]at nd ⊢;refine⟨fun h=>?_,xQ rs n t nd.2⟩
   rcases Mh rs n t r.1 h with q | q
   ·exact nd.1 q
   ·exact e q
theorem MM:∀(rs:List Rn) (n t:Int),1≤t→(∀r∈rs,1≤r.2)→∀r∈bS rs n t,1≤r.2
 | [],n,t,ht,_,r,hr=>by simp only [bS,nN]at hr;subst hr;exact ht
 | s::rs,n,t,ht,h,r,hr=>by
  simp only [bS]at hr;split at hr
  ·rcases eN.mp hr with e | e
   ·subst e;have:=h s (by simp);show 1≤s.2+t;omega
   ·exact h r (by simp [e])
  ·rcases eN.mp hr with e | e
   ·subst e;exact h _ (by simp)
   ·exact MM rs n t ht (fun r hr=>h r (by simp [hr])) r e
theorem BG:∀(rs:List Rn) (n t:Int),(bS rs n t).length≤rs.length+1
 | [],n,t=>by simp [bS]
 | r::rs,n,t=>by
  simp only [bS];split
  ·simp
  ·have:=BG rs n t;simp only [jP];omega
theorem ON(t:Int)(r:Rn)(rs:List Rn):dP t (r::rs)=if t<r.2 then(r.1,r.2 - t)::dP t rs else dP t rs:=by
 by_cases h:t<r.2 <;> simp [dP,h]
theorem OM:∀(t:Int) (rs:List Rn) (m:Int),m∈(dP t rs).map (·.1)→m∈rs.map (·.1)
 | t,[],m,h=>by simp [dP]at h
 | t,r::rs,m,h=>by
  rw [ON]at h;split at h
  ·simp only [cX,eN]at h ⊢;exact h.imp id (OM t rs m)
  ·simp only [cX,eN];exact .inr (OM t rs m h)
theorem HZ:∀(t:Int) (rs:List Rn),(rs.map (·.1)).Nodup→((dP t rs).map (·.1)).Nodup
 | t,[],_=>by simp [dP]
 | t,r::rs,nd=>by
  rw [cX,mX]at nd;rw [ON];split
  ·rw [cX,mX];exact⟨fun h=>nd.1 (OM t rs r.1 h),HZ t rs nd.2⟩
  ·exact HZ t rs nd.2
theorem Pe(t:Int)(rs:List Rn):∀r∈dP t rs,1≤r.2:=by
 intro r hr;unfold dP at hr;obtain⟨s,hs,rfl⟩:=mG.mp hr;have:=(List.mem_filter.mp hs).2;simp only [CI]at this;show 1≤s.2 - t;omega
theorem Bt:∀(t:Int) (rs:List Rn) (m:Int),(rs.map (·.1)).Nodup→(∀r∈rs,1≤r.2)→0≤t→aR (dP t rs) m=if t<aR rs m then aR rs m - t else 0
 | t,[],m,_,_,h=>by simp [dP,aR,Int.not_lt.mpr h]
 | t,r::rs,m,nd,hp,h=>by
  rw [cX,mX]at nd;have ih:=Bt t rs m nd.2 (fun r hr=>hp r (by simp [hr])) h;rw [ON]
  by_cases e:r.1=m
  ·have hn:aR (dP t rs) m=0:=CJ fun z=>nd.1 (by rw [e];exact OM t rs m z);split
   ·simp only [aR,if_pos e];rw [if_pos (by assumption)]
   ·rw [hn];simp only [aR,if_pos e];rw [if_neg (by assumption)]
  ·split
   ·simp only [aR,if_neg e];exact ih
   ·simp only [aR,if_neg e];exact ih
theorem Bs:∀(t:Int) (rs:List Rn),(∀r∈rs,1≤r.2)→0≤t→t*((rs.filter fun r=>decide (t≤r.2)).length:Int)+dM (dP t rs)≤dM rs
 | t,[],_,h=>by simp [dP,dM]
 | t,r::rs,hp,h=>by
  have ih:=Bs t rs (fun r hr=>hp r (by simp [hr])) h;have h1:=hp r (by simp);rw [ON]
  by_cases h2:t≤r.2
  ·rw [List.filter_cons_of_pos (by simpa using h2),jP];have e:t*(((rs.filter fun r=>decide (t≤r.2)).length+1:Nat):Int)=t*((rs.filter fun r=>decide (t≤r.2)).length:Int)+t:=by
    rw [Int.natCast_add,Int.mul_add];simp
   rw [e];split
   ·simp only [dM];omega
   ·simp only [dM];omega
  ·rw [List.filter_cons_of_neg (by simpa using h2),if_neg (by omega)];simp only [dM];omega
theorem Pf(t:Int)(rs:List Rn):(dP t rs).length=(rs.filter fun r=>decide (t<r.2)).length:=by unfold dP;rw [List.length_map]
theorem pO(rs:List Rn):(cZ rs).Perm rs:=by
 have h:=(LU (rs.map jY)).map AL;rw [uF]at h;have e:rs.map (AL ∘ jY)=rs:=by
  have:∀r∈rs,(AL ∘ jY) r=id r:=fun r _=>rfl;rw [QN this,List.map_id]
 rw [e]at h;exact h
theorem LN{rs iE:List Rn}(h:rs.Perm iE):dM rs=dM iE:=by
 induction h with
 | nil=>rfl
 | cons x _ ih=>simp only [dM,ih]
 | swap x y l=>simp only [dM];omega
 | trans _ _ a b=>exact a.trans b
theorem IE{rs iE:List Rn}(h:rs.Perm iE)(nd:(rs.map (·.1)).Nodup)(m:Int):aR rs m=aR iE m:=by
 have nd':(iE.map (·.1)).Nodup:=(h.map (·.1)).nodup_iff.mp nd
 by_cases hm:m∈rs.map (·.1)
 ·obtain⟨r,hr,rfl⟩:=mG.mp hm;rw [OW nd hr,OW nd' (h.mem_iff.mp hr)]
 ·rw [CJ hm,CJ fun z=>hm ((h.map (·.1)).mem_iff.mpr z)]
def gF(keep:Nat)(rs:List Rn):List Rn:=if keep<rs.length then cZ (dP (taken rs keep) rs)else rs
structure nL(keep:Nat)(rs:List Rn)(lost:Int)(ws:List Rn)(many:Int):Prop where
 nd:(rs.map (·.1)).Nodup
 pos:∀r∈rs,1≤r.2
 len:rs.length≤keep
 lo:0≤lost
 sum:lost*((keep:Int)+1)+dM rs≤many
 le:∀n,aR rs n≤aR ws n
 ge:∀n,aR ws n≤aR rs n+lost
 sV:(ws.map (·.1)).Nodup
 RK:∀r∈ws,1≤r.2
 wsum:dM ws=many
theorem acH(keep:Nat):nL keep [] 0 [] 0:=⟨by simp,by simp,by simp,by omega,by simp [dM],fun _=>by simp [aR],fun _=>by simp [aR],by simp,by simp,rfl⟩
theorem SR(rs:List Rn)(keep:Nat)(h:¬keep<rs.length):taken rs keep=0:=by unfold taken;rw [if_neg h]
theorem nL.next{keep:Nat}{rs ws:List Rn}{lost many:Int}(s:nL keep rs lost ws many)(n t:Int)(ht:1≤t):nL keep (gF keep (bS rs n t)) (lost+taken (bS rs n t) keep) (bS ws n t) (many+t):=by
 have qR:=xQ rs n t s.nd;have pP:=MM rs n t ht s.pos;have LQ:lost*((keep:Int)+1)+dM (bS rs n t)≤many+t:=by rw [LP];have:=s.sum;omega
 have BH:∀m,aR (bS rs n t) m≤aR (bS ws n t) m:=fun m=>by rw [CK,CK];have:=s.le m;omega
 have ge1:∀m,aR (bS ws n t) m≤aR (bS rs n t) m+lost:=fun m=>by rw [CK,CK];have:=s.ge m;omega
 have DX:=xQ ws n t s.sV;have DS:=MM ws n t ht s.RK;have DR:dM (bS ws n t)=many+t:=by rw [LP,s.wsum]
 generalize bS rs n t=cR at qR pP LQ BH ge1
 by_cases hk:keep<cR.length
 ·have g1:=Qk cR keep hk;have g2:=Ql cR keep hk;have g3:=Qj cR pP keep hk;rw [show gF keep cR=cZ (dP (taken cR keep) cR)by unfold gF;rw [if_pos hk]];generalize taken cR keep=u at g1 g2 g3 ⊢;have hS:=pO (dP u cR);have WG:=HZ u cR qR;have kK:((cZ (dP u cR)).map (·.1)).Nodup:=(hS.map (·.1)).nodup_iff.mpr WG;have c:=fun m=>(IE hS kK m).trans (Bt u cR m qR pP (by omega));have akN:=Bs u cR pP (by omega);refine⟨kK,fun r hr=>Pe u cR r (hS.mem_iff.mp hr),?_,?_,?_,fun m=>?_,fun m=>?_,DX,DS,DR⟩
  ·rw [hS.length_eq,Pf];exact g1
  ·have:=s.lo;omega
  ·rw [LN hS];have hm:u*((keep:Int)+1)≤u*((cR.filter fun r=>decide (u≤r.2)).length:Int):=Uk (by omega) (by omega);rw [Int.add_mul];omega
  ·rw [c m];have:=BH m;have h0:=OV (n:=m) pP;split <;> omega
  ·rw [c m];have:=ge1 m;split <;> omega
 ·have e:gF keep cR=cR:=by unfold gF;rw [if_neg hk]
  rw [e,SR cR keep hk,Int.add_zero];exact⟨qR,pP,by omega,s.lo,LQ,BH,ge1,DX,DS,DR⟩
open PyProof.Rows (step_dedup)
def encD(rs:List Rn):List (Key×A):=rs.map fun r=>(.inl r.1,.int r.2)
theorem Hh{q:Key×A}{kvs:List (Key×A)}{k:Key}(h:q.1=k):iV (q::kvs) k=some q.2:=by simp [iV,h]
theorem Hg{q:Key×A}{kvs:List (Key×A)}{k:Key}(h:q.1≠k):iV (q::kvs) k=iV kvs k:=by simp [iV,h]
theorem KU:∀(rs:List Rn) (n:Int),(iV (encD rs) (.inl n)).getD (.int 0) = .int (aR rs n)
 | [],n=>rfl
 | r::rs,n=>by
  have ih:=KU rs n;show(iV ((.inl r.1,.int r.2)::encD rs) (.inl n)).getD (.int 0) = .int (aR (r::rs) n)
  by_cases h:r.1=n
  ·rw [Hh (by rw [h])];simp [aR,h]
  ·rw [Hg (by intro z;exact h (by simpa using z)),ih];simp [aR,h]
theorem SA:∀(rs:List Rn) (n:Int),iV (encD rs) (.inl n)=if n∈rs.map (·.1)then(aA (aR rs n))else none
 | [],n=>rfl
 | r::rs,n=>by
  have ih:=SA rs n;show iV ((.inl r.1,.int r.2)::encD rs) (.inl n)=_
  by_cases h:r.1=n
  ·rw [Hh (by rw [h])];simp [aR,h]
  ·have h':¬n=r.1:=fun z=>h z.symm;rw [Hg (by intro z;exact h (by simpa using z)),ih];simp only [aR,if_neg h,cX,eN,h',false_or]
theorem aeV{q:Key×A}{kvs:List (Key×A)}{k:Key}{a:A}(h:q.1≠k):oP (q::kvs) k a=q::oP kvs k a:=by
 unfold oP;have e:((q::kvs).any fun kv=>decide (kv.1=k))=kvs.any fun kv=>decide (kv.1=k):=by simp [h]
 rw [e];split
 ·simp [h]
 ·simp
theorem VQ:∀(rs:List Rn) (n t:Int),(rs.map (·.1)).Nodup→oP (encD rs) (.inl n) (.int (aR rs n+t))=encD (bS rs n t)
 | [],n,t,_=>by simp [encD,oP,bS,aR]
 | r::rs,n,t,nd=>by
  rw [cX,mX]at nd;have ih:=VQ rs n t nd.2;show oP ((.inl r.1,.int r.2)::encD rs) (.inl n) _=_
  by_cases h:r.1=n
  ·subst h;have em:∀(l:List Rn),r.1∉l.map (·.1)→(encD l).map (fun kv=>if kv.1=(.inl r.1:Key)then(kv.1,A.int (r.2+t))else kv)=encD l:=by
    intro l
    induction l with
    | nil=>intro _;rfl
    | cons s l YN =>
     intro hn;simp only [cX,eN,not_or]at hn;have hs:¬s.1=r.1:=fun z=>hn.1 z.symm;have:=YN hn.2;simp only [encD,cX]at this ⊢;rw [this];simp [hs]
   have e2:=em rs nd.1;simp only [oP,aR,if_pos,bS];simp [encD]at e2 ⊢;exact e2
  ·rw [aeV (by intro z;exact h (by simpa using z))];simp only [aR,bS,if_neg h,ih];rfl
theorem YH(rs:List Rn):(encD rs).map (fun kv=>kA kv.1)=(rs.map (·.1)).map A.int:=by simp [encD,kA]
theorem NL(rs:List Rn):(encD rs).map lZ=aK rs:=by simp [encD,lZ,kA,aK,eW]
theorem RX(rs:List Rn):(encD rs).map (·.2)=(rs.map (·.2)).map A.int:=by simp [encD]
theorem LO:∀rs:List Rn,(rs.map (·.2)).sum=dM rs
 | []=>rfl
 | r::rs=>by simp [dM,LO rs]
theorem VY:∀rs:List Rn,vD (aK rs)=some (encD rs)
 | []=>rfl
 | r::rs=>by
  have ih:=VY rs;show vD (.tup [.int r.1,.int r.2]::aK rs)=_;simp [vD,lY,ih,encD]
theorem keys_nodup(rs:List Rn)(nd:(rs.map (·.1)).Nodup):((encD rs).map (·.1)).Nodup:=by
 have e:(encD rs).map (·.1)=(rs.map (·.1)).map (Sum.inl:Int→Key):=by simp [encD]
 rw [e];exact JB.mpr (nd.imp fun h z=>h (by simpa using z))
theorem Qf:∀(ns acc:List Int),(acc++ns).Nodup→ns.foldl step_dedup acc=acc++ns
 | [],acc,_=>by simp
 | n::ns,acc,h=>by
  have hn:n∉acc:=fun z=>by
   have:=(zN.mp h).2.2 n z n (by simp);exact this rfl
  have e:step_dedup acc n=acc++[n]:=by
   unfold step_dedup;rw [if_neg];simp only [List.any_eq_true,sI,not_exists,not_and];intro x hx e;subst e;exact hn hx
  rw [List.foldl_cons,e,Qf ns (acc++[n]) (by simpa using h)];simp
theorem Qe{ns:List Int}(h:ns.Nodup):rC ns=ns:=by
 unfold rC;rw [Qf ns [] (by simpa using h)];rfl
theorem xB{Ω Ω':aI}{a:A}(h:Ω'.length=Ω.length):trim Ω (some (.ok a,Ω'))=aG a Ω':=by
 simp only [trim];split
 ·rename_i hc;rw [← h,List.take_length]at hc;rw [hc.1]
 ·rfl
theorem Hq{Ω:aI}{c:Cell}:trim Ω (some (.ok (.aB Ω.length),Ω++[c]))=aG (.aB Ω.length) (Ω++[c]):=by
 simp [trim,Cl]
abbrev dW(keep:Nat)(many tk:Int)(rs:List Rn)(lost:Int):List (Str×Fd):=[("keep",.val (.int keep)),("many",.val (.int many)),("taken",.val (.int tk)),("tally",.aU (encD rs)),("lost",.val (.int lost))]
abbrev bD(keep:Nat)(many tk:Int)(rs:List Rn)(lost:Int):Cell := .ins "Often" (dW keep many tk rs lost)
section
variable{Ω Ω':aI}{p keep:Nat}{many tk lost:Int}{rs:List Rn}
theorem iS{m:Str}{F:List A→Mo A}{n i:Nat}{das as:List A}{fs:Ev→Mo (List A)}{ρ:Ev}{a:A}(h:Ω[p]? = some (bD keep many tk rs lost))(hl:(dW keep many tk rs lost).lookup m=none)(h0:(ρ[i]?).join=(aD p))(ha:fs ρ Ω=aG as Ω)(hn:as.length+1+das.length=n)
  (hF:F (.aB p::(as++das)) Ω=aG a Ω'):cP m [("Often",cK n das F)] (dH i) fs ρ Ω=aG a Ω':=by
 unfold cP;rw [bQ (x:=A.aB p) (Ω':=Ω) (by simp [h0])];have lk:List.lookup ("Often" : Str) [(("Often" : Str),cK n das F)]=some (cK n das F):=by simp [List.lookup]
 simp only [OK,h,lk,hl];rw [bQ ha];simp only [cK];rw [if_pos (by simp only [jP];omega)];exact hF
theorem FF(h:Ω[p]? = some (bD keep many tk rs lost)){ρ:Ev}(h0:(ρ[0]?).join=(aD p)):vG ["Often"] 0 "tally" ρ Ω=some (p,("Often" : Str),dW keep many tk rs lost,Fd.aU (encD rs)):=by
 unfold vG;rw [h0];simp only [h];rfl
theorem IZ(h:Ω[p]? = some (bD keep many tk rs lost)):mH [.aB p] Ω=aG (.int lost) Ω:=by
 have l:(dW keep many tk rs lost).lookup ("lost" : Str)=some (.val (.int lost)):=rfl;show trim Ω (fZ (Dk [aD p] Ω))=_;simp [Dk,h,l]
theorem ar0(h:Ω[p]? = some (bD keep many tk rs lost)):JS [.aB p] Ω=aG (.int many) Ω:=by
 have l:(dW keep many tk rs lost).lookup ("many" : Str)=some (.val (.int many)):=rfl;show trim Ω (fZ (De [aD p] Ω))=_;simp [De,h,l]
theorem Tt(h:Ω[p]? = some (bD keep many tk rs lost)):sR [.aB p] Ω=aG (.lst ((rs.map (·.1)).map A.int)) Ω:=by
 have o:=FF h (ρ:=[aD p]) rfl;show trim Ω (fZ (Dl [aD p] Ω))=_;unfold Dl;rw [← YH];simp [o]
theorem ar2(h:Ω[p]? = some (bD keep many tk rs lost)):JT [.aB p] Ω=aG (.int rs.length) Ω:=by
 have q:(cP "kept" [("Often",cK 1 [] sR)] aP a0) [aD p] Ω=aG (.lst ((rs.map (·.1)).map A.int)) Ω:=iS h rfl rfl (as:=[]) (das:=[]) (by simp) rfl (by simpa using Tt h);show trim Ω (fZ (Df [aD p] Ω))=_;unfold Df dE;have e:(aW iK (aE (cP "kept" [("Often",cK 1 [] sR)] aP a0) a0)) [aD p] Ω=aG (.int rs.length) Ω:=by
  unfold aW;rw [bQ (x:=[A.lst ((rs.map (·.1)).map A.int)]) (Ω':=Ω) (by unfold aE;rw [bQ q];simp)];simp
 rw [fQ e];simp
theorem Tq(h:Ω[p]? = some (bD keep many tk rs lost))(nd:(rs.map (·.1)).Nodup)(hl:rs.length<64):DL [.aB p] Ω=aG (.aB Ω.length) (Ω++[.lst ((sortI (rs.map (·.1))).map A.int)]):=by
 have q:(cP "kept" [("Often",cK 1 [] sR)] aP a0) [aD p] Ω=aG (.lst ((rs.map (·.1)).map A.int)) Ω:=iS h rfl rfl (as:=[]) (das:=[]) (by simp) rfl (by simpa using Tt h);show trim Ω (fZ (PY [aD p] Ω))=_;have e:PY [aD p] Ω=some (.ret (.aB Ω.length),[aD p],Ω++[.lst ((sortI (rs.map (·.1))).map A.int)]):=by
  unfold PY dE;have e2:KW true (cP "kept" [("Often",cK 1 [] sR)] aP a0) [aD p] Ω=aG (.aB Ω.length) (Ω++[.lst ((sortI (rs.map (·.1))).map A.int)]):=by
   unfold KW;rw [bQ q];have e3:(dF Ω (.lst ((rs.map (·.1)).map A.int))).bind intsOf=some (rs.map (·.1)):=by
    show intsOf ((rs.map (·.1)).map A.int)=_;exact vM _
   simp only [e3,Qe nd];rw [if_pos ⟨by simp;omega,by simpa using hl⟩];rfl
  rw [fQ e2]
 rw [e];simp only [BA];exact Hq
theorem Tx(h:Ω[p]? = some (bD keep many tk rs lost))(hl:rs.length<64):DM [.aB p] Ω=aG (.aB Ω.length) (Ω++[.lst (aK (cZ rs))]):=by
 have o:=FF h (ρ:=[aD p]) rfl;show trim Ω (fZ (QD [aD p] Ω))=_;have e:QD [aD p] Ω=some (.ret (.aB Ω.length),[aD p],Ω++[.lst (aK (cZ rs))]):=by
  unfold QD dE;have e2:kT ["Often"] 0 "tally" (HP true) [aD p] Ω=aG (.aB Ω.length) (Ω++[.lst (aK (cZ rs))]):=by
   unfold kT;rw [o];simp only [HP,NL,LC];rw [if_pos (by simpa using hl),Ca];rfl
  rw [fQ e2]
 rw [e];simp only [BA];exact Hq
end
theorem xE{Ω:aI}{p:Nat}{c:Cell}(h:Ω[p]? = some c):Ω.set p c=Ω:=by
 apply QP;intro j
 by_cases hj:p=j
 ·subst hj;rw [gR (bX.mp h).1,h]
 ·rw [gS hj]
theorem Mc{i:Nat}{f:Str}{g:MS}{ρ ρ':Ev}{Ω:aI}{s:Nat}{cls:Str}{fs:List (Str×Fd)}{fd fd':Fd}{c c':Cell}(h1:ρ[i]? = some (aD s))(h2:Ω[s]? = some (.ins cls fs))(h3:fs.lookup f=some fd)(h4:fd.cell=some c)
  (h5:g ρ (kU Ω s cls f fs c)=fA ρ' (kU Ω s cls f fs c')) (h6:fd'.cell=some c') (h7:fd'=fd∨qH Ω.length fd') (h8:∀(j:Nat) (d:A),ρ'[j]? = some (some d)→ρ[j]? = some (some d)∨Cl Ω.length d):uY i f g ρ Ω=fA ρ' (Ω.set s (.ins cls (putD f fd' fs))):=by
 have hs:s<Ω.length:=(bX.mp h2).1;refine adR (r:=(.nx,ρ',Ω.set s (.ins cls (putD f fd' fs)))) ⟨s,cls,fs,fd,c,Ω.set s (.ins cls (putD f (.val (.aB Ω.length)) fs)),fd',c',h1,h2,h3,h4,h5,by simp,gR hs,h6,fun k x hk hx => .inl (by rw [gS (bV hk)]at hx;exact hx),h7,h8,rfl,by rw [rF]⟩
theorem Qv(n:Nat)(rs:List Rn):qH n (.aU (encD rs)):=by
 show fX n ((encD rs).map (·.2));rw [RX];exact zE fun a ha=>by obtain⟨x,_,rfl⟩:=mG.mp ha;simp only [Cl]
section
variable{Ω:aI}{p keep:Nat}{many tk lost:Int}{rs:List Rn}
theorem VP(iE:List Rn):putD "tally" (.aU (encD iE)) (dW keep many tk rs lost)=dW keep many tk iE lost:=rfl
theorem Kh(l':Int):putD "lost" (.val (.int l')) (dW keep many tk rs lost)=dW keep many tk rs l':=rfl
theorem Kg(m':Int):putD "many" (.val (.int m')) (dW keep many tk rs lost)=dW keep m' tk rs lost:=rfl
theorem Kf(t':Int):putD "taken" (.val (.int t')) (dW keep many tk rs lost)=dW keep many t' rs lost:=rfl
theorem Lu:(dW keep many tk rs lost).lookup ("tally" : Str)=some (.aU (encD rs)):=rfl
theorem Pn{ρ:Ev}(h:Ω[p]? = some (bD keep many tk rs lost))(h0:(ρ[0]?).join=(aD p)){n:Int}(h1:(ρ[1]?).join=(aA n)):iW (eT ["Often"] "tally" aP) aX bM ρ (kU Ω p "Often" "tally" (dW keep many tk rs lost) (.aU (encD rs)))=aG (.int (aR rs n)) (kU Ω p "Often" "tally" (dW keep many tk rs lost) (.aU (encD rs))):=by
 have o:=FF h h0;have q:=Ly (c := .aU (encD rs)) o;have cd:gO (kU Ω p "Often" "tally" (dW keep many tk rs lost) (.aU (encD rs))) (.aB Ω.length)=some (Ω.length,encD rs):=pC (Lz o);unfold iW;rw [bQ q];rw [if_pos ⟨_,_,cd⟩];rw [bQ (x := .int n) (Ω':=kU Ω p "Often" "tally" (dW keep many tk rs lost) (.aU (encD rs))) (by simp [h1])];rw [bQ (x := .int 0) (Ω':=kU Ω p "Often" "tally" (dW keep many tk rs lost) (.aU (encD rs))) (by simp)];simp only [HS,cd,lY,KU]
theorem Tz(h:Ω[p]? = some (bD keep many tk rs lost))(n:Int):zY [.aB p,.int n] Ω=aG (.tup [.int (aR rs n),.int (aR rs n+lost)]) Ω:=by
 have h2:(2:Nat)≤sizeLine:=by decide
 show trim Ω (fZ (Dm [aD p,aA n,none] Ω))=_;have e1:(uY 0 "tally" (cM (iW (eT ["Often"] "tally" aP) aX bM) (gN 2))) [aD p,aA n,none] Ω=fA [aD p,aA n,aA (aR rs n)] Ω:=by
  have q:=Mc (i:=0) (f := "tally") (g:=cM (iW (eT ["Often"] "tally" aP) aX bM) (gN 2)) (ρ:=[aD p,aA n,none]) (ρ':=[aD p,aA n,aA (aR rs n)]) rfl h Lu rfl (fd' := .aU (encD rs)) (c' := .aU (encD rs)) (by
   unfold cM;rw [fQ (Pn h rfl rfl)];rfl) rfl (.inl rfl) (fun j d hj=>by
   match j,hj with
   | 0,hj=>exact .inl hj
   | 1,hj=>exact .inl hj
   | 2,hj=>right;simp at hj;subst hj;simp only [Cl]
   | j+3,hj=>simp at hj)
  rw [q,VP,xE h]
 have l:(dW keep many tk rs lost).lookup ("lost" : Str)=some (.val (.int lost)):=rfl;unfold Dm;rw [bO e1];simp [h,l,h2]
theorem Ua(h:Ω[p]? = some (bD keep many tk rs lost))(nd:(rs.map (·.1)).Nodup)(hl:rs.length<1000)(n t:Int):JW [.aB p,.int n,.int t] Ω=aG (.bH) (Ω.set p (bD keep many tk (bS rs n t) lost)):=by
 show trim Ω (fZ (QE [aD p,aA n,aA t] Ω))=_;have hz:rs.length<sizeLine:=by rw [kJ];omega
 have o:=FF h (ρ:=[aD p,aA n,aA t]) rfl;have e1:QE [aD p,aA n,aA t] Ω=fA [aD p,aA n,aA t] (Ω.set p (bD keep many tk (bS rs n t) lost)):=by
  unfold QE;rw [Mc (ρ':=[aD p,aA n,aA t]) rfl h Lu rfl (fd' := .aU (encD (bS rs n t))) (c' := .aU (encD (bS rs n t))) (by
   have q:=Ly (c := .aU (encD rs)) o;have cd:gO (kU Ω p "Often" "tally" (dW keep many tk rs lost) (.aU (encD rs))) (.aB Ω.length)=some (Ω.length,encD rs):=pC (Lz o);have g:=Pn h (ρ:=[aD p,aA n,aA t]) rfl (n:=n) rfl;have e2:(aC bE (iW (eT ["Often"] "tally" aP) aX bM) bT) [aD p,aA n,aA t] (kU Ω p "Often" "tally" (dW keep many tk rs lost) (.aU (encD rs)))=aG (.int (aR rs n+t)) (kU Ω p "Often" "tally" (dW keep many tk rs lost) (.aU (encD rs))):=by
    unfold aC;rw [bQ g];simp
   unfold xJ;rw [fQ e2,fQ q];rw [fQ (x := .int n) (Ω':=kU Ω p "Often" "tally" (dW keep many tk rs lost) (.aU (encD rs))) (by simp)];have NP:(encD rs).length<sizeLine:=by simpa [encD]using hz
   simp only [MA,cd,lY,if_pos NP,VQ rs n t nd];rw [aiS]) rfl (.inr (Qv _ _)) (fun j d hj => .inl hj)]
  rw [VP]
 rw [e1];simp only [tJ];exact xB (by simp)
theorem ar4(rs:List Rn)(hl:rs.length<64)(k:Nat)(Ω:aI):JM [.lst (aK rs),.int k] Ω=aG (.tup [.lst (aK (cZ (dP (taken rs k) rs))),.int (taken rs k)]) Ω:=by
 have h2:(2:Nat)≤sizeLine:=by decide
 have hlen:(aK rs).length=rs.length:=by simp [aK]
 show trim Ω (fZ (PH [aJ (aK rs),aA k,none] Ω))=_;have e:PH [aJ (aK rs),aA k,none] Ω=some (.ret (.tup [.lst (aK (cZ (dP (taken rs k) rs))),.int (taken rs k)]),[aJ (aK rs),aA k,aA (taken rs k)],Ω):=by
  unfold PH;rw [bO (ρ1:=[aJ (aK rs),aA k,aA 0]) (Ω':=Ω) (by simp)];rw [bO (ρ1:=[aJ (aK rs),aA k,aA (taken rs k)]) (Ω':=Ω) (by
   by_cases hk:k<rs.length
   ·have pV:(k:Int)<(rs.length:Int):=by omega
    have q:Rx [aJ (aK rs),aA k,aA 0] Ω=_:=apP rs (by omega) [aJ (aK rs),aA k,aA 0] Ω rfl;have i:=aj4 rs;have a:=Xd rs k hk;have d:(sortI (rs.map (·.2))).reverse=desc rs:=rfl;generalize (rs.map fun r=>A.int r.2)=ws at q i;have Nj:(rs.map (·.2)).length<64:=by rw [eG];exact hl
    generalize (rs.map (·.2))=ms at i d Nj;rw [← d]at a;rw [List.map_reverse]at a;simp [hlen,pV,q,i,Nj,a]
   ·have pV:¬(k:Int)<(rs.length:Int):=by omega
    have t0:taken rs k=0:=by unfold taken;rw [if_neg hk]
    simp [hlen,pV,t0])]
  have q2:Rw [aJ (aK rs),aA k,aA (taken rs k)] Ω=_:=apO rs (by omega) (taken rs k) (aA k) Ω;generalize taken rs k=t at q2;have hz:(dP t rs).length<64:=by have:=anM t rs;omega
  have ht:=LC (dP t rs);have hs:=Ca (dP t rs);generalize dP t rs=fs at q2 hz ht hs;have Mt:(fs.map jY).length<64:=by rw [eG];exact hz
  generalize fs.map jY=ts at ht hs Mt;simp [q2,ht,Mt,hs,iR,h2]
 rw [e];simp
theorem Tw(h:Ω[p]? = some (bD keep many tk rs lost))(nd:(rs.map (·.1)).Nodup)(hl:rs.length<64):JV [.aB p] Ω=aG (.bH) (Ω.set p (bD keep many tk (gF keep rs) (lost+taken rs keep))):=by
 show trim Ω (fZ (IS [aD p,none] Ω))=_;have hp:p<Ω.length:=(bX.mp h).1;have lk:(dW keep many tk rs lost).lookup ("keep" : Str)=some (.val (.int keep)):=rfl;have hlen:(encD rs).length=rs.length:=by simp [encD]
 have kp:∀x1:Option A,(eT ["Often"] "keep" aP) [aD p,x1] Ω=aG (.int keep) Ω:=fun x1=>by simp [h,lk]
 have o:∀x1:Option A,vG ["Often"] 0 "tally" [aD p,x1] Ω=some (p,("Often" : Str),dW keep many tk rs lost,Fd.aU (encD rs)):=fun x1=>FF h (ρ:=[aD p,x1]) rfl
 suffices hs:∃ρ,IS [aD p,none] Ω=fA ρ (Ω.set p (bD keep many tk (gF keep rs) (lost+taken rs keep)))by
  obtain⟨ρ,e⟩:=hs;rw [e];simp only [tJ];exact xB (by simp)
 have ht:(bJ (aC oY (kT ["Often"] 0 "tally" fun kvs=>ret (.int kvs.length)) (eT ["Often"] "keep" aP))) [aD p,none] Ω=aG (decide ((keep:Int)<(rs.length:Int))) Ω:=by
  have e1:(kT ["Often"] 0 "tally" fun kvs=>ret (.int kvs.length)) [aD p,none] Ω=aG (.int rs.length) Ω:=by
   unfold kT;rw [o];simp [hlen]
  unfold bJ aC;rw [bQ (x := .bl (decide ((keep:Int)<(rs.length:Int)))) (Ω':=Ω) (by rw [bQ e1,bQ (kp _)];simp)];simp
 by_cases hk:keep<rs.length
 ·have pV:(keep:Int)<(rs.length:Int):=by omega
  have nx:gF keep rs=cZ (dP (taken rs keep) rs):=by unfold gF;rw [if_pos hk]
  have c:=ar4 rs hl keep Ω;have kK:((cZ (dP (taken rs keep) rs)).map (·.1)).Nodup:=((pO _).map (·.1)).nodup_iff.mpr (HZ _ rs nd);rw [nx];generalize cZ (dP (taken rs keep) rs)=S at c kK;generalize taken rs keep=t at c;refine⟨[aD p,some (.tup [.lst (aK S),.int t])],?_⟩;unfold IS dZ;rw [fQ ht];simp only [pV,decide_true,jI];have e1:(aW (eB 2 JM) (aE (kT ["Often"] 0 "tally" fun kvs=>iR false (kvs.map lZ)) (aE (eT ["Often"] "keep" aP) a0))) [aD p,none] Ω=aG (.tup [.lst (aK S),.int t]) Ω:=by
   have e2:(kT ["Often"] 0 "tally" fun kvs=>iR false (kvs.map lZ)) [aD p,none] Ω=aG (.lst (aK rs)) Ω:=by
    unfold kT;rw [o];simp [NL]
   have e3:(aE (kT ["Often"] 0 "tally" fun kvs=>iR false (kvs.map lZ)) (aE (eT ["Often"] "keep" aP) a0)) [aD p,none] Ω=aG [.lst (aK rs),.int keep] Ω:=by
    unfold aE;rw [bQ e2,bQ (x:=[A.int keep]) (Ω':=Ω) (by rw [bQ (kp _)];simp)];simp
   unfold aW;rw [bQ e3];simp [eB,c]
  rw [bO (ρ1:=[aD p,some (.tup [.lst (aK S),.int t])]) (Ω':=Ω) (by unfold cM;rw [fQ e1];rfl)];have e4:(uZ ["Often"] 0 "tally" (aW tZ (aE (aC bB aX bM) a0))) [aD p,some (.tup [.lst (aK S),.int t])] Ω=fA [aD p,some (.tup [.lst (aK S),.int t])] (Ω.set p (bD keep many tk S lost)):=by
   have e5:(aW tZ (aE (aC bB aX bM) a0)) [aD p,some (.tup [.lst (aK S),.int t])] Ω=aG (.aB Ω.length) (Ω++[.aU (encD S)]):=by
    have e6:(aE (aC bB aX bM) a0) [aD p,some (.tup [.lst (aK S),.int t])] Ω=aG [.lst (aK S)] Ω:=by simp
    unfold aW;rw [bQ e6];simp only [tZ,aiO,Eb,VY,if_pos (keys_nodup S kK)]
   have ob:xP ["Often"] 0 [aD p,some (.tup [.lst (aK S),.int t])] Ω=some (p,("Often" : Str),dW keep many tk rs lost):=by
    unfold xP;simp [h]
   unfold uZ;rw [ob];simp only [e5,tX,Fd.BB];rw [if_pos ⟨rfl,rfl,by simp,Qv _ _⟩,VP]
  rw [bO e4];have h2:(Ω.set p (bD keep many tk S lost))[p]? = some (bD keep many tk S lost):=gR hp;have ll:(dW keep many tk S lost).lookup ("lost" : Str)=some (.val (.int lost)):=rfl;have e7:(aC bE (eT ["Often"] "lost" aP) (aC bB aX bL)) [aD p,some (.tup [.lst (aK S),.int t])] (Ω.set p (bD keep many tk S lost))=aG (.int (lost+t)) (Ω.set p (bD keep many tk S lost)):=by
   simp [h2,ll]
  unfold lU;rw [fQ e7];rw [fQ (x:=A.aB p) (Ω':=Ω.set p (bD keep many tk S lost)) (by simp)];simp only [h2];rw [if_pos ⟨by simp,by simp⟩,Kh,rF]
 ·have pV:¬(keep:Int)<(rs.length:Int):=by omega
  have nx:gF keep rs=rs:=by unfold gF;rw [if_neg hk]
  refine⟨[aD p,none],?_⟩;rw [nx,SR rs keep hk,Int.add_zero,xE h];unfold IS dZ;rw [fQ ht];simp [pV]
end
section
variable{Ω Ω':aI}{p keep:Nat}{many tk lost:Int}{rs:List Rn}
theorem tI{s:Nat}{ρ:Ev}{fs:List (Str×Fd)}{f:Str}{fv:Ev→Mo A}{b:A}(h0:(ρ[0]?).join=(aD s))(h:Ω[s]? = some (.ins "Often" fs))(hl:fs.length<1000)(hv:fv ρ Ω=aG b Ω):lU ["Often"] f aP fv ρ Ω=fA ρ (Ω.set s (.ins "Often" (putD f (.val b) fs))):=by
 unfold lU;rw [fQ hv];rw [fQ (x:=A.aB s) (Ω':=Ω) (by simp [h0])];simp only [h];rw [if_pos ⟨by simp,hl⟩]
theorem mC{f:Ev→Mo A}{ρ:Ev}{a:A}(h:f ρ Ω=aG a Ω'):jG f ρ Ω=fA ρ Ω':=by
 unfold jG;rw [fQ h]
theorem xF{c:Cell}(hp:p<Ω.length):(Ω.set p c)[p]? = some c:=gR hp
theorem arT(h:Ω[p]? = some (bD keep many tk rs lost))(nd:(rs.map (·.1)).Nodup)(hl:rs.length<63)(n t:Int):RB [.aB p,.int n,.int t] Ω=aG (.bH) (Ω.set p (bD keep many tk (gF keep (bS rs n t)) (lost+taken (bS rs n t) keep))):=by
 have hp:p<Ω.length:=(bX.mp h).1;have q1:=Ua h nd (by omega) n t;have h1:(Ω.set p (bD keep many tk (bS rs n t) lost))[p]? = some (bD keep many tk (bS rs n t) lost):=xF hp;have q2:=Tw h1 (xQ rs n t nd) (by have:=BG rs n t;omega);show trim Ω (fZ (Dh [aD p,aA n,aA t] Ω))=_;unfold Dh;rw [bO (mC (iS h (by rfl) (by rfl) (as:=[.int n,.int t]) (das:=[]) (by simp) (by rfl) (by simpa using q1)))];rw [mC (iS h1 (by rfl) (by rfl) (as:=[]) (das:=[]) (by simp) (by rfl) (by simpa using q2))];simp only [tJ,rF];exact xB (by simp)
theorem Ts(h:Ω[p]? = some (bD keep many tk rs lost))(t:Int)(hm:many+t≤1000000000):JR [.aB p,.int t] Ω=aG (.bH) Ω:=by
 have l:(dW keep many tk rs lost).lookup ("many" : Str)=some (.val (.int many)):=rfl;have hm':¬1000000000<many+t:=by omega
 show trim Ω (fZ (Dd [aD p,aA t] Ω))=_;simp [Dd,h,l,hm']
theorem arV(h:Ω[p]? = some (bD keep many tk rs lost))(nd:(rs.map (·.1)).Nodup)(hl:rs.length<63)(n t:Int)(ht:1≤t)(hm:many+t≤1000000000) :
  JQ [.aB p,.int n,.int t] Ω=aG (.bH) (Ω.set p (bD keep (many+t) (tk+1) (gF keep (bS rs n t)) (lost+taken (bS rs n t) keep))):=by
 have hp:p<Ω.length:=(bX.mp h).1;have q1:=Ts h t hm;have q2:=arT h nd hl n t;generalize gF keep (bS rs n t)=eM at q2;generalize lost+taken (bS rs n t) keep=l2 at q2;have h2:(Ω.set p (bD keep many tk eM l2))[p]? = some (bD keep many tk eM l2):=xF hp;have ht':¬t<1:=by omega
 show trim Ω (fZ (PX [aD p,aA n,aA t] Ω))=_;unfold PX;rw [bO (ρ1:=[aD p,aA n,aA t]) (Ω':=Ω) (by simp [ht'])];rw [bO (mC (iS h (by rfl) (by rfl) (as:=[.int t]) (das:=[]) (by simp) (by rfl) (by simpa using q1)))];rw [bO (mC (iS h (by rfl) (by rfl) (as:=[.int n,.int t]) (das:=[]) (by simp) (by rfl) (by simpa using q2)))];have lm:(dW keep many tk eM l2).lookup ("many" : Str)=some (.val (.int many)):=rfl;rw [bO (tI (b := .int (many+t)) (by rfl) h2 (by simp) (by simp [h2,lm]))];rw [Kg,rF];have h3:(Ω.set p (bD keep (many+t) tk eM l2))[p]? = some (bD keep (many+t) tk eM l2):=xF hp;have lt:(dW keep (many+t) tk eM l2).lookup ("taken" : Str)=some (.val (.int tk)):=rfl;rw [tI (b := .int (tk+1)) (by rfl) h3 (by simp) (by simp [h3,lt])];rw [Kf,rF];simp only [tJ];exact xB (by simp)
theorem arZ(keep:Nat)(Ω:aI):BX "Often" 2 zZ [.int keep] Ω=aG (.aB Ω.length) (Ω++[bD keep 0 0 [] 0]):=by
 have hp:Ω.length<(Ω++[Cell.ins "Often" []]).length:=by simp
 have base:zX [.aB Ω.length,.int keep] (Ω++[.ins "Often" []])=aG (.bH) (Ω++[.ins "Often" [("keep",.val (.int keep)),("many",.val (.int 0)),("taken",.val (.int 0))]]):=by
  show trim _ (fZ (QA [aD Ω.length,aA keep] (Ω++[.ins "Often" []])))=_;unfold QA;rw [bO (tI (b := .int keep) (by rfl) (tX _ _) (by simp) (by simp)),AQ];rw [bO (tI (b := .int 0) (by rfl) (tX _ _) (by exact(show(1:Nat)<1000 by decide)) (by simp)),AQ];rw [tI (b := .int 0) (by rfl) (tX _ _) (by exact(show(2:Nat)<1000 by decide)) (by simp),AQ];simp only [tJ];rw [xB (by simp)];rfl
 have e:zZ [.aB Ω.length,.int keep] (Ω++[.ins "Often" []])=aG (.bH) (Ω++[bD keep 0 0 [] 0]):=by
  show trim _ (fZ (QF [aD Ω.length,aA keep] (Ω++[.ins "Often" []])))=_;unfold QF;rw [bO (mC (a := .bH) (Ω':=Ω++[.ins "Often" [("keep",.val (.int keep)),("many",.val (.int 0)),("taken",.val (.int 0))]]) (by simp [eB,base]))];have e4:(uZ ["Often"] 0 "tally" AJ) [aD Ω.length,aA keep] (Ω++[.ins "Often" [("keep",.val (.int keep)),("many",.val (.int 0)),("taken",.val (.int 0))]])=fA [aD Ω.length,aA keep] (Ω++[.ins "Often" [("keep",.val (.int keep)),("many",.val (.int 0)),("taken",.val (.int 0)),("tally",.aU [])]]):=by
   have ob:xP ["Often"] 0 [aD Ω.length,aA keep] (Ω++[.ins "Often" [("keep",.val (.int keep)),("many",.val (.int 0)),("taken",.val (.int 0))]])=some (Ω.length,("Often" : Str),([("keep",.val (.int keep)),("many",.val (.int 0)),("taken",.val (.int 0))]:List (Str×Fd))):=by
    unfold xP;simp
   unfold uZ;rw [ob];simp only [AJ,tX,Fd.BB];rw [if_pos ⟨rfl,rfl,by simp,by simp [qH,fX]⟩,AQ];rfl
  rw [bO e4];rw [tI (b := .int 0) (by rfl) (tX _ _) (by simp) (by simp),AQ];simp only [tJ];rw [xB (by simp)];rfl
 unfold BX;rw [if_pos (by rfl)];rw [e]
end
section
variable{Ω Ω' uM:aI}{ρ:Ev}
theorem FH{f g:Ev→Mo Bool}(h:f ρ Ω=aG false Ω'):iP f g ρ Ω=g ρ Ω':=by
 unfold iP;rw [bQ h];rfl
theorem WD{f:Ev→Mo Bool}{b:Bool}(h:f ρ Ω=aG b Ω'):lT f ρ Ω=aG (!b) Ω':=by
 unfold lT;rw [bQ h];rfl
theorem jX{f:Ev→Mo A}{b:Bool}(h:f ρ Ω=aG (.bl b) Ω'):bJ f ρ Ω=aG b Ω':=by
 unfold bJ;rw [bQ h];rfl
theorem Lb{g:A→A→Mo A}{f1 f2:Ev→Mo A}{a b:A}{Ω3:aI}{c:A}(h1:f1 ρ Ω=aG a Ω')(h2:f2 ρ Ω'=aG b uM)(h3:g a b uM=aG c Ω3):aC g f1 f2 ρ Ω=aG c Ω3:=by
 unfold aC;rw [bQ h1,bQ h2,h3]
theorem bI{g:A→A→Mo A}{f1 f2:Ev→Mo A}{a b c:A}(h1:f1 ρ Ω=aG a Ω)(h2:f2 ρ Ω=aG b Ω)(h3:g a b Ω=aG c Ω):aC g f1 f2 ρ Ω=aG c Ω:=Lb h1 h2 h3
theorem qV{t:Ev→Mo Bool}{s:MS}(h:t ρ Ω=aG false Ω'):dZ t s fP ρ Ω=fA ρ Ω':=by
 unfold dZ;rw [fQ h];rfl
theorem gZ{f:Ev→Mo A}{i:Nat}{a:A}(h:f ρ Ω=aG a Ω'):cM f (gN i) ρ Ω=fA (ρ.set i (some a)) Ω':=by
 unfold cM;rw [fQ h];rfl
theorem aQ{i:Nat}{a:A}(h:(ρ[i]?).join=some a):dH i ρ Ω=aG a Ω:=by simp [h]
theorem Ei(n:Int)(Ω:aI):uJ [.int n] Ω=aG (.bl true) Ω:=by simp [uJ,Rz]
end
theorem acM(rs:List Rn):(cZ rs).map (·.1)=sortI (rs.map (·.1)):=by
 refine EO ((pO rs).map (·.1)) ?_;have h:=TF (rs.map jY);rw [← TJ,JB]at h;rw [JB];refine h.imp fun{a b} q=>?_;simp only [jY,KS.cU]at q;split at q
 ·rename_i e;omega
 ·simp only [decide_eq_false_iff_not]at q;omega
theorem AV(L:List Int):cS 8 (.lst (L.map A.int))=true:=by simp [cS]
theorem Jn{Ω:aI}{k:Nat}{L:List Int}(h:Ω[k]? = some (.lst (L.map A.int))):res Ω 6 (.aB k)=some (.lst (L.map A.int)):=by
 have hp:(L.map A.int).all (cS 8)=true:=by simp [cS]
 rw [Jo h,WK _ hp];rfl
theorem aiW(q:Ev→Mo A)(hq:q=kG false 2 [] (fY dG) (oX 2 (iU (gN 0) (iU (gN 1) qA))) oG aP)(S:List Rn)(hl:S.length≤1000)(ρ:Ev)(Ω:aI)(k:Nat)(h0:(ρ[3]?).join=(aD k))(g:Ω[k]? = some (.lst (aK S))):q ρ Ω=aG (.lst ((S.map (·.1)).map A.int)) Ω:=by
 have gi:dF Ω (.aB k)=some (aK S):=lW g;have hk:k<Ω.length:=(bX.mp g).1;have eF:(aK S).filterMap (fun a=>match a with | .tup [x,_]=>some x | _=>none)=(S.map (·.1)).map A.int:=by
  simp only [aK,Ez,uF];rw [← Ug];rfl
 rw [← eF,hq];refine AI (S:=srcOf (.aB k) (aK S)) _ (fun ρ=>∃u v,ρ=[u,v]) (by simp [h0,gi]) (fun ys=>by
  show fH (Ω++[.lst ys]) (.aB k)=some (aK S);exact lW (by rw [fV hk];exact g)) ⟨none,none,rfl⟩ (by simp [aK];omega) ?_ (by
  show fX _ (List.filterMap _ (aK S));rw [eF];exact zE fun a h=>by obtain⟨r,_,rfl⟩:=mG.mp h;simp only [Cl])
 rintro x hx ρ ⟨u,v,rfl⟩ ys;obtain⟨r,_,rfl⟩:=mG.mp hx;exact⟨[aA r.1,aA r.2],⟨_,_,rfl⟩,by simp [eW],.inl ⟨_,rfl,rfl,by simp [eW]⟩⟩
theorem aiU(q:Ev→Mo A)(hq:q=kG false 2 [] (fY dG) (oX 2 (iU (gN 0) (iU (gN 1) qA))) oG aX)(S:List Rn)(hl:S.length≤1000)(ρ:Ev)(Ω:aI)(k:Nat)(h0:(ρ[3]?).join=(aD k))(g:Ω[k]? = some (.lst (aK S))):q ρ Ω=aG (.lst ((S.map (·.2)).map A.int)) Ω:=by
 have gi:dF Ω (.aB k)=some (aK S):=lW g;have hk:k<Ω.length:=(bX.mp g).1;have eF:(aK S).filterMap (fun a=>match a with | .tup [_,x]=>some x | _=>none)=(S.map (·.2)).map A.int:=by
  simp only [aK,Ez,uF];rw [← Ug];rfl
 rw [← eF,hq];refine AI (S:=srcOf (.aB k) (aK S)) _ (fun ρ=>∃u v,ρ=[u,v]) (by simp [h0,gi]) (fun ys=>by
  show fH (Ω++[.lst ys]) (.aB k)=some (aK S);exact lW (by rw [fV hk];exact g)) ⟨none,none,rfl⟩ (by simp [aK];omega) ?_ (by
  show fX _ (List.filterMap _ (aK S));rw [eF];exact zE fun a h=>by obtain⟨r,_,rfl⟩:=mG.mp h;simp only [Cl])
 rintro x hx ρ ⟨u,v,rfl⟩ ys;obtain⟨r,_,rfl⟩:=mG.mp hx;exact⟨[aA r.1,aA r.2],⟨_,_,rfl⟩,by simp [eW],.inl ⟨_,rfl,rfl,by simp [eW]⟩⟩
theorem Qo(ok:aI→Prop)(Ω:aI)(aH:ok Ω)(x0 x1 x2 x3 x5 x6:Option A):∀(S:List Rn) (y:Option A),(∀r∈S,1≤r.2)→∃y',dO ok (gN 4) Dc (aK S) [x0,x1,x2,x3,y,x5,x6] Ω=fA [x0,x1,x2,x3,y',x5,x6] Ω
 | [],y,_=>⟨y,by simp [aK,dO,aH]⟩
 | r::S,y,hp=>by
  obtain⟨y',q⟩:=Qo ok Ω aH x0 x1 x2 x3 x5 x6 S (some (eW r)) fun r hr=>hp r (by simp [hr]);refine⟨y',?_⟩;rw [← q];have h1:¬r.2<1:=by have:=hp r (by simp);omega
  refine yW (ρ0:=[x0,x1,x2,x3,some (eW r),x5,x6]) (Ω0:=Ω) aH (by simp) ?_;simp [Dc,eW,eB,Ei,h1]
theorem ar5{Ω:aI}{p keep:Nat}{many tk lost:Int}{rs:List Rn}(h:Ω[p]? = some (bD keep many tk rs lost))(nd:(rs.map (·.1)).Nodup)(hp:∀r∈rs,1≤r.2)(hl:rs.length<64)(hk:rs.length≤keep)(iI:keep≤1000)(h0:0≤lost)(hs:lost*((keep:Int)+1)+dM rs≤many) :
  Fq [.aB p,.int keep,.int many] Ω=aG (.aB (Ω.length+2)) (Ω++[.lst (aK (cZ rs)),.lst ((sortI (rs.map (·.1))).map A.int),.aU (encD (cZ rs))]):=by
 have q1:=Tx h hl;have GU:=acN rs;have GP:=Iw rs;have Nk:=acM rs;have Nh:∀r∈cZ rs,1≤r.2:=fun r hr=>hp r ((pO rs).mem_iff.mp hr);have kK:((cZ rs).map (·.1)).Nodup:=((pO rs).map (·.1)).nodup_iff.mpr nd;have Nd:dM (cZ rs)=dM rs:=LN (pO rs);generalize cZ rs=S at q1 GU GP Nk Nh kK Nd;have Ng:p<Ω.length:=(bX.mp h).1;have g1:(Ω++[Cell.lst (aK S)])[Ω.length]? = some (.lst (aK S)):=by simp
 have h1:(Ω++[Cell.lst (aK S)])[p]? = some (bD keep many tk rs lost):=by rw [fV Ng];exact h
 have l1:(Ω++[Cell.lst (aK S)]).length=Ω.length+1:=by simp
 have q2:=IZ h1;have q3:=ar2 h1;have q4:=Tq h1 nd hl;rw [l1,Fc,List.singleton_append]at q4;have h2:(Ω++[Cell.lst (aK S),.lst ((sortI (rs.map (·.1))).map A.int)])[p]? = some (bD keep many tk rs lost):=by rw [fV Ng];exact h
 have q5:=ar0 h2;have g2:(Ω++[Cell.lst (aK S),.lst ((sortI (rs.map (·.1))).map A.int)])[Ω.length]? = some (.lst (aK S)):=by simp
 have g3:(Ω++[Cell.lst (aK S),.lst ((sortI (rs.map (·.1))).map A.int)])[Ω.length+1]? = some (.lst ((sortI (rs.map (·.1))).map A.int)):=by
  rw [nP (by omega)];simp
 have gi:dF (Ω++[Cell.lst (aK S)]) (.aB Ω.length)=some (aK S):=lW g1;have ty:=Wj g1;have hlen:(aK S).length=rs.length:=by simp [aK,GP]
 have Mz:=LC S;have nH:=Ca S;rw [GU]at nH;have NP:(S.map jY).length<64:=by rw [eG];omega
 have n1:iY (.aB Ω.length) (.lst (aK S)) (Ω++[Cell.lst (aK S)])=aG (.bl false) (Ω++[Cell.lst (aK S)]):=Be (ad2 g1) (vB (Kk S)) (Kk S);generalize S.map jY=us at Mz nH NP;show trim Ω (fZ (PU [aD p,aA keep,aA many,none,none,none,none] Ω))=_;obtain⟨y4,lp⟩:=Qo (fun Ω'=>fH Ω' (.aB Ω.length)=some (aK S)) (Ω++[Cell.lst (aK S)]) (by simpa using gi) (aD p) (aA keep) (aA many) (aD Ω.length) none none S none Nh;have NX:¬(keep:Int)<(rs.length:Int):=by omega
 suffices hh:∃ρ',PU [aD p,aA keep,aA many,none,none,none,none] Ω=some (.ret (.aB (Ω.length+2)),ρ',Ω++[.lst (aK S),.lst ((sortI (rs.map (·.1))).map A.int),.aU (encD S)])by
  obtain⟨ρ',e⟩:=hh;rw [e];simp [trim,Cl]
 refine⟨[aD p,aA keep,aA many,aD Ω.length,y4,aJ ((S.map (·.1)).map A.int),aA lost],?_⟩;unfold PU;rw [bO (gZ (iS h (by rfl) (by rfl) (as:=[]) (das:=[]) (by simp) (by rfl) (by simpa using q1)))];simp only [iM,iL];rw [bO (ρ1:=[aD p,aA keep,aA many,aD Ω.length,none,none,none]) (Ω':=Ω++[Cell.lst (aK S)]) (by simp [ty,gi,Mz,NP,nH,n1,hlen,NX])];rw [bO (ρ1:=[aD p,aA keep,aA many,aD Ω.length,y4,none,none]) (Ω':=Ω++[Cell.lst (aK S)]) (by
  rw [vY (S:=srcOf (.aB Ω.length) (aK S)) (Ω':=Ω++[Cell.lst (aK S)]) (by simp [gi])];exact lp)]
 rw [bO (gZ (aiW Sb rfl S (by omega) _ _ Ω.length rfl g1))];simp only [iM,iL];rw [bO (gZ (iS h1 (by rfl) (by rfl) (as:=[]) (das:=[]) (by simp) (by rfl) (by simpa using q2)))];simp only [iM,iL];have t1:(iP (bJ (aC iY (EE dJ) (aW iK (aE dJ a0)))) (iP (lT (bJ (aW (eB 1 uJ) (aE fF a0)))) (bJ (aC HR fF bM)))) [aD p,aA keep,aA many,aD Ω.length,y4,aJ ((S.map (·.1)).map A.int),aA lost] (Ω++[Cell.lst (aK S)])=aG false (Ω++[Cell.lst (aK S)]):=by
  have e1:EE dJ [aD p,aA keep,aA many,aD Ω.length,y4,aJ ((S.map (·.1)).map A.int),aA lost] (Ω++[Cell.lst (aK S)])=aG (.int rs.length) (Ω++[Cell.lst (aK S)]):=by
   unfold EE;rw [bQ (aQ (a := .lst ((S.map (·.1)).map A.int)) rfl)];have e3:(dF (Ω++[Cell.lst (aK S)]) (.lst ((S.map (·.1)).map A.int))).bind intsOf=some (S.map (·.1)):=by
    show intsOf ((S.map (·.1)).map A.int)=_;exact vM _
   simp only [e3,Qe kK];rw [if_pos (by simp;omega)];simp [GP]
  rw [FH (jX (b:=false) (bI e1 (b := .int rs.length) (by simp [GP]) (by simp)))];have h00:¬lost<0:=by omega
  simp [eB,Ei,h00]
 rw [bO (qV t1)];have t2:(bJ (aC oY (aC bE (aC (fD) fF (aC bE aX bL)) (aW pZ (aE PR a0))) bT)) [aD p,aA keep,aA many,aD Ω.length,y4,aJ ((S.map (·.1)).map A.int),aA lost] (Ω++[Cell.lst (aK S)])=aG false (Ω++[Cell.lst (aK S)]):=by
  have c1:kE lost ((keep:Int)+1):=Ci (by omega) (by omega);have e2:=aiU PR rfl S (by omega) [aD p,aA keep,aA many,aD Ω.length,y4,aJ ((S.map (·.1)).map A.int),aA lost] (Ω++[Cell.lst (aK S)]) Ω.length rfl g1;have e3:(aW pZ (aE PR a0)) [aD p,aA keep,aA many,aD Ω.length,y4,aJ ((S.map (·.1)).map A.int),aA lost] (Ω++[Cell.lst (aK S)])=aG (.int (dM rs)) (Ω++[Cell.lst (aK S)]):=by
   unfold aW;rw [bQ (x:=[A.lst ((S.map (·.2)).map A.int)]) (Ω':=Ω++[Cell.lst (aK S)]) (by unfold aE;rw [bQ e2];simp)];have e4:(dF (Ω++[Cell.lst (aK S)]) (.lst ((S.map (·.2)).map A.int))).bind intsOf=some (S.map (·.2)):=by
    show intsOf ((S.map (·.2)).map A.int)=_;exact vM _
   simp only [pZ,e4,LO,Nd]
  have jJ:¬many<lost*((keep:Int)+1)+dM rs:=by omega
  generalize hx:lost*((keep:Int)+1)=x at jJ;refine jX (bI (a := .int (x+dM rs)) (b := .int many) (bI (a := .int x) (b := .int (dM rs)) ?_ e3 (by simp)) (by simp) (by simp [jJ]));refine bI (a := .int lost) (b := .int ((keep:Int)+1)) (by simp) (by simp) ?_;simp [gI,c1,hx]
 rw [bO (qV t2)];have t3:(iP (bJ (aC iY (cP "held" [("Often",cK 1 [] JT)] aP a0) (aW iK (aE dG a0)))) (iP (bJ (aC iY (cP "numbers" [("Often",cK 1 [] DL)] aP a0) dJ)) (bJ (aC iY (cP "length" [("Often",cK 1 [] JS)] aP a0) bT)))) [aD p,aA keep,aA many,aD Ω.length,y4,aJ ((S.map (·.1)).map A.int),aA lost] (Ω++[Cell.lst (aK S)])=aG false (Ω++[Cell.lst (aK S),.lst ((sortI (rs.map (·.1))).map A.int)]):=by
  rw [FH (jX (b:=false) (bI (iS h1 (by rfl) (by rfl) (as:=[]) (das:=[]) (by simp) (by rfl) (by simpa using q3)) (b := .int rs.length) (by simp [gi,hlen]) (by simp)))];have n2:iY (.aB (Ω.length+1)) (.lst ((S.map (·.1)).map A.int)) (Ω++[Cell.lst (aK S),.lst ((sortI (rs.map (·.1))).map A.int)])=aG (.bl false) (Ω++[Cell.lst (aK S),.lst ((sortI (rs.map (·.1))).map A.int)]):=by
   rw [Nk];exact Be (Jn g3) (vB (AV _)) (AV _)
  rw [FH (jX (b:=false) (Lb (iS h1 (by rfl) (by rfl) (as:=[]) (das:=[]) (by simp) (by rfl) (by simpa using q4)) (aQ (a := .lst ((S.map (·.1)).map A.int)) rfl) n2))];exact jX (bI (iS h2 (by rfl) (by rfl) (as:=[]) (das:=[]) (by simp) (by rfl) (by simpa using q5)) (aQ (a := .int many) rfl) (by simp))
 rw [bO (qV t3)];have e9:(aW tZ (aE dG a0)) [aD p,aA keep,aA many,aD Ω.length,y4,aJ ((S.map (·.1)).map A.int),aA lost] (Ω++[Cell.lst (aK S),.lst ((sortI (rs.map (·.1))).map A.int)])=aG (.aB (Ω.length+2)) (Ω++[.lst (aK S),.lst ((sortI (rs.map (·.1))).map A.int),.aU (encD S)]):=by
  unfold aW;rw [bQ (x:=[A.aB Ω.length]) (Ω':=Ω++[Cell.lst (aK S),.lst ((sortI (rs.map (·.1))).map A.int)]) (by simp)];simp only [tZ,lW g2,Eb,VY,if_pos (keys_nodup S kK)];simp
 unfold dE;rw [fQ e9]
section
variable{Ω:aI}{ρ:Ev}
theorem Bx{i j k:Nat}{rs:List Rn}{n:Int}(h0:(ρ[i]?).join=(aD k))(h:Ω[k]? = some (.aU (encD rs)))(h1:(ρ[j]?).join=(aA n)):iW (dH i) (dH j) bM ρ Ω=aG (.int (aR rs n)) Ω:=by
 have cd:gO Ω (.aB k)=some (k,encD rs):=pC h;unfold iW;rw [bQ (aQ h0)];rw [if_pos ⟨_,_,cd⟩];rw [bQ (aQ h1)];rw [bQ (x := .int 0) (Ω':=Ω) (by simp)];simp only [HS,cd,lY,KU]
theorem bR{f:Ev→Mo A}{fs:Ev→Mo (List A)}{a:A}{as:List A}(h:f ρ Ω=aG a Ω)(hs:fs ρ Ω=aG as Ω):aE f fs ρ Ω=aG (a::as) Ω:=by
 unfold aE;rw [bQ h,bQ hs];rfl
theorem eU:a0 ρ Ω=aG [] Ω:=rfl
theorem acP{a b:List Int}(h:a.Perm b):sortI a=sortI b:=EO ((sortI_perm a).trans h) (TK a)
theorem ar6{p keep kd q:Nat}{many tk lost:Int}{rs S ws:List Rn}(h:Ω[p]? = some (bD keep many tk rs lost))(hS:Ω[kd]? = some (.aU (encD S)))(hw:Ω[q]? = some (.aU (encD ws)))(n:Int)
  (e1:aR S n=aR rs n) (e2:aR rs n≤aR ws n) (e3:aR ws n≤aR rs n+lost) (e4:aR rs n+lost≤many):JP [.aB p,.aB kd,.aB q,.int n,.int many] Ω=aG (.bl true) Ω:=by
 have h2:(2:Nat)≤sizeLine:=by decide
 have q1:=Tz h n;have q2:=IZ h;have g1:∀x5 x6:Option A,iW aX dG bM [aD p,aD kd,aD q,aA n,aA many,x5,x6] Ω=aG (.int (aR rs n)) Ω:=fun x5 x6=>by
  rw [Bx (k:=kd) (rs:=S) (n:=n) rfl hS rfl,e1]
 have g2:∀x5 x6:Option A,iW bT dG bM [aD p,aD kd,aD q,aA n,aA many,x5,x6] Ω=aG (.int (aR ws n)) Ω:=fun x5 x6=>Bx rfl hw rfl;generalize aR rs n=low at q1 g1 e2 e3 e4;generalize aR ws n=here at g2 e2 e3;show trim Ω (fZ (PV [aD p,aD kd,aD q,aA n,aA many,none,none] Ω))=_
 suffices hh:∃ρ',PV [aD p,aD kd,aD q,aA n,aA many,none,none] Ω=some (.ret (.bl true),ρ',Ω)by
  obtain⟨ρ',e⟩:=hh;rw [e];simp
 refine⟨[aD p,aD kd,aD q,aA n,aA many,some (.tup [.int low,.int (low+lost)]),aA low],?_⟩;unfold PV;rw [bO (gZ (iS h (by rfl) (by rfl) (as:=[.int n]) (das:=[]) (by simp) (by rfl) (by simpa using q1)))];simp only [iM,iL];rw [bO (ρ1:=[aD p,aD kd,aD q,aA n,aA many,some (.tup [.int low,.int (low+lost)]),none]) (Ω':=Ω) (by simp [eB,Ei])];rw [bO (gZ (g1 _ _))];simp only [iM,iL];have t1:(bJ (aC iY dJ (sW (aE fF (aE (aW rA (aE cL (aE (aC bE fF (cP "off" [("Often",cK 1 [] mH)] aP a0)) a0))) a0))))) [aD p,aD kd,aD q,aA n,aA many,some (.tup [.int low,.int (low+lost)]),aA low] Ω=aG false Ω:=by
  have m1:(cP "off" [("Often",cK 1 [] mH)] aP a0) [aD p,aD kd,aD q,aA n,aA many,some (.tup [.int low,.int (low+lost)]),aA low] Ω=aG (.int lost) Ω:=iS h (by rfl) (by rfl) (as:=[]) (das:=[]) (by simp) (by rfl) (by simpa using q2);have m2:(aW rA (aE cL (aE (aC bE fF (cP "off" [("Often",cK 1 [] mH)] aP a0)) a0))) [aD p,aD kd,aD q,aA n,aA many,some (.tup [.int low,.int (low+lost)]),aA low] Ω=aG (.int (low+lost)) Ω:=by
   have m3:(aC bE fF (cP "off" [("Often",cK 1 [] mH)] aP a0)) [aD p,aD kd,aD q,aA n,aA many,some (.tup [.int low,.int (low+lost)]),aA low] Ω=aG (.int (low+lost)) Ω:=bI (aQ (a := .int low) rfl) m1 (by simp);unfold aW;rw [bQ (bR (aQ (a := .int many) rfl) (bR m3 eU))];simp only [rA,VB];rw [Int.min_eq_right e4]
  have m4:(sW (aE fF (aE (aW rA (aE cL (aE (aC bE fF (cP "off" [("Often",cK 1 [] mH)] aP a0)) a0))) a0))) [aD p,aD kd,aD q,aA n,aA many,some (.tup [.int low,.int (low+lost)]),aA low] Ω=aG (.tup [.int low,.int (low+lost)]) Ω:=by
   unfold sW;rw [bQ (bR (aQ (a := .int low) rfl) (bR m2 eU))];simp [h2]
  exact jX (bI (aQ (a := .tup [.int low,.int (low+lost)]) rfl) m4 (Ou (by simp [cS])))
 rw [bO (qV t1)];unfold dE;have c1:(EG yQ yQ (aC bB dJ bM) (iW bT dG bM) (aC bB dJ bL)) [aD p,aD kd,aD q,aA n,aA many,some (.tup [.int low,.int (low+lost)]),aA low] Ω=aG (.bl true) Ω:=by
  unfold EG;rw [bQ (x := .int low) (Ω':=Ω) (by simp),bQ (g2 _ _)];simp [e2,e3]
 rw [fQ c1]
theorem Bp(p:Int→Bool)(F:A→Option A)(hF:∀n,F (.int n)=if p n=true then(aA n)else none):∀L:List Int,(L.map A.int).filterMap F=(L.filter p).map A.int
 | []=>rfl
 | n::L=>by
  have ih:=Bp p F hF L;rw [cX,Fb,hF n]
  by_cases h:p n=true
  ·rw [if_pos h,List.filter_cons_of_pos h];simp only [ih,cX]
  ·rw [if_neg h,List.filter_cons_of_neg h];simp only [ih]
theorem OX(n:Nat)(L:List Int):fX n (L.map A.int):=zE fun a h=>by obtain⟨r,_,rfl⟩:=mG.mp h;simp only [Cl]
theorem arX{p keep:Nat}{many tk lost:Int}{rs:List Rn}(h:Ω[p]? = some (bD keep many tk rs lost))(nd:(rs.map (·.1)).Nodup)(hl:rs.length<64)(least:Int) :
  RC [.aB p,.int least] Ω=aG (.lst (((sortI (rs.map (·.1))).filter fun n=>decide (least≤aR rs n+lost)).map A.int)) Ω:=by
 have hp:p<Ω.length:=(bX.mp h).1;have q1:=Tq h nd hl;generalize hL:sortI (rs.map (·.1))=L at q1;have hLl:L.length<64:=by rw [← hL,ER,eG];exact hl
 show trim Ω (fZ (QC [aD p,aA least] Ω))=_;have eF:=Bp (fun n=>decide (least≤aR rs n+lost)) (fun a=>match a with | .int n=>if decide (least≤aR rs n+lost)=true then(aA n)else none | _=>none) (fun n=>rfl) L;have e:Dj [aD p,aA least] Ω=aG (.lst ((L.filter fun n=>decide (least≤aR rs n+lost)).map A.int)) (Ω++[.lst (L.map A.int)]):=by
  rw [← eF];unfold Dj;have g:(Ω++[Cell.lst (L.map A.int)])[Ω.length]? = some (.lst (L.map A.int)):=by simp
  refine AI (S:=srcOf (.aB Ω.length) (L.map A.int)) (Ω0:=Ω++[.lst (L.map A.int)]) _ (fun ρ=>∃u,ρ=[u,aD p,aA least]) ?_ (fun ys=>?_) ?_ (by simp;omega) ?_ ?_
  ·unfold fY;rw [bQ (iS h (by rfl) (by rfl) (as:=[]) (das:=[]) (by simp) (by rfl) (by simpa using q1))];simp [lW g]
  ·show fH (Ω++[.lst (L.map A.int)]++[.lst ys]) (.aB Ω.length)=some (L.map A.int);exact lW (by rw [fV (by simp)];exact g)
  ·exact⟨none,rfl⟩
  ·rintro x hx ρ ⟨u,rfl⟩ ys;obtain⟨n,_,rfl⟩:=mG.mp hx;have h2:(Ω++[Cell.lst (L.map A.int)]++[.lst ys])[p]? = some (bD keep many tk rs lost):=by
    rw [fV (by simp;omega),fV hp];exact h
   have q2:=Tz h2 n;generalize Ω++[Cell.lst (L.map A.int)]++[.lst ys]=Ω2 at h2 q2;have m1:(cP "counted" [("Often",cK 2 [] zY)] aX (aE aP a0)) [aA n,aD p,aA least] Ω2=aG (.tup [.int (aR rs n),.int (aR rs n+lost)]) Ω2:=iS h2 (by rfl) (by rfl) (as:=[.int n]) (das:=[]) (by simp) (by rfl) (by simpa using q2);have m2:(bJ (aC BZ (aC bB (cP "counted" [("Often",cK 2 [] zY)] aX (aE aP a0)) bL) bT)) [aA n,aD p,aA least] Ω2=aG (decide (least≤aR rs n+lost)) Ω2 :=
    jX (bI (bI m1 (b := .int 1) (by simp) (c := .int (aR rs n+lost)) (by simp)) (aQ (a := .int least) rfl) (by simp))
   refine⟨[aA n,aD p,aA least],⟨_,rfl⟩,by simp,?_⟩
   by_cases hc:least≤aR rs n+lost
   ·exact .inl ⟨.int n,by simp [hc],by rw [m2];simp [hc],by simp⟩
   ·exact .inr ⟨by simp [hc],by rw [m2];simp [hc]⟩
  ·show fX _ (List.filterMap _ (L.map A.int));rw [eF];exact OX _ _
 have e2:QC [aD p,aA least] Ω=some (.ret (.lst ((L.filter fun n=>decide (least≤aR rs n+lost)).map A.int)),[aD p,aA least],Ω++[.lst (L.map A.int)]):=by
  unfold QC dE;rw [fQ e]
 rw [e2];simp only [BA];exact LG (by simp only [Cl];exact OX _ _)
theorem anE(n:Int)(L:List Int):BW true (.int n) (.lst (L.map A.int)) Ω=aG (.bl (!decide (n∈L))) Ω:=by
 have r1:res Ω 6 (.int n)=(aA n):=vB (by simp [cS]);have r2:res Ω 6 (.lst (L.map A.int))=some (.lst (L.map A.int)):=vB (AV L);have p1:cS 7 (.int n)=true:=by simp [cS]
 have ea:((L.map A.int).any fun d=>fL 7 d (.int n))=decide (n∈L):=by
  rw [List.any_map];have e0:∀m:Int,((fun d=>fL 7 d (.int n)) ∘ A.int) m=decide (m=n):=fun m=>by
   simp only [Function.comp,fL]
   by_cases Ni:m=n
   ·simp [Ni]
   ·simp [Ni]
  rw [show((fun d=>fL 7 d (.int n)) ∘ A.int)=fun m=>decide (m=n)from funext e0];clear r2
  induction L with
  | nil=>rfl
  | cons m L ih =>
   rw [QQ,ih]
   by_cases hm:m=n
   ·simp [hm]
   ·have:¬n=m:=fun z=>hm z.symm;simp [hm,this]
 unfold BW;rw [r1,r2];simp only [p1,AV L,Bool.and_self,jI,ea]
theorem ahA{kd:Nat}{S:List Rn}(hS:Ω[kd]? = some (.aU (encD S)))(hl:S.length<64)(least many lost:Int)(hm:∀n,aR S n+lost≤many)(x0 x2 x5 x7 x8:Option A) :
  Cy [x0,aD kd,x2,aA least,aA many,x5,aA lost,x7,x8] Ω=aG (.lst (((sortI (S.map (·.1))).filter fun n=>decide (least≤aR S n+lost)).map A.int)) Ω:=by
 have hk:kd<Ω.length:=(bX.mp hS).1;have cd:gO Ω (.aB kd)=some (kd,encD S):=pC hS;have eF:=Bp (fun n=>decide (least≤aR S n+lost)) (fun a=>match a with | .int n=>if decide (least≤aR S n+lost)=true then(aA n)else none | _=>none) (fun n=>rfl) (sortI (S.map (·.1)));have yI:∀n∈sortI (S.map (·.1)),n∈S.map (·.1):=fun n hn=>(sortI_perm _).mem_iff.mp hn;rw [← eF];unfold Cy;refine AI (S:=srcOf (.lst ((sortI (S.map (·.1))).map A.int)) ((sortI (S.map (·.1))).map A.int)) (Ω0:=Ω) _ (fun ρ=>∃u,ρ=[u,aD kd,aA least,aA many,aA lost]) ?_ (fun ys=>by simp) ?_ (by simp [ER];omega) ?_ ?_
 ·have k1:(rM false aX) [x0,aD kd,x2,aA least,aA many,x5,aA lost,x7,x8] Ω=aG (.lst ((S.map (·.1)).map A.int)) Ω:=by
   unfold rM;rw [bQ (aQ (a := .aB kd) rfl)];simp only [cd,YH];rfl
  have k2:(aW (HQ false) (aE (rM false aX) a0)) [x0,aD kd,x2,aA least,aA many,x5,aA lost,x7,x8] Ω=aG (.lst ((sortI (S.map (·.1))).map A.int)) Ω:=by
   unfold aW;rw [bQ (x:=[A.lst ((S.map (·.1)).map A.int)]) (Ω':=Ω) (by unfold aE;rw [bQ k1];simp)];have e3:(dF Ω (.lst ((S.map (·.1)).map A.int))).bind intsOf=some (S.map (·.1)):=by
    show intsOf ((S.map (·.1)).map A.int)=_;exact vM _
   simp only [HQ,e3];rw [if_pos (by simpa using hl)];rfl
  unfold fY;rw [bQ k2];simp
 ·exact⟨none,rfl⟩
 ·rintro x hx ρ ⟨u,rfl⟩ ys;obtain⟨n,hn,rfl⟩:=mG.mp hx;have mS:=yI n hn;have h2:(Ω++[Cell.lst ys])[kd]? = some (.aU (encD S)):=by rw [fV hk];exact hS
  generalize Ω++[Cell.lst ys]=Ω2 at h2;have cd2:gO Ω2 (.aB kd)=some (kd,encD S):=pC h2;have d1:(aC vX aX aP) [aA n,aD kd,aA least,aA many,aA lost] Ω2=aG (.int (aR S n)) Ω2 :=
   bI (aQ (a := .aB kd) rfl) (aQ (a := .int n) rfl) (by simp only [vX,cd2,lY,SA,if_pos mS])
  have d2:(aW rA (aE dG (aE (aC bE (aC vX aX aP) cL) a0))) [aA n,aD kd,aA least,aA many,aA lost] Ω2=aG (.int (aR S n+lost)) Ω2:=by
   have d3:(aC bE (aC vX aX aP) cL) [aA n,aD kd,aA least,aA many,aA lost] Ω2=aG (.int (aR S n+lost)) Ω2:=bI d1 (aQ (a := .int lost) rfl) (by simp);unfold aW;rw [bQ (bR (aQ (a := .int many) rfl) (bR d3 eU))];simp only [rA,VB];rw [Int.min_eq_right (hm n)]
  have m2:(bJ (aC BZ (aW rA (aE dG (aE (aC bE (aC vX aX aP) cL) a0))) bT)) [aA n,aD kd,aA least,aA many,aA lost] Ω2=aG (decide (least≤aR S n+lost)) Ω2 :=
   jX (bI d2 (aQ (a := .int least) rfl) (by simp))
  refine⟨[aA n,aD kd,aA least,aA many,aA lost],⟨_,rfl⟩,by simp,?_⟩
  by_cases hc:least≤aR S n+lost
  ·exact .inl ⟨.int n,by simp [hc],by rw [m2];simp [hc],by simp⟩
  ·exact .inr ⟨by simp [hc],by rw [m2];simp [hc]⟩
 ·show fX _ (List.filterMap _ ((sortI (S.map (·.1))).map A.int));rw [eF];exact OX _ _
theorem Lc(found:List Int)(least lost:Int)(x0 x1 x2 x4:Option A)(Ω:aI):∀(ws:List Rn) (y z:Option A),(∀r∈ws,least≤r.2→lost<r.2→r.1∈found)→∃y' z',dO (fun _=>True) (oX 2 (iU (gN 7) (iU (gN 8) qA))) PK (aK ws) [x0,x1,x2,aA least,x4,aJ (found.map A.int),aA lost,y,z] Ω=fA [x0,x1,x2,aA least,x4,aJ (found.map A.int),aA lost,y',z'] Ω
 | [],y,z,_=>⟨y,z,by simp [aK,dO]⟩
 | r::ws,y,z,hp=>by
  obtain⟨y',z',q⟩:=Lc found least lost x0 x1 x2 x4 Ω ws (aA r.1) (aA r.2) fun r hr=>hp r (by simp [hr]);refine⟨y',z',?_⟩;rw [← q];have h1:=hp r (by simp);refine yW (ρ0:=[x0,x1,x2,aA least,x4,aJ (found.map A.int),aA lost,aA r.1,aA r.2]) (Ω0:=Ω) trivial (by simp [eW]) ?_;have gm:=anE (Ω:=Ω) r.1 found;unfold PK;refine qV ?_
  by_cases a1:least≤r.2
  ·by_cases a2:lost<r.2
   ·have a3:=h1 a1 a2;simp [a1,a2,gm,a3]
   ·simp [a1,a2]
  ·simp [a1]
theorem arW{p keep kd q:Nat}{many tk lost:Int}{rs S ws:List Rn}(h:Ω[p]? = some (bD keep many tk rs lost))(hS:Ω[kd]? = some (.aU (encD S)))(hw:Ω[q]? = some (.aU (encD ws)))(nd:(rs.map (·.1)).Nodup)(hl:rs.length<64)(yN:S.Perm rs)(hm:∀n,aR rs n+lost≤many)
  (sV:(ws.map (·.1)).Nodup) (tT:∀n,aR ws n≤aR rs n+lost) (least:Int):QX [.aB p,.aB kd,.aB q,.int least,.int many] Ω=aG (.bl true) Ω:=by
 have q1:=arX h nd hl least;have q2:=IZ h;have kK:(S.map (·.1)).Nodup:=(yN.map (·.1)).nodup_iff.mpr nd;have ec:∀n,aR S n=aR rs n:=fun n=>IE yN kK n;have q3:=fun x0 x2 x5 x7 x8=>ahA hS (by rw [yN.length_eq];exact hl) least many lost (fun n=>by rw [ec n];exact hm n) x0 x2 x5 x7 x8;have eS:sortI (S.map (·.1))=sortI (rs.map (·.1)):=acP (yN.map (·.1));have eP:(fun n=>decide (least≤aR S n+lost))=fun n=>decide (least≤aR rs n+lost):=funext fun n=>by rw [ec n]
 rw [eS,eP]at q3;have hf:∀r∈ws,least≤r.2→lost<r.2→r.1∈(sortI (rs.map (·.1))).filter fun n=>decide (least≤aR rs n+lost):=fun r hr a1 a2=>by
  have c1:=OW sV hr;have c2:=tT r.1;refine List.mem_filter.mpr ⟨(sortI_perm _).mem_iff.mpr (Qq (by omega)),?_⟩;simp only [CI];omega
 generalize ((sortI (rs.map (·.1))).filter fun n=>decide (least≤aR rs n+lost))=found at q1 q3 hf;have hq:q<Ω.length:=(bX.mp hw).1;show trim Ω (fZ (PL [aD p,aD kd,aD q,aA least,aA many,none,none,none,none] Ω))=_
 suffices hh:∃ρ',PL [aD p,aD kd,aD q,aA least,aA many,none,none,none,none] Ω=some (.ret (.bl true),ρ',Ω)by
  obtain⟨ρ',e⟩:=hh;rw [e];simp
 obtain⟨y',z',lp⟩:=Lc found least lost (aD p) (aD kd) (aD q) (aA many) (Ω.set q .dead) ws none none hf;refine⟨[aD p,aD kd,aD q,aA least,aA many,aJ (found.map A.int),aA lost,y',z'],?_⟩;unfold PL;rw [bO (gZ (iS h (by rfl) (by rfl) (as:=[.int least]) (das:=[]) (by simp) (by rfl) (by simpa using q1)))];simp only [iM,iL];rw [bO (gZ (iS h (by rfl) (by rfl) (as:=[]) (das:=[]) (by simp) (by rfl) (by simpa using q2)))];simp only [iM,iL];rw [bO (qV (jX (bI (aQ (a := .lst (found.map A.int)) rfl) (q3 _ _ _ _ _) (Ou (AV _)))))];have e1:(EY 2 (oX 2 (iU (gN 7) (iU (gN 8) qA))) PK) [aD p,aD kd,aD q,aA least,aA many,aJ (found.map A.int),aA lost,none,none] Ω=fA [aD p,aD kd,aD q,aA least,aA many,aJ (found.map A.int),aA lost,y',z'] Ω:=by
  have cd:gO Ω (.aB q)=some (q,encD ws):=pC hw;unfold EY;simp only [Ey,List.getElem?_cons_zero,Option.join_some,cd,NL];rw [lp];simp only [SQ,gR hq,rF];rw [xE hw]
 rw [bO e1];simp
end
section
variable{Ω Ω':aI}{ρ:Ev}
theorem arG{f g:Ev→Mo Bool}(h:f ρ Ω=aG false Ω'):uS f g ρ Ω=aG false Ω':=by
 unfold uS;rw [bQ h];rfl
theorem arF{f g:Ev→Mo Bool}(h:f ρ Ω=aG true Ω'):uS f g ρ Ω=g ρ Ω':=by
 unfold uS;rw [bQ h];rfl
theorem pD{F:List A→Mo A}{fs:Ev→Mo (List A)}{n:Nat}{as:List A}{a:A}(h:fs ρ Ω=aG as Ω)(hn:as.length=n)(hF:F as Ω=aG a Ω'):aW (eB n F) fs ρ Ω=aG a Ω':=by
 unfold aW;rw [bQ h];unfold eB;rw [if_pos hn];exact hF
theorem nL.high{keep:Nat}{rs ws:List Rn}{lost many:Int}(s:nL keep rs lost ws many)(n:Int):aR rs n+lost≤many:=by
 have h1:=Qr (n:=n) s.pos;have h2:=s.sum;have h3:lost*1≤lost*((keep:Int)+1):=Uk (by omega) s.lo;omega
theorem nL.kept{keep:Nat}{rs ws:List Rn}{lost many:Int}(s:nL keep rs lost ws many)(n:Int)(h:many<aR ws n*((keep:Int)+1)):n∈rs.map (·.1):=by
 by_cases hn:n∈rs.map (·.1)
 ·exact hn
 ·exfalso;have h0:=CJ hn;have h1:=s.ge n;have h2:=s.sum;have h3:=SY s.pos;have h4:aR ws n*((keep:Int)+1)≤lost*((keep:Int)+1):=Int.mul_le_mul_of_nonneg_right (by omega) (by omega);omega
theorem Hu{keep:Nat}{many c:Int}{p q kd:Nat}{S ws:List Rn}(iI:keep≤1000)(hS:Ω[kd]? = some (.aU (encD S)))(hw:Ω[q]? = some (.aU (encD ws)))
  (hc:∀n,JP [.aB p,.aB kd,.aB q,.int n,.int many] Ω=aG (.bl true) Ω) (mS:∀n,many<aR ws n*((keep:Int)+1)→n∈S.map (·.1)) (ok:aI→Prop) (aH:ok Ω) (x7:Option A):∀(L:List Int) (y:Option A),
  ∃y',dO ok (gN 6) Cw (L.map A.int) [aD p,aA keep,aD q,aA c,aA many,aD kd,y,x7] Ω=fA [aD p,aA keep,aD q,aA c,aA many,aD kd,y',x7] Ω
 | [],y=>⟨y,by simp [dO,aH]⟩
 | n::L,y=>by
  obtain⟨y',e⟩:=Hu iI hS hw hc mS ok aH x7 L (aA n);refine⟨y',?_⟩;rw [← e];refine yW (ρ0:=[aD p,aA keep,aD q,aA c,aA many,aD kd,aA n,x7]) (Ω0:=Ω) aH (by simp) ?_;unfold Cw;have t1:(lT (bJ (aW (eB 5 JP) (aE aP (aE dJ (aE bT (aE fF (aE cL a0)))))))) [aD p,aA keep,aD q,aA c,aA many,aD kd,aA n,x7] Ω=aG false Ω :=
   WD (jX (b:=true) (pD (as:=[.aB p,.aB kd,.aB q,.int n,.int many]) (bR (aQ rfl) (bR (aQ rfl) (bR (aQ rfl) (bR (aQ rfl) (bR (aQ rfl) eU))))) rfl (hc n)))
  rw [bO (qV t1)];refine qV ?_;have g:(iW bT fF bM) [aD p,aA keep,aD q,aA c,aA many,aD kd,aA n,x7] Ω=aG (.int (aR ws n)) Ω:=Bx rfl hw rfl;have cm:kE (aR ws n) ((keep:Int)+1):=Ci (by omega) (by omega);have hi:=mS n;generalize hx:aR ws n*((keep:Int)+1)=x at hi;have t2:(bJ (aC oY (aC (fD) (iW bT fF bM) (aC bE aX bL)) cL)) [aD p,aA keep,aD q,aA c,aA many,aD kd,aA n,x7] Ω=aG (decide (many<x)) Ω:=by
   refine jX (bI (a := .int x) (bI g (b := .int ((keep:Int)+1)) (by simp) ?_) (aQ (a := .int many) rfl) (by simp));simp [gI,cm,hx]
  by_cases dD:many<x
  ·rw [arF (Ω':=Ω) (by rw [t2];simp [dD])];have cd:gO Ω (.aB kd)=some (kd,encD S):=pC hS;refine jX (bI (aQ (a := .int n) rfl) (aQ (a := .aB kd) rfl) ?_);simp only [CA,cd,lY,SA,if_pos (hi dD)];rfl
  ·exact arG (by rw [t2];simp [dD])
theorem Ht{many:Int}{p q kd:Nat}(ho:∀n,QX [.aB p,.aB kd,.aB q,.int n,.int many] Ω=aG (.bl true) Ω)(ok:aI→Prop)(aH:ok Ω)(x1 x3 x6:Option A):∀(L:List Int) (y:Option A),
  ∃y',dO ok (gN 7) Cv (L.map A.int) [aD p,x1,aD q,x3,aA many,aD kd,x6,y] Ω=fA [aD p,x1,aD q,x3,aA many,aD kd,x6,y'] Ω
 | [],y=>⟨y,by simp [dO,aH]⟩
 | n::L,y=>by
  obtain⟨y',e⟩:=Ht ho ok aH x1 x3 x6 L (aA n);refine⟨y',?_⟩;rw [← e];refine yW (ρ0:=[aD p,x1,aD q,x3,aA many,aD kd,x6,aA n]) (Ω0:=Ω) aH (by simp) ?_;unfold Cv;exact qV (WD (jX (b:=true) (pD (as:=[.aB p,.aB kd,.aB q,.int n,.int many]) (bR (aQ rfl) (bR (aQ rfl) (bR (aQ rfl) (bR (aQ rfl) (bR (aQ rfl) eU))))) rfl (ho n))))
theorem arQ{p q keep:Nat}{many tk lost:Int}{rs ws:List Rn}(h:Ω[p]? = some (bD keep many tk rs lost))(hw:Ω[q]? = some (.aU (encD ws)))(s:nL keep rs lost ws many)(hl:rs.length<64)(sA:ws.length≤100000)(iI:keep≤1000)(c:Int) :
  QW [.aB p,.int keep,.aB q,.int c] Ω=aG (.bl true) Ω:=by
 have hp:p<Ω.length:=(bX.mp h).1;have hq:q<Ω.length:=(bX.mp hw).1;have qc:=ar5 h s.nd s.pos hl s.len iI s.lo s.sum;generalize hΔ:[Cell.lst (aK (cZ rs)),.lst ((sortI (rs.map (·.1))).map A.int),.aU (encD (cZ rs))]=Δ at qc;have h1:(Ω++Δ)[p]? = some (bD keep many tk rs lost):=by rw [fV hp];exact h
 have vN:(Ω++Δ)[q]? = some (.aU (encD ws)):=by rw [fV hq];exact hw
 have hS:(Ω++Δ)[Ω.length+2]? = some (.aU (encD (cZ rs))):=by rw [← hΔ,nP (by omega)];simp
 have kK:((cZ rs).map (·.1)).Nodup:=((pO rs).map (·.1)).nodup_iff.mpr s.nd;have hco:=fun n=>ar6 h1 hS vN n (IE (pO rs) kK n) (s.le n) (s.ge n) (s.high n);have hof:=fun n=>arW h1 hS vN s.nd hl (pO rs) s.high s.sV s.ge n;have mS:∀n,many<aR ws n*((keep:Int)+1)→n∈(cZ rs).map (·.1):=fun n hn=>((pO rs).map (·.1)).mem_iff.mpr (s.kept n hn);have qo:=IZ h1;have aV:kQ many ((keep:Int)+1):=⟨by omega,by omega⟩;have Af:(1:Nat)≤sizeLine:=by decide
 have h4s:(4:Nat)≤sizeLine:=by decide
 show trim Ω (fZ (PJ [aD p,aA keep,aD q,aA c,none,none,none,none] Ω))=_;obtain⟨y1,lp1⟩:=Hu (c:=c) iI hS vN hco mS (fun Ω'=>fH Ω' (.lst ((ws.map (·.1)++[c%99 - 50]).map A.int))=some ((ws.map (·.1)++[c%99 - 50]).map A.int)) (by simp) none (ws.map (·.1)++[c%99 - 50]) none;obtain⟨y2,lp2⟩:=Ht (p:=p) (q:=q) (kd:=Ω.length+2) hof (fun Ω'=>fH Ω' (.lst ([1,1+c%9,lost+1,1+many/((keep:Int)+1)].map A.int))=some ([1,1+c%9,lost+1,1+many/((keep:Int)+1)].map A.int)) (by simp) (aA keep) (aA c) y1 [1,1+c%9,lost+1,1+many/((keep:Int)+1)] none
 suffices hh:∃ρ',PJ [aD p,aA keep,aD q,aA c,none,none,none,none] Ω=some (.ret (.bl true),ρ',Ω++Δ)by
  obtain⟨ρ',e⟩:=hh;rw [e];simp only [BA];exact LG (by simp only [Cl])
 refine⟨[aD p,aA keep,aD q,aA c,aA many,aD (Ω.length+2),y1,y2],?_⟩;have cd:gO Ω (.aB q)=some (q,encD ws):=pC hw;have cd1:gO (Ω++Δ) (.aB q)=some (q,encD ws):=pC vN;unfold PJ;have e1:(aW pZ (aE (sY false bT) a0)) [aD p,aA keep,aD q,aA c,none,none,none,none] Ω=aG (.int many) Ω:=by
  have v1:(sY false bT) [aD p,aA keep,aD q,aA c,none,none,none,none] Ω=aG (.lst ((ws.map (·.2)).map A.int)) Ω:=by
   unfold sY;rw [bQ (aQ (a := .aB q) rfl)];simp only [cd,RX];rfl
  unfold aW;rw [bQ (bR v1 eU)];have e4:(dF Ω (.lst ((ws.map (·.2)).map A.int))).bind intsOf=some (ws.map (·.2)):=by
   show intsOf ((ws.map (·.2)).map A.int)=_;exact vM _
  simp only [pZ,e4,LO,s.wsum]
 rw [bO (gZ e1)];simp only [iM,iL];rw [bO (gZ (pD (as:=[.aB p,.int keep,.int many]) (bR (aQ (by rfl)) (bR (aQ (by rfl)) (bR (aQ (by rfl)) eU))) (by rfl) qc))];simp only [iM,iL];rw [bO (qV (jX (bI (aQ (a := .aB (Ω.length+2)) (by rfl)) (b := .bH) (by rfl) (by rfl))))];have e2:(fY (aC bE (rM false bT) (mP false (aE (aC (nW) (aC (bY) dG (cI 99)) (cI 50)) a0)))) [aD p,aA keep,aD q,aA c,aA many,aD (Ω.length+2),none,none] (Ω++Δ)=aG (srcOf (.lst ((ws.map (·.1)++[c%99 - 50]).map A.int)) ((ws.map (·.1)++[c%99 - 50]).map A.int)) (Ω++Δ):=by
  have k1:(rM false bT) [aD p,aA keep,aD q,aA c,aA many,aD (Ω.length+2),none,none] (Ω++Δ)=aG (.lst ((ws.map (·.1)).map A.int)) (Ω++Δ):=by
   unfold rM;rw [bQ (aQ (a := .aB q) rfl)];simp only [cd1,YH];rfl
  have hz:¬sizeLine<((ws.map (·.1)).map A.int).length+1:=by rw [kJ];simp;omega
  have k2:(aC bE (rM false bT) (mP false (aE (aC (nW) (aC (bY) dG (cI 99)) (cI 50)) a0))) [aD p,aA keep,aD q,aA c,aA many,aD (Ω.length+2),none,none] (Ω++Δ)=aG (.lst ((ws.map (·.1)++[c%99 - 50]).map A.int)) (Ω++Δ):=by
   refine bI k1 (b := .lst [.int (c%99 - 50)]) (by simp [Af]) ?_;rw [JD];generalize (ws.map (·.1)).map A.int=X at hz;simp [HU,dF,xX,hz]
  unfold fY;rw [bQ k2];simp
 rw [bO (ρ1:=[aD p,aA keep,aD q,aA c,aA many,aD (Ω.length+2),y1,none]) (Ω':=Ω++Δ) (by rw [vY e2];exact lp1)];have e3:(fY (mP false (aE bL (aE (aC bE bL (aC (bY) dG AG)) (aE (aC bE (cP "off" [("Often",cK 1 [] mH)] aP a0) bL) (aE (aC bE bL (aC (eI) cL (aC bE aX bL))) a0)))))) [aD p,aA keep,aD q,aA c,aA many,aD (Ω.length+2),y1,none] (Ω++Δ)=aG (srcOf (.lst ([1,1+c%9,lost+1,1+many/((keep:Int)+1)].map A.int)) ([1,1+c%9,lost+1,1+many/((keep:Int)+1)].map A.int)) (Ω++Δ):=by
  have m1:(cP "off" [("Often",cK 1 [] mH)] aP a0) [aD p,aA keep,aD q,aA c,aA many,aD (Ω.length+2),y1,none] (Ω++Δ)=aG (.int lost) (Ω++Δ):=iS h1 (by rfl) (by rfl) (as:=[]) (das:=[]) (by simp) (by rfl) (by simpa using qo);have m4:(aC (eI) cL (aC bE aX bL)) [aD p,aA keep,aD q,aA c,aA many,aD (Ω.length+2),y1,none] (Ω++Δ)=aG (.int (many/((keep:Int)+1))) (Ω++Δ):=by
   refine bI (aQ (a := .int many) rfl) (b := .int ((keep:Int)+1)) (by simp) ?_;simp [gI,aV]
  have l1:(aE bL (aE (aC bE bL (aC (bY) dG AG)) (aE (aC bE (cP "off" [("Often",cK 1 [] mH)] aP a0) bL) (aE (aC bE bL (aC (eI) cL (aC bE aX bL))) a0)))) [aD p,aA keep,aD q,aA c,aA many,aD (Ω.length+2),y1,none] (Ω++Δ)=aG [.int 1,.int (1+c%9),.int (lost+1),.int (1+many/((keep:Int)+1))] (Ω++Δ) :=
   bR (by simp) (bR (by simp) (bR (bI m1 (b := .int 1) (by simp) (by simp)) (bR (bI (a := .int 1) (by simp) m4 (by simp)) eU)))
  unfold fY;rw [bQ (x := .lst ([1,1+c%9,lost+1,1+many/((keep:Int)+1)].map A.int)) (Ω':=Ω++Δ) (by unfold mP;rw [bQ l1];simp [h4s])];simp
 rw [bO (ρ1:=[aD p,aA keep,aD q,aA c,aA many,aD (Ω.length+2),y1,y2]) (Ω':=Ω++Δ) (by rw [vY e3];exact lp2)];rfl
end
@[simp] theorem au2{α:Type}(x y z u v w:α)(l:List α):jO (x::y::z::u::v::w::l) 5=some w:=QG _ 5
theorem arY(c way:Int)(hc:0≤c)(hc1:c<2147483587):∃v,∀Ω,wU [.int c,.int way] Ω=aG (.int v) Ω:=by
 have d3:kQ c 3:=⟨by decide,by decide⟩;have d4:kQ c 4:=⟨by decide,by decide⟩;have Ku:JY 10 15:=⟨by decide,by decide,by decide⟩;have m1:kE (c%3) (c/3%14):=uB (by omega) (by omega);have m2:∀j,kE (c/4%1999 - 999) j:=fun j=>uB (by omega) (by omega);have h2:(2:Nat)≤sizeLine:=by decide
 by_cases w0:way=0
 ·exact⟨c%7,fun Ω=>by simp [wU,CN,w0]⟩
 by_cases w1:way=1
 ·exact⟨c%3*(c/3%14),fun Ω=>by simp [wU,CN,w1,d3,m1]⟩
 by_cases w2:way=2
 ·exact⟨c%60 - 30,fun Ω=>by simp [wU,CN,w2]⟩
 by_cases e:c%4=0
 ·exact⟨(c/4%1999 - 999)*10 ^ 15,fun Ω=>by simp [wU,CN,w0,w1,w2,d4,m2,Ku,h2,e]⟩
 ·exact⟨c%3,fun Ω=>by simp [wU,CN,w0,w1,w2,d4,m2,Ku,h2,e]⟩
theorem BK{t:Ev→Mo Bool}{f g:MS}{ρ:Ev}{Ω Ω':aI}{b:Bool}(h:t ρ Ω=aG b Ω'):dZ t f g ρ Ω=if b then f ρ Ω' else g ρ Ω':=by
 unfold dZ;rw [fQ h]
theorem wF{g:List A→Mo A}{fs:Ev→Mo (List A)}{ρ:Ev}{Ω Ω':aI}{as:List A}{a:A}(h:fs ρ Ω=aG as Ω)(hg:g as Ω=aG a Ω'):aW g fs ρ Ω=aG a Ω':=by
 unfold aW;rw [bQ h];exact hg
end M
namespace L2
open PySem PySem.Spec PyProof.Rows
structure Ui(K:Frag)(C:Addr):Prop where
 cls:lD K C
 ha:findIn K (.ref C) "__class__" = some (some (.builtin "object.__class__"))
 hn:specialIn K (.builtin "object.__class__") "__get__" = some (some (.builtin "getset_descriptor.__get__"))
 tk:takesIn K (.builtin "object.__class__")=some true
 mro:mroIn K C (.type "object")=some true
section
variable{X:Cx}
theorem aqP:jR X (.builtin "isinstance") (fun xs H Q=>∃(a C D dx:Addr) (fs:List (Str×V)) (b:Bool),xs=[.ref a,.ref D]∧H a=some (.ins C dx fs)∧Ui X.K C∧kitOne X.K (.ref C) (.ref D)=some b∧Q (.bl b) H):=by
 intro pins s σ H xs us Q I r h;obtain⟨a,C,D,dx,fs,b,rfl,hH,iso,e,q⟩:=h;obtain⟨u,v,rfl,ru,rv⟩:=vals2 r;obtain rfl:u = .ref a:=ru;obtain rfl:v = .ref D:=rv;obtain⟨d,z,ne,ob,mA,n,rr,qq⟩:=I.aH a _ hH;obtain⟨od,hd⟩:∃od,s.heap.get? dx=some od:=by
  obtain⟨o,_,_,ho,_⟩:=n;exact⟨o,ho⟩
 have Z:=PySem.W.kitx_own (x:=a) (D:=C) (ox:=instObj C dx) (od:=od) (iso.cls.get _) iso.cls.hd iso.ha iso.hn iso.tk iso.mro;exact kia_one Z I.fK ⟨ob,rfl,rfl,hd⟩ e (by intro z;cases z) fun tk=>⟨.bl b,H,I.tok tk,rfl,q⟩
end
end L2
namespace V2
open PySem PySem.Spec PyProof.Rows L2
def Fl(K:Frag)(cs:List Str):Prop:=∀c∈cs,∀d∈cs,∃C D,nsIn K mainGlobals c=some (some (.ref C))∧nsIn K mainGlobals d=some (some (.ref D))∧Ui K C∧kitOne K (.ref C) (.ref D)=some (decide (c=d))
theorem ai7{K:Frag}{C:Addr}:kitOne K (.ref C) (.ref C)=some true:=by
 unfold kitOne;rw [if_pos (by simp)]
theorem ajV{K:Frag}{c:Str}{C:Addr}(n:nsIn K mainGlobals c=some (some (.ref C)))(L:lD K C)
  (ha:findIn K (.ref C) "__class__" = some (some (.builtin "object.__class__"))) (hn:specialIn K (.builtin "object.__class__") "__get__" = some (some (.builtin "getset_descriptor.__get__")))
  (tk:takesIn K (.builtin "object.__class__")=some true) (mro:mroIn K C (.type "object")=some true):Fl K [c]:=fun a Oe b pX=>by
 simp only [nN]at Oe pX;subst Oe;subst pX;exact⟨C,C,n,n,⟨L,ha,hn,tk,mro⟩,by rw [ai7];simp⟩
structure Fn(K:Frag)(mg:Str→Option Value)(x:Str):Prop where
 ex:∃C,mg x=some (.ref C)∧nsIn K mainGlobals x=some (some (.ref C))
section
variable{X:Cx}{W:WX}{x:Str}{pos:Pos}
theorem Vs(h:Fn X.K X.mg x)(hg:Gl X x)(hd:(x == ("__debug__" : Str))=false:=by decide):VE X W (.Name x pos) (cG x):=by
 obtain⟨C,h1,h2⟩:=h.ex;exact Vr hg h1 h2 hd
@[simp] def Bg(cs:List Str)(as:List A):Mo A:=fun Ω=>match as with
 | [.aB s,.gl d]=>(match Ω[s]? with
  | some (.ins c _)=>if c∈cs∧d∈cs then some (.ok (.bl (decide (c=d))),Ω)else none
  | _=>none)
 | _=>none
theorem aqU{cs:List Str}(T:Fl X.K cs):qI X W (.builtin "isinstance") (Bg cs):=by
 refine⟨_,aqP,?_⟩;intro G ι Ω H σ xs as Q w d h;unfold Bg at h;split at h
 ·rename_i s dn;split at h
  ·rename_i c fs eo;split at h
   ·rename_i hc;obtain⟨x,y,rfl,d1,d2⟩:=OT d;obtain⟨a,C,dx,ws,rfl,ha,hg,h0,hH,hF⟩:=w.ins eo d1;simp only [Den]at d2;obtain⟨D,hD,rfl⟩:=d2;obtain⟨C',D',n1,n2,iso,e⟩:=T c hc.1 dn hc.2;rw [h0]at n1;cases n1;rw [hD]at n2;cases n2;exact⟨a,C,D,dx,ws,_,rfl,hH,iso,e,h _ H G ι (Ext.refl _ _) w (by simp only [Den])⟩
   ·exact False.elim h
  ·exact False.elim h
 ·exact False.elim h
end
section
variable{X:Cx}{W:WX}{a b c d:Expr}{ta tb tc td:TE}{fa fb fc fd:Ev→Mo A}{pos:Pos}
def JZ(_ j:Int):Prop:=0<j∧j<1152921504606846976
instance (i j:Int):Decidable (JZ i j):=by unfold JZ;infer_instance
theorem ahT{x y:Int}(h:y.natAbs<1152921504606846976):Builtin.divisionGoesByPylong x y=false:=by
 refine PyProof.noPylong_of_log2 ?_
 by_cases h0:y.natAbs=0
 ·rw [h0];decide +kernel
 ·have h60:y.natAbs.log2<60:=(Nat.log2_lt h0).mpr h;omega
theorem ag4:gB X (binaryOp .FloorDiv) (rI JZ fun i j => .int (i/j)):=FK fun i j _ _ _ _ _ hc q=>by
 have h1:(0:Int)<j:=hc.1;have h2:j<1152921504606846976:=hc.2;exact floordiv_int (by omega) (by rw [Int.fdiv_eq_ediv_of_nonneg i (by omega)];exact q) (.inl (ahT (by omega)))
@[simp] def Ox:=gI JZ fun i j => .int (i/j)
theorem ahJ:kO X W (binaryOp .FloorDiv) Ox:=⟨_,ag4,FJ fun _ _ _ _=>by simp only [Den]⟩
end
end V2
namespace M
open PySem V2
noncomputable section
def Di:MS :=
 (dE (aW (Bg ["Often"]) (aE aX (aE (cG "Often") a0))))
def JU:List A→Mo A:=eE 2 Di
def zG:MS :=
 (dE (aC bB (mP false (aE bL (aE bL (aE bL (aE (aC bE bL (aC (bY) (aC (eI) aP qJ) rJ)) (aE (aC bE bL (aC (bY) (aC (eI) aP qJ) AG)) (aE (aC bE bL (aC (bY) (aC (eI) aP qJ) (cI 100000))) a0))))))) (aC (bY) aP qJ)))
def uK:List A→Mo A:=eE 1 zG
def IP:MS :=
 (bC (cM (aC (bY) fF (aW iK (aE bT a0))) (gN 7))
   (dZ (iP (bJ dG) (bJ (aC iZ (aC bB bT iO) bM)))
    (jG (EH CB dJ (aE (aW (eB 2 zW) (aE (aW (eB 2 zW) (aE (aC (bY) (aC bB cL iO) (cI 2147483647)) (aE (aC bE fF KJ) a0))) (aE (aC bE (aC (bY) (aC (fD) fF fF) (cI 1009)) rJ) a0))) a0)))
    (bC (jG (EH CB dJ (aE (aC (bY) (aC bB bT iO) (cI 2147483587)) a0)))
    (cM (aC (Ox) (aC bB bT iO) (cI 2147483587)) (yP bT iO)))))
def IQ:MS :=
 (bC (cM (aW (tY true) (aE aP a0)) (gN 2))
  (bC (dZ (bJ (aC iZ bT (mP false a0)))
   (cM (mP true (aE bM a0)) (gN 2))
   fP)
  (bC (cM (aC iZ (aC (bY) (aC bB bT bM) fO) bL) (gN 3))
  (bC (cM (aC (eI) (aC bB bT bM) fO) (yP bT bM))
  (bC (cM (aW (tY false) (aE bT a0)) (gN 4))
  (bC (cM (mP true a0) (gN 5))
  (bC (oO (sX (aE aX a0)) (gN 6) IP)
  (dE (EF 5)))))))))
def QY:List A→Mo A:=eE 8 IQ
def Dg:MS :=
 (jG (cP "count_in" [("Often",cK 3 [] JW)] aP (aE bT (aE dG a0))))
def QB:MS :=
 (bC (oO (fY (cP "counts" [("Often",cK 1 [] DM)] aX a0)) (oX 2 (iU (gN 2) (iU (gN 3) qA))) Dg)
  (bC (lU ["Often"] "lost" aP (aC bE (eT ["Often"] "lost" aP) (eT ["Often"] "lost" aX)))
  (jG (cP "cut_down" [("Often",cK 1 [] JV)] aP a0))))
def RA:List A→Mo A:=eE 4 QB
def PZ:MS :=
 (bC (dZ (iP (lT (bJ (cP "same_kind" [("Often",cK 2 [] JU)] aP (aE aX a0)))) (bJ (aC iY (eT ["Often"] "keep" aX) (eT ["Often"] "keep" aP))))
   (fun _ _=>none)
   fP)
  (bC (jG (cP "look_room" [("Often",cK 2 [] JR)] aP (aE (eT ["Often"] "many" aX) a0)))
  (bC (jG (cP "take_in" [("Often",cK 2 [] RA)] aP (aE aX a0)))
  (bC (lU ["Often"] "many" aP (aC bE (eT ["Often"] "many" aP) (eT ["Often"] "many" aX)))
  (lU ["Often"] "taken" aP (aC bE (eT ["Often"] "taken" aP) (eT ["Often"] "taken" aX)))))))
def QZ:List A→Mo A:=eE 2 PZ
def PN:MS :=
 (bC (cM (aW (eB 2 wU) (aE (aC bB aP (aC (fD) fO cL)) (aE dG a0))) (gN 5))
   (bC (dZ (bJ (aC iZ dG qK))
    (cM (aC (bY) cL Gp) (gN 5))
    fP)
   (bC (cM (aW (eB 1 uK) (aE (aC bB aP (aC bE (aC (fD) fO cL) bL)) a0)) (gN 6))
   (bC (cM (aC (bY) (aC (eI) (aC bB aP (aC bE (aC (fD) fO cL) bL)) (cI 600000)) (aW iK (aE aX a0))) (gN 7))
   (bC (jG (cP "put" [("Often",cK 3 [] JQ)] (aC bB aX iO) (aE dJ (aE fF a0))))
   (xJ (aC bE (iW (aC bB bT iO) dJ bM) fF) (aC bB bT iO) dJ))))))
def PQ:MS :=
 (oO (sX (aE (aC (eI) (aW iK (aE aP a0)) fO) a0)) (gN 4) PN)
def JO:List A→Mo A:=eE 8 PQ
def Cz:MS :=
 (xJ (aC bE (iW (aC bB aX bT) cL bM) dJ) (aC bB aX bT) cL)
def PM:MS :=
 (bC (jG (cP "join" [("Often",cK 2 [] QZ)] (aC bB aP bT) (aE (aC bB aP dG) a0)))
  (oO (fY (KY false (aC bB aX dG))) (oX 2 (iU (gN 4) (iU (gN 5) qA))) Cz))
def JN:List A→Mo A:=eE 6 PM
def Rv:Ev→Mo A :=
 (kG false 1 [2] (sX (aE (aC bE fO (aC (bY) (aC (eI) (aC bB aX bM) (cI 45)) qK)) a0)) (gN 0) oG (aW (BX "Often" 2 zZ) (aE aX a0)))
def Ru:Ev→Mo A :=
 (kG false 1 [] (fY cL) (gN 0) oG AJ)
def PD:MS :=
 (bC (cM (aC bB aX (aC bE fO fF)) (gN 7))
   (bC (cM (aC bE bL (aC (bY) iO (aC (nW) (aW iK (aE cL a0)) bL))) (gN 8))
   (bC (cM (aC bB (mP false (aE bM (aE (aC (bY) (aC (eI) iO qK) mM) a0))) (aC (bY) (aC (eI) iO (cI 16)) fO)) (gN 9))
   (bC (jG (aW (eB 4 JN) (aE cL (aE dJ (aE RM (aE mM a0))))))
   (bC (dZ (bJ (aC iZ (aC (bY) (aC (eI) iO (cI 32)) qJ) bM))
    (jG (aW (eB 4 JN) (aE cL (aE dJ (aE RM (aE mM a0))))))
    fP)
   (bC (cM (aC bE (mO false cL uW (jV mM)) (mO false cL (jV (aC bE mM bL)) uW)) (gN 4))
   (cM (aC bE (mO false dJ uW (jV mM)) (mO false dJ (jV (aC bE mM bL)) uW)) (gN 5))))))))
def PF:MS :=
 (bC (cM (aW (eB 2 QY) (aE aP (aE (cI 250) a0))) (gN 1))
  (bC (cM (aC bE bL (aC (bY) (aC bB aX bM) AG)) (gN 2))
  (bC (cM (aC (bY) (aC (eI) (aC bB aX bM) AG) Ve) (gN 3))
  (bC (cM Rv (gN 4))
  (bC (cM Ru (gN 5))
  (bC (jG (aW (eB 4 JO) (aE (mO false aX (jV qJ) (jV (aC bE qJ (aC (fD) fO (aC (bY) (aC bB aX bL) (cI 61)))))) (aE cL (aE dJ (aE dG a0))))))
  (bC (oO (sX (aE (aC (nW) (aW iK (aE cL a0)) bL) a0)) (gN 6) PD)
  (bC (dZ (bJ (aC iZ (aC (bY) (aC (eI) (aC bB aX bL) (cI 61)) rJ) bM))
   (jG (aW (eB 4 JO) (aE (mO false aX (jV (cI 126)) (jV (aC bE (cI 126) (aC (fD) fO (aC (bY) (aC (eI) (aC bB aX bL) (cI 183)) (cI 61)))))) (aE cL (aE dJ (aE dG a0))))))
   fP)
  (bC (cM (aW pZ (aE (sY false (aC bB dJ bM)) a0)) (gN 10))
  (dE (EI (aW (eB 4 QW) (aE (aC bB cL bM) (aE bT (aE (aC bB dJ bM) (aE (aC bB aX bM) a0))))) (aC yQ (cP "off" [("Often",cK 1 [] mH)] (aC bB cL bM) a0) (aC (eI) Gn (aC bE bT bL))))))))))))))
def Uo:List A→Mo A:=eE 11 PF
end
open PySem L2 V2
def dY(rs l:List Rn):List Rn:=l.foldl (fun acc r=>bS acc r.1 r.2) rs
theorem TB:∀(l rs:List Rn),dM (dY rs l)=dM rs+dM l
 | [],rs=>by simp [dY,dM]
 | r::l,rs=>by
  show dM (dY (bS rs r.1 r.2) l)=_;rw [TB l,LP];simp only [dM];omega
theorem IF:∀(l rs:List Rn) (m:Int),(l.map (·.1)).Nodup→aR (dY rs l) m=aR rs m+aR l m
 | [],rs,m,_=>by simp [dY,aR]
 | r::l,rs,m,nd=>by
  rw [cX,mX]at nd;show aR (dY (bS rs r.1 r.2) l) m=_;rw [IF l _ m nd.2,CK];simp only [aR]
  by_cases h:r.1=m
  ·have h0:aR l m=0:=CJ (by rw [← h];exact nd.1);rw [if_pos h,if_pos h.symm];omega
  ·rw [if_neg h,if_neg (bV h)];omega
theorem MY:∀(l rs:List Rn),(rs.map (·.1)).Nodup→((dY rs l).map (·.1)).Nodup
 | [],rs,h=>h
 | r::l,rs,h=>MY l _ (xQ rs r.1 r.2 h)
theorem VU:∀(l rs:List Rn),(∀r∈l,1≤r.2)→(∀r∈rs,1≤r.2)→∀r∈dY rs l,1≤r.2
 | [],rs,_,h=>h
 | r::l,rs,hl,h=>VU l _ (fun q hq=>hl q (by simp [hq])) (MM rs r.1 r.2 (hl r (by simp)) h)
theorem WQ:∀(l rs:List Rn),(dY rs l).length≤rs.length+l.length
 | [],rs=>by simp [dY]
 | r::l,rs=>by
  have h1:=WQ l (bS rs r.1 r.2);have h2:=BG rs r.1 r.2;show(dY (bS rs r.1 r.2) l).length≤_;simp only [jP];omega
theorem apS{keep:Nat}{cR AD:List Rn}{lost many1:Int}(qR:(cR.map (·.1)).Nodup)(pP:∀r∈cR,1≤r.2)(lo:0≤lost)(LQ:lost*((keep:Int)+1)+dM cR≤many1)(BH:∀m,aR cR m≤aR AD m)(ge1:∀m,aR AD m≤aR cR m+lost)
  (DX:(AD.map (·.1)).Nodup) (DS:∀r∈AD,1≤r.2) (DR:dM AD=many1):nL keep (gF keep cR) (lost+taken cR keep) AD many1:=by
 by_cases hk:keep<cR.length
 ·have g1:=Qk cR keep hk;have g2:=Ql cR keep hk;have g3:=Qj cR pP keep hk;rw [show gF keep cR=cZ (dP (taken cR keep) cR)by unfold gF;rw [if_pos hk]];generalize taken cR keep=u at g1 g2 g3 ⊢;have hS:=pO (dP u cR);have WG:=HZ u cR qR;have kK:((cZ (dP u cR)).map (·.1)).Nodup:=(hS.map (·.1)).nodup_iff.mpr WG;have c:=fun m=>(IE hS kK m).trans (Bt u cR m qR pP (by omega));have akN:=Bs u cR pP (by omega);refine⟨kK,fun r hr=>Pe u cR r (hS.mem_iff.mp hr),?_,?_,?_,fun m=>?_,fun m=>?_,DX,DS,DR⟩
  ·rw [hS.length_eq,Pf];exact g1
  ·omega
  ·rw [LN hS];have hm:u*((keep:Int)+1)≤u*((cR.filter fun r=>decide (u≤r.2)).length:Int):=Uk (by omega) (by omega);rw [Int.add_mul];omega
  ·rw [c m];have:=BH m;have h0:=OV (n:=m) pP;split <;> omega
  ·rw [c m];have:=ge1 m;split <;> omega
 ·have e:gF keep cR=cR:=by unfold gF;rw [if_neg hk]
  rw [e,SR cR keep hk,Int.add_zero];exact⟨qR,pP,by omega,lo,LQ,BH,ge1,DX,DS,DR⟩
theorem nL.join{keep:Nat}{rs ws eM iC:List Rn}{lost many iT gL:Int}(s:nL keep rs lost ws many)(t:nL keep eM iT iC gL) :
  nL keep (gF keep (dY rs (cZ eM))) (lost+iT+taken (dY rs (cZ eM)) keep) (dY ws iC) (many+gL):=by
 have hS:=pO eM;have kK:((cZ eM).map (·.1)).Nodup:=(hS.map (·.1)).nodup_iff.mpr t.nd;have hc:=fun m=>IE hS kK m;have hp:∀r∈cZ eM,1≤r.2:=fun r hr=>t.pos r (hS.mem_iff.mp hr);have oR:=LN hS;refine apS (MY _ _ s.nd) (VU _ _ hp s.pos) (by have:=s.lo;have:=t.lo;omega) ?_ (fun m=>?_) (fun m=>?_) (MY _ _ s.sV) (VU _ _ t.RK s.RK) ?_
 ·rw [TB,oR,Int.add_mul];have:=s.sum;have:=t.sum;omega
 ·rw [IF _ _ m kK,IF _ _ m t.sV,hc m];have:=s.le m;have:=t.le m;omega
 ·rw [IF _ _ m kK,IF _ _ m t.sV,hc m];have:=s.ge m;have:=t.ge m;omega
 ·rw [TB,s.wsum,t.wsum]
section
variable{Ω:aI}{p o keep:Nat}{many tk lost gL lH iT:Int}{rs eM:List Rn}
theorem arU(h:Ω[o]? = some (bD keep gL lH eM iT))(x:A):JU [x,.aB o] Ω=aG (.bl true) Ω:=by
 show trim Ω (fZ (Di [some x,aD o] Ω))=_;simp [Di,h]
theorem Hv(cA:p≠o):∀(l rs:List Rn) (Ω:aI) (Δ:Cell) (k:Nat) (y z:Option A),Ω[p]? = some (bD keep many tk rs lost)→k=Ω.length→(rs.map (·.1)).Nodup→rs.length+l.length<1000→Δ = .lst (aK l)∨True→∀(ok:aI→Prop),(∀c,ok (Ω.set p c++[Δ])) →
  ∃y' z',dO ok (oX 2 (iU (gN 2) (iU (gN 3) qA))) Dg (aK l) [aD p,aD o,y,z] (Ω++[Δ])=fA [aD p,aD o,y',z'] (Ω.set p (bD keep many tk (dY rs l) lost)++[Δ])
 | [],rs,Ω,Δ,k,y,z,h,hk,nd,hl,_,ok,aH=>⟨y,z,by
   have e:ok (Ω++[Δ]):=by have:=aH (bD keep many tk rs lost);rwa [xE h]at this
   rw [show dY rs []=rs from rfl,xE h];simp [aK,dO,e]⟩
 | r::l,rs,Ω,Δ,k,y,z,h,hk,nd,hl,hd,ok,aH=>by
  have hp:p<Ω.length:=(bX.mp h).1;have h1:(Ω++[Δ])[p]? = some (bD keep many tk rs lost):=by rw [fV hp];exact h
  have q:=Ua h1 nd (by simp only [jP]at hl;omega) r.1 r.2;rw [Ub _ _ hp]at q;have h2:(Ω.set p (bD keep many tk (bS rs r.1 r.2) lost))[p]? = some (bD keep many tk (bS rs r.1 r.2) lost):=xF hp;obtain⟨y',z',e⟩:=Hv cA l (bS rs r.1 r.2) (Ω.set p (bD keep many tk (bS rs r.1 r.2) lost)) Δ k (aA r.1) (aA r.2) h2 (by simpa using hk) (xQ rs r.1 r.2 nd) (by have:=BG rs r.1 r.2;simp only [jP]at hl;omega) (.inr trivial) ok (fun c=>by rw [rF];exact aH c);rw [rF]at e;refine⟨y',z',?_⟩;have e0:ok (Ω++[Δ]):=by have:=aH (bD keep many tk rs lost);rwa [xE h]at this
  show dO ok _ _ (eW r::aK l) _ _=fA _ (Ω.set p (bD keep many tk (dY (bS rs r.1 r.2) l) lost)++[Δ]);rw [← e];refine yW (ρ0:=[aD p,aD o,aA r.1,aA r.2]) (Ω0:=Ω++[Δ]) e0 (by simp [eW]) ?_;unfold Dg;exact mC (iS h1 rfl rfl (as:=[.int r.1,.int r.2]) (das:=[]) (bR (aQ rfl) (bR (aQ rfl) eU)) rfl q)
theorem Hr{X:Cell}{E:aI}{a:A}(h:p<Ω.length):∃E',trim Ω (some (.ok a,Ω.set p X++E))=aG a (Ω.set p X++E'):=by
 simp only [trim];split
 ·rename_i hc;have hl:(Ω.set p X++E).take Ω.length=Ω.set p X:=by
   rw [List.take_append_of_le_length (by simp),Er (by simp)]
  rw [hl]at hc;exact⟨[],by rw [hc.1];simp⟩
 ·exact⟨E,rfl⟩
theorem BV{X:Cell}{E:aI}{k:Nat}(hk:k<Ω.length)(cA:k≠p):(Ω.set p X++E)[k]? = Ω[k]?:=by
 rw [fV (by simpa using hk),gS (bV cA)]
theorem HN{X:Cell}{E:aI}(hp:p<Ω.length):(Ω.set p X++E)[p]? = some X:=by
 rw [fV (by simpa using hp),gR hp]
theorem LZ{X Y:Cell}{E:aI}(hp:p<Ω.length):(Ω.set p X++E).set p Y=Ω.set p Y++E:=by
 rw [Ub _ _ (by simpa using hp),rF]
theorem arS(cA:o≠p)(h:Ω[p]? = some (bD keep many tk rs lost))(h2:Ω[o]? = some (bD keep gL lH eM iT))(nd:(rs.map (·.1)).Nodup)(hl:rs.length+eM.length<64) :
  ∃E,RA [.aB p,.aB o] Ω=aG (.bH) (Ω.set p (bD keep many tk (gF keep (dY rs (cZ eM))) (lost+iT+taken (dY rs (cZ eM)) keep))++E):=by
 have hp:p<Ω.length:=(bX.mp h).1;have ho:o<Ω.length:=(bX.mp h2).1;have qc:=Tx h2 (by omega);have hSl:=Iw eM;generalize cZ eM=S at qc hSl;have akY:∀c,fH (Ω.set p c++[.lst (aK S)]) (.aB Ω.length)=some (aK S):=fun c=>lW (by
  rw [nP (by simp)];simp)
 obtain⟨y,z,lp⟩:=Hv (many:=many) (tk:=tk) (lost:=lost) (keep:=keep) (bV cA) S rs Ω (.lst (aK S)) Ω.length none none h rfl nd (by omega) (.inr trivial) (fun Ω'=>fH Ω' (.aB Ω.length)=some (aK S)) akY;have qR:=MY S rs nd;have vQ:(dY rs S).length<64:=by have:=WQ S rs;omega
 generalize dY rs S=cR at lp qR vQ;have a1:(Ω.set p (bD keep many tk cR lost)++[Cell.lst (aK S)])[p]? = some (bD keep many tk cR lost):=HN hp;have a2:(Ω.set p (bD keep many tk cR lost)++[Cell.lst (aK S)])[o]? = some (bD keep gL lH eM iT):=by rw [BV ho cA];exact h2
 have b1:(Ω.set p (bD keep many tk cR (lost+iT))++[Cell.lst (aK S)])[p]? = some (bD keep many tk cR (lost+iT)):=HN hp;have qd:=Tw b1 qR vQ;rw [LZ hp]at qd;show ∃E,trim Ω (fZ (QB [aD p,aD o,none,none] Ω))=_;have e:QB [aD p,aD o,none,none] Ω=fA [aD p,aD o,y,z] (Ω.set p (bD keep many tk (gF keep cR) (lost+iT+taken cR keep))++[.lst (aK S)]):=by
  unfold QB;have src:(fY (cP "counts" [("Often",cK 1 [] DM)] aX a0)) [aD p,aD o,none,none] Ω=aG (srcOf (.aB Ω.length) (aK S)) (Ω++[.lst (aK S)]):=by
   unfold fY;rw [bQ (iS h2 (by rfl) (by rfl) (as:=[]) (das:=[]) (by rfl) (by rfl) (by exact qc))];have g:dF (Ω++[Cell.lst (aK S)]) (.aB Ω.length)=some (aK S):=lW (tX _ _);simp [g]
  rw [bO (ρ1:=[aD p,aD o,y,z]) (Ω':=Ω.set p (bD keep many tk cR lost)++[.lst (aK S)]) (by rw [vY src];exact lp)];have l1:(dW keep many tk cR lost).lookup ("lost" : Str)=some (.val (.int lost)):=rfl;have l2:(dW keep gL lH eM iT).lookup ("lost" : Str)=some (.val (.int iT)):=rfl;rw [bO (tI (b := .int (lost+iT)) (by rfl) a1 (by simp) (bI (a := .int lost) (b := .int iT) (by simp [a1,l1]) (by simp [a2,l2]) (by simp)))];rw [Kh,LZ hp];exact mC (iS b1 rfl rfl (as:=[]) (das:=[]) rfl rfl qd)
 rw [e];simp only [tJ];exact Hr hp
theorem ar1(cA:o≠p)(h:Ω[p]? = some (bD keep many tk rs lost))(h2:Ω[o]? = some (bD keep gL lH eM iT))(nd:(rs.map (·.1)).Nodup)(hl:rs.length+eM.length<64)(hm:many+gL≤1000000000) :
  ∃E,QZ [.aB p,.aB o] Ω=aG (.bH) (Ω.set p (bD keep (many+gL) (tk+lH) (gF keep (dY rs (cZ eM))) (lost+iT+taken (dY rs (cZ eM)) keep))++E):=by
 have hp:p<Ω.length:=(bX.mp h).1;have ho:o<Ω.length:=(bX.mp h2).1;obtain⟨E,qt⟩:=arS cA h h2 nd hl;have qk:=arU h2 (.aB p);have qr:=Ts h gL hm;generalize gF keep (dY rs (cZ eM))=iE at qt;generalize lost+iT+taken (dY rs (cZ eM)) keep=nG at qt;have a1:(Ω.set p (bD keep many tk iE nG)++E)[p]? = some (bD keep many tk iE nG):=HN hp;have a2:(Ω.set p (bD keep many tk iE nG)++E)[o]? = some (bD keep gL lH eM iT):=by rw [BV ho cA];exact h2
 have b1:(Ω.set p (bD keep (many+gL) tk iE nG)++E)[p]? = some (bD keep (many+gL) tk iE nG):=HN hp;have b2:(Ω.set p (bD keep (many+gL) tk iE nG)++E)[o]? = some (bD keep gL lH eM iT):=by rw [BV ho cA];exact h2
 show ∃E,trim Ω (fZ (PZ [aD p,aD o] Ω))=_;have e:PZ [aD p,aD o] Ω=fA [aD p,aD o] (Ω.set p (bD keep (many+gL) (tk+lH) iE nG)++E):=by
  unfold PZ;have kp1:(dW keep many tk rs lost).lookup ("keep" : Str)=some (.val (.int keep)):=rfl;have kp2:(dW keep gL lH eM iT).lookup ("keep" : Str)=some (.val (.int keep)):=rfl;have t1:(iP (lT (bJ (cP "same_kind" [("Often",cK 2 [] JU)] aP (aE aX a0)))) (bJ (aC iY (eT ["Often"] "keep" aX) (eT ["Often"] "keep" aP)))) [aD p,aD o] Ω=aG false Ω:=by
   rw [FH (WD (b:=true) (jX (iS h (by rfl) (by rfl) (as:=[.aB o]) (das:=[]) (bR (aQ (by rfl)) eU) (by rfl) (by exact qk))))];exact jX (bI (a := .int keep) (b := .int keep) (by simp [h2,kp2]) (by simp [h,kp1]) (by simp))
  rw [bO (qV t1)];have m2:(dW keep gL lH eM iT).lookup ("many" : Str)=some (.val (.int gL)):=rfl;rw [bO (mC (iS h (by rfl) (by rfl) (as:=[.int gL]) (das:=[]) (bR (by simp [h2,m2]) eU) (by rfl) (by exact qr)))];rw [bO (mC (iS h (by rfl) (by rfl) (as:=[.aB o]) (das:=[]) (bR (aQ (by rfl)) eU) (by rfl) (by exact qt)))];have m1:(dW keep many tk iE nG).lookup ("many" : Str)=some (.val (.int many)):=rfl;rw [bO (tI (b := .int (many+gL)) (by rfl) a1 (by simp) (bI (a := .int many) (b := .int gL) (by simp [a1,m1]) (by simp [a2,m2]) (by simp)))];rw [Kg,LZ hp];have k1:(dW keep (many+gL) tk iE nG).lookup ("taken" : Str)=some (.val (.int tk)):=rfl;have k2:(dW keep gL lH eM iT).lookup ("taken" : Str)=some (.val (.int lH)):=rfl;rw [tI (b := .int (tk+lH)) (by rfl) b1 (by simp) (bI (a := .int tk) (b := .int lH) (by simp [b1,k1]) (by simp [b2,k2]) (by simp))];rw [Kf,LZ hp]
 rw [e];simp only [tJ];exact Hr hp
end
section
variable{Ω Ω':aI}{ρ:Ev}
theorem ajN{n k:Nat}(h:k<n):qU n (k:Int)=some k:=by
 unfold qU;simp [h]
theorem lK{f g:Ev→Mo A}{a:A}{ds:List A}{k:Nat}{d:A}(hf:f ρ Ω=aG a Ω)(hg:g ρ Ω=aG (.int (k:Int)) Ω)(hs:fH Ω a=some ds)(hd:ds[k]? = some d):aC bB f g ρ Ω=aG d Ω:=by
 refine bI hf hg ?_;have:jO ds (k:Int)=some d:=by rw [IT];exact hd
 simp [bB,hs,this]
theorem Se{fe:Ev→Mo A}{i k:Nat}{ds:List A}{a:A}(h:(ρ[i]?).join=(aD k))(hc:Ω[k]? = some (.lst ds))(he:fe ρ Ω=aG a Ω)(hl:ds.length<1000):EH CB (dH i) (aE fe a0) ρ Ω=aG (.bH) (Ω.set k (.lst (ds++[a]))):=by
 have hz:ds.length<sizeLine:=by rw [kJ];omega
 unfold EH;rw [bQ (aQ h),if_pos (aj0 (lW hc)),bQ (bR he eU)];simp only [CB,Ra hc,if_pos hz]
theorem Ik{fe fi:Ev→Mo A}{i k j:Nat}{ds:List A}{a:A}(h:(ρ[i]?).join=(aD k))(hc:Ω[k]? = some (.lst ds))(hi:fi ρ Ω=aG (.int (j:Int)) Ω)(hj:j<ds.length)(he:fe ρ Ω=aG a Ω):cM fe (yP (dH i) fi) ρ Ω=fA ρ (Ω.set k (.lst (ds.set j a))):=by
 unfold cM;rw [fQ he];unfold yP;rw [fQ (aQ h),fQ hi];simp only [setCell,hc,ajN hj]
theorem Io(Ω:aI)(a b:Cell):(Ω++[a,b])[Ω.length]? = some a:=by simp
theorem Im(Ω:aI)(a b:Cell):(Ω++[a,b])[Ω.length+1]? = some b:=by
 rw [nP (by omega)];simp
theorem ac6(Ω:aI)(a b c:Cell):(Ω++[a,b]).set Ω.length c=Ω++[c,b]:=by simp
theorem TQ(Ω:aI)(a b c:Cell):(Ω++[a,b]).set (Ω.length+1) c=Ω++[a,c]:=by
 rw [Et _ _ (by omega)];simp
theorem acJ{f:Ev→Mo A}{n:Int}(h:f ρ Ω=aG (.int n) Ω)(cm:kE n n):(aC bE (aC (bY) (aC (fD) f f) (cI 1009)) rJ) ρ Ω=aG (.int (n*n%1009+3)) Ω:=by
 have h2:aC fD f f ρ Ω=aG (.int (n*n)) Ω:=by
  refine bI h h ?_;simp only [fD,gI];rw [vJ _ cm];rfl
 generalize n*n=m at h2;exact bI (bI h2 (b := .int 1009) rfl (c := .int (m%1009)) (by simp)) (b := .int 3) rfl (by simp)
end
theorem aoB(ns rest oM ds:List Int)(b:Bool)(k:Nat)(hk:k<250)(h0:0<rest.length)(hs:oM.length=rest.length)(hd:ds.length≤250)(x7:Option A)(Ω:aI) :
  ∃(lV:List Int) (d:Int) (rG:Option A),lV.length=rest.length∧0≤d∧d<2147483587 ∧
   IP [some (.bK ns),aA 250,aD Ω.length,some (.bl b),aJ (oM.map A.int),aD (Ω.length+1),aA k,x7] (Ω++[.lst (rest.map A.int),.lst (ds.map A.int)])
    = fA [some (.bK ns),aA 250,aD Ω.length,some (.bl b),aJ (oM.map A.int),aD (Ω.length+1),aA k,rG] (Ω++[.lst (lV.map A.int),.lst ((ds++[d]).map A.int)]):=by
 have g1:=Io Ω (.lst (rest.map A.int)) (.lst (ds.map A.int));have g2:=Im Ω (.lst (rest.map A.int)) (.lst (ds.map A.int));obtain⟨a,ha⟩:=zT (wQ (k:Int) (show(rest.length:Int)≠0 by omega));have OF:a<rest.length:=by
  have:=wR (k:Int) (show(0:Int)<(rest.length:Int)by omega);omega
 have sa:a<oM.length:=by omega
 generalize hr:rest[a]=r;generalize hsd:oM[a]=sd;have Nf:(rest.map A.int)[a]? = (aA r):=by simp [OF,hr]
 have akP:(oM.map A.int)[a]? = (aA sd):=by simp [sa,hsd]
 unfold IP;have e1:(aC (bY) fF (aW iK (aE bT a0))) [some (.bK ns),aA 250,aD Ω.length,some (.bl b),aJ (oM.map A.int),aD (Ω.length+1),aA k,x7] (Ω++[.lst (rest.map A.int),.lst (ds.map A.int)])=aG (.int (a:Int)) (Ω++[.lst (rest.map A.int),.lst (ds.map A.int)]):=by
  have l1:dF (Ω++[Cell.lst (rest.map A.int),.lst (ds.map A.int)]) (.aB Ω.length)=some (rest.map A.int):=lW g1;have yF:(0:Int)<(rest.length:Int):=by omega
  refine bI (aQ (a := .int k) rfl) (b := .int rest.length) (wF (as:=[.aB Ω.length]) (bR (aQ rfl) eU) (by simp only [iK,acV,l1,eG])) ?_;simp only [bY,gI];rw [vJ _ yF,ha];rfl
 rw [bO (gZ e1)];simp only [iM,iL];have l1:fH (Ω++[Cell.lst (rest.map A.int),.lst (ds.map A.int)]) (.aB Ω.length)=some (rest.map A.int):=lW g1;have e2:(aC bB bT iO) [some (.bK ns),aA 250,aD Ω.length,some (.bl b),aJ (oM.map A.int),aD (Ω.length+1),aA k,aA (a:Int)] (Ω++[.lst (rest.map A.int),.lst (ds.map A.int)])=aG (.int r) (Ω++[.lst (rest.map A.int),.lst (ds.map A.int)]):=lK (aQ rfl) (aQ rfl) l1 Nf;have e3:(aC bB cL iO) [some (.bK ns),aA 250,aD Ω.length,some (.bl b),aJ (oM.map A.int),aD (Ω.length+1),aA k,aA (a:Int)] (Ω++[.lst (rest.map A.int),.lst (ds.map A.int)])=aG (.int sd) (Ω++[.lst (rest.map A.int),.lst (ds.map A.int)]):=lK (aQ (a := .lst (oM.map A.int)) rfl) (aQ rfl) rfl akP;have tc:(iP (bJ dG) (bJ (aC iZ (aC bB bT iO) bM))) [some (.bK ns),aA 250,aD Ω.length,some (.bl b),aJ (oM.map A.int),aD (Ω.length+1),aA k,aA (a:Int)] (Ω++[.lst (rest.map A.int),.lst (ds.map A.int)])=aG (b||r == 0) (Ω++[.lst (rest.map A.int),.lst (ds.map A.int)]):=by
  have t3:(bJ dG) [some (.bK ns),aA 250,aD Ω.length,some (.bl b),aJ (oM.map A.int),aD (Ω.length+1),aA k,aA (a:Int)] (Ω++[.lst (rest.map A.int),.lst (ds.map A.int)])=aG b (Ω++[.lst (rest.map A.int),.lst (ds.map A.int)]):=jX (aQ rfl);cases b with
  | true=>unfold iP;rw [bQ t3];rfl
  | false =>
   rw [FH t3];exact jX (bI e2 (b := .int 0) rfl (by simp))
 by_cases hc:(b||r == 0)=true
 ·have m0:=wQ sd (show(2147483647:Int)≠0 by decide);have m1:=wR sd (show(0:Int)<2147483647 by decide);have q1:=Tr (sd%2147483647) ((k:Int)+7) (Ω++[.lst (rest.map A.int),.lst (ds.map A.int)]) m0 (by omega) (by omega) (by omega);have c0:=Lp (sd%2147483647) ((k:Int)+7);have c1:=Lo (sd%2147483647) ((k:Int)+7);generalize BE (sd%2147483647) ((k:Int)+7)=z at q1 c0 c1;have w0:=wQ ((k:Int)*(k:Int)) (show(1009:Int)≠0 by decide);have w1:=wR ((k:Int)*(k:Int)) (show(0:Int)<1009 by decide);have q2:=Tr z ((k:Int)*(k:Int)%1009+3) (Ω++[.lst (rest.map A.int),.lst (ds.map A.int)]) c0 (by omega) (by omega) (by omega);have d0:=Lp z ((k:Int)*(k:Int)%1009+3);have d1:=Lo z ((k:Int)*(k:Int)%1009+3);generalize BE z ((k:Int)*(k:Int)%1009+3)=d at q2 d0 d1;refine⟨rest,d,aA (a:Int),rfl,d0,by omega,?_⟩;rw [hc]at tc;unfold dZ;rw [fQ tc];simp only [jI];have cm:kE (k:Int) (k:Int):=uB (by omega) (by omega);have f1:(aW (eB 2 zW) (aE (aW (eB 2 zW) (aE (aC (bY) (aC bB cL iO) (cI 2147483647)) (aE (aC bE fF KJ) a0))) (aE (aC bE (aC (bY) (aC (fD) fF fF) (cI 1009)) rJ) a0))) [some (.bK ns),aA 250,aD Ω.length,some (.bl b),aJ (oM.map A.int),aD (Ω.length+1),aA k,aA (a:Int)] (Ω++[.lst (rest.map A.int),.lst (ds.map A.int)])=aG (.int d) (Ω++[.lst (rest.map A.int),.lst (ds.map A.int)]) :=
   pD (as:=[.int z,.int ((k:Int)*(k:Int)%1009+3)]) (bR (pD (as:=[.int (sd%2147483647),.int ((k:Int)+7)]) (bR (bI e3 (b := .int 2147483647) rfl (by simp)) (bR (bI (aQ (a := .int k) rfl) (b := .int 7) rfl (by simp)) eU)) rfl q1) (bR (acJ (aQ rfl) cm) eU)) rfl q2
  rw [mC (Se (k:=Ω.length+1) rfl g2 f1 (by simp;omega))];rw [TQ];simp
 ·rw [Bool.not_eq_true]at hc;have d0:=wQ r (show(2147483587:Int)≠0 by decide);have d1:=wR r (show(0:Int)<2147483587 by decide);refine⟨rest.set a (r/2147483587),r%2147483587,aA (a:Int),by simp,d0,by omega,?_⟩;rw [hc]at tc;unfold dZ;rw [fQ tc];simp only [sT,iX];rw [bO (mC (Se (i:=5) (k:=Ω.length+1) (a := .int (r%2147483587)) rfl g2 (bI e2 (b := .int 2147483587) rfl (by simp)) (by simp;omega)))];rw [TQ];have Oy:=Io Ω (.lst (rest.map A.int)) (.lst (ds.map A.int++[.int (r%2147483587)]));have WS:fH (Ω++[Cell.lst (rest.map A.int),.lst (ds.map A.int++[.int (r%2147483587)])]) (.aB Ω.length)=some (rest.map A.int):=lW Oy;have dw:JZ r 2147483587:=⟨by decide,by decide⟩;rw [Ik (k:=Ω.length) (j:=a) (a := .int (r/2147483587)) rfl Oy (aQ rfl) (by simpa using OF) (bI (lK (aQ rfl) (aQ rfl) WS Nf) (b := .int 2147483587) rfl (by simp [gI,dw]))];rw [ac6];simp [List.map_set]
theorem MG{f:Ev→Mo (List A)}{ρ:Ev}{Ω Ω':aI}{j:Int}(h:f ρ Ω=aG [.int j] Ω')(hs:tE j):sX f ρ Ω=aG (vA 0 j.toNat) Ω':=by
 unfold sX;rw [bQ h];show mb (mV (tE j)) _ Ω'=_;rw [vJ _ hs];rfl
theorem Px(ns rest:List Int)(h0:0<rest.length)(h1:rest.length≤100)(Ω:aI):∃(ds:List Int) (ρ':Ev) (c1:Cell),ds.length=250∧(∀d∈ds,0≤d∧d<2147483587) ∧
  (bC (cM (aC iZ (aC (bY) (aC bB bT bM) fO) bL) (gN 3))
  (bC (cM (aC (eI) (aC bB bT bM) fO) (yP bT bM))
  (bC (cM (aW (tY false) (aE bT a0)) (gN 4))
  (bC (cM (mP true a0) (gN 5))
  (bC (oO (sX (aE aX a0)) (gN 6) IP)
  (dE (EF 5))))))) [some (.bK ns),aA 250,aD Ω.length,none,none,none,none,none] (Ω++[.lst (rest.map A.int)])=some (.ret (.lst (ds.map A.int)),ρ',Ω++[c1,.dead]):=by
 obtain⟨r0,lV,rfl⟩:∃r0 lV,rest=r0::lV:=by
  cases rest with
  | nil=>simp at h0
  | cons a l=>exact⟨a,l,rfl⟩
 have g0:(Ω++[Cell.lst ((r0::lV).map A.int)])[Ω.length]? = some (.lst ((r0::lV).map A.int)):=tX _ _;have l0:fH (Ω++[Cell.lst ((r0::lV).map A.int)]) (.aB Ω.length)=some ((r0::lV).map A.int):=lW g0;have xW:∀x3:Option A,(aC bB bT bM) [some (.bK ns),aA 250,aD Ω.length,x3,none,none,none,none] (Ω++[.lst ((r0::lV).map A.int)])=aG (.int r0) (Ω++[.lst ((r0::lV).map A.int)]):=fun x3=>lK (k:=0) (aQ rfl) rfl l0 rfl;generalize hb:(r0%2 == 1)=b;have e1:(aC iZ (aC (bY) (aC bB bT bM) fO) bL) [some (.bK ns),aA 250,aD Ω.length,none,none,none,none,none] (Ω++[.lst ((r0::lV).map A.int)])=aG (.bl b) (Ω++[.lst ((r0::lV).map A.int)]) :=
  bI (bI (xW _) (b := .int 2) rfl (c := .int (r0%2)) (by simp)) (b := .int 1) rfl (by rw [← hb];simp)
 have d2:kQ r0 2:=⟨by decide,by decide⟩;have e2:(cM (aC (eI) (aC bB bT bM) fO) (yP bT bM)) [some (.bK ns),aA 250,aD Ω.length,some (.bl b),none,none,none,none] (Ω++[.lst ((r0::lV).map A.int)])=fA [some (.bK ns),aA 250,aD Ω.length,some (.bl b),none,none,none,none] (Ω++[.lst ((r0/2::lV).map A.int)]):=by
  rw [Ik (k:=Ω.length) (j:=0) (a := .int (r0/2)) rfl g0 rfl (by simp) (bI (xW _) (b := .int 2) rfl (by simp [gI,d2])),AQ];rfl
 generalize hR:r0/2::lV=R at e2;have hRl:R.length=lV.length+1:=by rw [← hR];rfl
 have g3:(Ω++[Cell.lst (R.map A.int)])[Ω.length]? = some (.lst (R.map A.int)):=tX _ _;have hz:(R.map A.int).length≤sizeLine:=by rw [kJ];simp only [eG,jP]at *;omega
 have e3:(aW (tY false) (aE bT a0)) [some (.bK ns),aA 250,aD Ω.length,some (.bl b),none,none,none,none] (Ω++[.lst (R.map A.int)])=aG (.lst (R.map A.int)) (Ω++[.lst (R.map A.int)]):=by
  refine wF (as:=[.aB Ω.length]) (bR (aQ rfl) eU) ?_;have l3:fH (Ω++[Cell.lst (R.map A.int)]) (.aB Ω.length)=some (R.map A.int):=lW g3;have l3':dF (Ω++[Cell.lst (R.map A.int)]) (.aB Ω.length)=some (R.map A.int):=lW g3;simp [tY,l3',hz]
 obtain⟨ρ1,Ω1,ef,tG,ds,x6,x7,rfl,rfl,a1,a2,a3⟩:=OO (ok:=fun _=>True) (g:=gN 6) (b:=IP)
  (fun i ρ Ω'=>∃(tG ds:List Int) (x6 x7:Option A),ρ=[some (.bK ns),aA 250,aD Ω.length,some (.bl b),aJ (R.map A.int),aD (Ω.length+1),x6,x7]∧Ω'=Ω++[.lst (tG.map A.int),.lst (ds.map A.int)]∧tG.length=R.length∧ds.length=i∧∀d∈ds,0≤d∧d<2147483587) (fun _ _ _ _=>trivial)
  ((List.range 250).map fun(i:Nat)=>A.int (0+(i:Int))) 0 [some (.bK ns),aA 250,aD Ω.length,some (.bl b),aJ (R.map A.int),aD (Ω.length+1),none,none] (Ω++[.lst (R.map A.int),.lst []]) ⟨R,[],none,none,rfl,rfl,rfl,rfl,by simp⟩
  (by
   rintro i x ρ Ω' hx ⟨tG,ds,x6,x7,rfl,rfl,a1,a2,a3⟩;have hi:i<250:=by simpa using(bX.mp hx).1
   obtain rfl:A.int (0+(i:Int))=x:=by
    have:=(bX.mp hx).2;simpa using this
   rw [CV]at a2 ⊢;rw [Int.zero_add];obtain⟨ad1,d,rG,b1,b2,b3,q⟩:=aoB ns tG R ds b i hi (by omega) a1.symm (by omega) x7 Ω;refine⟨[some (.bK ns),aA 250,aD Ω.length,some (.bl b),aJ (R.map A.int),aD (Ω.length+1),aA (i:Int),x7],_,_,_,by simp,.inl q,ad1,ds++[d],_,rG,rfl,rfl,by omega,by simp [a2],fun e he=>?_⟩
   rcases JC.mp he with z | z
   ·exact a3 e z
   ·simp at z;subst z;exact⟨b2,b3⟩)
 simp only [CV,eG,JE]at a2;refine⟨ds,[some (.bK ns),aA 250,aD Ω.length,some (.bl b),aJ (R.map A.int),aD (Ω.length+1),x6,x7],.lst (tG.map A.int),a2,a3,?_⟩;rw [bO (gZ e1)];simp only [iM,iL];rw [bO e2,bO (gZ e3)];simp only [iM,iL];rw [bO (ρ1:=[some (.bK ns),aA 250,aD Ω.length,some (.bl b),aJ (R.map A.int),aD (Ω.length+1),none,none]) (Ω':=Ω++[.lst (R.map A.int),.lst []]) (by simp [iR])];rw [bO (ρ1:=[some (.bK ns),aA 250,aD Ω.length,some (.bl b),aJ (R.map A.int),aD (Ω.length+1),x6,x7]) (Ω':=Ω++[.lst (tG.map A.int),.lst (ds.map A.int)]) (by
  rw [vY (MG (j:=250) (Ω':=Ω++[Cell.lst (R.map A.int),Cell.lst []]) (bR (aQ (by rfl)) eU) (by unfold tE;decide))];exact ef)]
 have g5:=Im Ω (.lst (tG.map A.int)) (.lst (ds.map A.int));have s5:=TQ Ω (.lst (tG.map A.int)) (.lst (ds.map A.int)) .dead;simp [g5,s5,Ra g5]
theorem ar3(ns:List Int)(GL:ns.length≤63):∃ds:List Int,ds.length=250∧(∀d∈ds,0≤d∧d<2147483587)∧QY [.bK ns,.int 250] []=aG (.lst (ds.map A.int)) []:=by
 have hz:ns.length≤sizeLine:=by rw [kJ];omega
 have h1s:(1:Nat)≤sizeLine:=by decide
 have i1:(cM (aW (tY true) (aE aP a0)) (gN 2)) [some (.bK ns),aA 250,none,none,none,none,none,none] []=fA [some (.bK ns),aA 250,aD 0,none,none,none,none,none] [.lst (ns.map A.int)]:=by
  simp [tY,iR,hz]
 have ne:iZ (.aB 0) (.lst []) [.lst (ns.map A.int)]=aG (.bl ns.isEmpty) [.lst (ns.map A.int)]:=by
  have rc:res [Cell.lst (ns.map A.int)] 6 (.aB 0)=some (.lst (ns.map A.int)):=Jn rfl;have NS:cS 8 (.lst [])=true:=rfl;have r2:res [Cell.lst (ns.map A.int)] 6 (.lst [])=some (.lst []):=vB NS;have he:fL 8 (.lst (ns.map A.int)) (.lst [])=ns.isEmpty:=by cases ns <;> rfl
  simp [iZ,vW,rc,r2,AV,NS,he]
 have fin:∀(ds:List Int) (ρ':Ev) (Δ:aI),IQ [some (.bK ns),aA 250,none,none,none,none,none,none] []=some (.ret (.lst (ds.map A.int)),ρ',Δ)→QY [.bK ns,.int 250] []=aG (.lst (ds.map A.int)) []:=fun ds ρ' Δ e=>by
  show trim [] (fZ (IQ [some (.bK ns),aA 250,none,none,none,none,none,none] []))=_;rw [e];simp only [BA];exact LG (Ω:=[]) (by simp only [Cl];exact OX _ _)
 cases hn:ns.isEmpty with
 | true =>
  obtain⟨ds,ρ',c1,a1,a2,q⟩:=Px ns [0] (by simp) (by simp) [.lst (ns.map A.int)];refine⟨ds,a1,a2,fin ds ρ' ([.lst (ns.map A.int)]++[c1,.dead]) ?_⟩;unfold IQ;rw [bO i1];rw [hn]at ne;rw [bO (ρ1:=[some (.bK ns),aA 250,aD 1,none,none,none,none,none]) (Ω':=[.lst (ns.map A.int),.lst [.int 0]]) (by simp [ne,iR,h1s])];exact q
 | false =>
  have yF:0<ns.length:=by cases ns <;> simp_all
  obtain⟨ds,ρ',c1,a1,a2,q⟩:=Px ns ns yF (by omega) [];refine⟨ds,a1,a2,fin ds ρ' ([]++[c1,.dead]) ?_⟩;unfold IQ;rw [bO i1];rw [hn]at ne;rw [bO (ρ1:=[some (.bK ns),aA 250,aD 0,none,none,none,none,none]) (Ω':=[.lst (ns.map A.int)]) (by simp [ne])];exact q
structure Slot(Ω:aI)(keep p q:Nat)(B:Int)(Bw:Nat):Prop where
 ex:∃rs lost ws many tk,Ω[p]? = some (bD keep many tk rs lost)∧Ω[q]? = some (.aU (encD ws))∧nL keep rs lost ws many∧many≤B∧ws.length≤Bw
structure gE(Ω:aI)(keep:Nat)(ps qs:List Nat)(B:Int)(Bw:Nat):Prop where
 len:ps.length=qs.length
 nd:(ps++qs).Nodup
 slot:∀(i p q:Nat),ps[i]? = some p→qs[i]? = some q→Slot Ω keep p q B Bw
section
variable{Ω Ω':aI}{keep:Nat}{ps qs:List Nat}{B B':Int}{Bw KA:Nat}
theorem Slot.lt{p q:Nat}(s:Slot Ω keep p q B Bw):p<Ω.length∧q<Ω.length:=by
 obtain⟨rs,lost,ws,many,tk,h1,h2,_⟩:=s.ex;exact⟨(bX.mp h1).1,(bX.mp h2).1⟩
theorem Slot.mono{p q:Nat}(s:Slot Ω keep p q B Bw)(hp:Ω'[p]? = Ω[p]?)(hq:Ω'[q]? = Ω[q]?)(hB:B≤B')(hW:Bw≤KA):Slot Ω' keep p q B' KA:=by
 obtain⟨rs,lost,ws,many,tk,h1,h2,h3,h4,h5⟩:=s.ex;exact⟨rs,lost,ws,many,tk,hp.trans h1,hq.trans h2,h3,by omega,by omega⟩
theorem gE.ne(h:gE Ω keep ps qs B Bw){i j p q p' q':Nat}(hp:ps[i]? = some p)(hq:qs[i]? = some q)(jK:ps[j]? = some p')(mR:qs[j]? = some q')(kX:j≠i):p'≠p∧p'≠q∧q'≠p∧q'≠q:=by
 have nd:=zN.mp h.nd;refine⟨fun e=>?_,fun e=>?_,fun e=>?_,fun e=>?_⟩
 ·subst e;exact kX (rT nd.1 jK hp)
 ·exact nd.2.2 p' (pQ jK) q (pQ hq) e
 ·exact nd.2.2 p (pQ hp) q' (pQ mR) e.symm
 ·subst e;exact kX (rT nd.2.1 mR hq)
theorem gE.pq(h:gE Ω keep ps qs B Bw){i p q:Nat}(hp:ps[i]? = some p)(hq:qs[i]? = some q):p≠q:=fun e =>
 (zN.mp h.nd).2.2 p (pQ hp) q (pQ hq) e
theorem gE.upd(h:gE Ω keep ps qs B Bw){i p q:Nat}(hp:ps[i]? = some p)(hq:qs[i]? = some q)(hk:∀k,k≠p→k≠q→k<Ω.length→Ω'[k]? = Ω[k]?)(hs:Slot Ω' keep p q B' KA)(hB:B≤B')(hW:Bw≤KA):gE Ω' keep ps qs B' KA where
 len:=h.len
 nd:=h.nd
 slot:=fun j p' q' jK mR=>by
  by_cases kX:j=i
  ·subst kX;rw [hp]at jK;cases jK;rw [hq]at mR;cases mR;exact hs
  ·obtain⟨n1,n2,n3,n4⟩:=h.ne hp hq jK mR kX;have s:=h.slot j p' q' jK mR;exact s.mono (hk p' n1 n2 s.lt.1) (hk q' n3 n4 s.lt.2) hB hW
theorem gE.same(h:gE Ω keep ps qs B Bw)(hk:∀k,k<Ω.length→Ω'[k]? = Ω[k]?):gE Ω' keep ps qs B Bw:=⟨h.len,h.nd,fun i p q hp hq=>by
 have s:=h.slot i p q hp hq;exact s.mono (hk p s.lt.1) (hk q s.lt.2) NO bP⟩
theorem gE.get(h:gE Ω keep ps qs B Bw){i:Nat}(hi:i<ps.length):∃p q,ps[i]? = some p∧qs[i]? = some q∧Slot Ω keep p q B Bw :=
 ⟨ps[i],qs[i]'(by rw [← h.len];exact hi),jC _,jC _,h.slot i _ _ (jC _) (jC _)⟩
theorem Jp{α:Type}(l:List α)(o i:Nat)(ho:o≤l.length):(l.take o++l.drop (o+1))[i]? = l[if i<o then i else i+1]?:=by
 by_cases h:i<o
 ·rw [if_pos h,fV (by simp;omega),zP,if_pos h]
 ·rw [if_neg h,nP (by simp;omega),List.getElem?_drop];congr 1;simp;omega
theorem gE.rem(h:gE Ω keep ps qs B Bw)(o:Nat)(ho:o<ps.length):gE Ω keep (ps.take o++ps.drop (o+1)) (qs.take o++qs.drop (o+1)) B Bw where
 len:=by have:=h.len;simp;omega
 nd:=by
  have nd:=zN.mp h.nd;have s1:(ps.take o++ps.drop (o+1)).Sublist ps:=by
   have e:ps.take o++ps.drop o=ps:=Es o ps;have:=(List.Sublist.refl (ps.take o)).append (List.drop_sublist 1 (ps.drop o));rw [List.drop_drop,e]at this;exact this
  have s2:(qs.take o++qs.drop (o+1)).Sublist qs:=by
   have e:qs.take o++qs.drop o=qs:=Es o qs;have:=(List.Sublist.refl (qs.take o)).append (List.drop_sublist 1 (qs.drop o));rw [List.drop_drop,e]at this;exact this
  exact(s1.append s2).nodup h.nd
 slot:=fun i p q hp hq=>by
  rw [Jp _ _ _ (by omega)]at hp;rw [Jp _ _ _ (by rw [← h.len];omega)]at hq;exact h.slot _ p q hp hq
end
section
variable{Ω Ω':aI}{ρ:Ev}{p keep:Nat}{many tk lost:Int}{rs:List Rn}
theorem WJ{m:Str}{F:List A→Mo A}{n:Nat}{as:List A}{fo:Ev→Mo A}{fs:Ev→Mo (List A)}{a:A}(h:Ω[p]? = some (bD keep many tk rs lost))(hl:(dW keep many tk rs lost).lookup m=none)(h0:fo ρ Ω=aG (.aB p) Ω)(ha:fs ρ Ω=aG as Ω)(hn:as.length+1=n)
  (hF:F (.aB p::as) Ω=aG a Ω'):cP m [("Often",cK n [] F)] fo fs ρ Ω=aG a Ω':=by
 unfold cP;rw [bQ h0];have lk:List.lookup ("Often" : Str) [(("Often" : Str),cK n [] F)]=some (cK n [] F):=by simp [List.lookup]
 simp only [OK,h,lk,hl];rw [bQ ha];simp only [cK];rw [if_pos (by simp only [jP,QO];omega),DI];exact hF
theorem anB{fo fi:Ev→Mo A}{k:Nat}{ws:List Rn}{n:Int}(h0:fo ρ Ω=aG (.aB k) Ω)(h:Ω[k]? = some (.aU (encD ws)))(h1:fi ρ Ω=aG (.int n) Ω):iW fo fi bM ρ Ω=aG (.int (aR ws n)) Ω:=by
 have cd:gO Ω (.aB k)=some (k,encD ws):=pC h;unfold iW;rw [bQ h0];rw [if_pos ⟨_,_,cd⟩];rw [bQ h1];rw [bQ (x := .int 0) (Ω':=Ω) (by simp)];simp only [HS,cd,lY,KU]
theorem Kj{fo fi fe:Ev→Mo A}{k:Nat}{ws:List Rn}{n t:Int}(h0:fo ρ Ω=aG (.aB k) Ω)(h:Ω[k]? = some (.aU (encD ws)))(h1:fi ρ Ω=aG (.int n) Ω)(h2:fe ρ Ω=aG (.int t) Ω)(nd:(ws.map (·.1)).Nodup)(hl:ws.length<100000) :
  xJ (aC bE (iW fo fi bM) fe) fo fi ρ Ω=fA ρ (Ω.set k (.aU (encD (bS ws n t)))):=by
 have cd:gO Ω (.aB k)=some (k,encD ws):=pC h;have hz:(encD ws).length<sizeLine:=by rw [kJ];simp [encD];omega
 unfold xJ;rw [fQ (bI (a := .int (aR ws n)) (b := .int t) (c := .int (aR ws n+t)) (anB h0 h h1) h2 (by simp))];rw [fQ h0,fQ h1];simp only [MA,cd,lY,if_pos hz,VQ ws n t nd]
end
theorem arR(c:Int)(hc:0≤c):∃t,1≤t∧t≤100000∧∀Ω,uK [.int c] Ω=aG (.int t) Ω:=by
 have d6:kQ c 6:=⟨by decide,by decide⟩;have h6:(6:Nat)≤sizeLine:=by decide
 have hm:c%6=0∨c%6=1∨c%6=2∨c%6=3∨c%6=4∨c%6=5:=by omega
 rcases hm with e | e | e | e | e | e
 ·exact⟨1,by omega,by omega,fun Ω=>by simp [uK,zG,e,d6,h6]⟩
 ·exact⟨1,by omega,by omega,fun Ω=>by simp [uK,zG,e,d6,h6]⟩
 ·exact⟨1,by omega,by omega,fun Ω=>by simp [uK,zG,e,d6,h6]⟩
 ·exact⟨1+c/6%3,by omega,by omega,fun Ω=>by simp [uK,zG,e,d6,h6]⟩
 ·exact⟨1+c/6%9,by omega,by omega,fun Ω=>by simp [uK,zG,e,d6,h6]⟩
 ·exact⟨1+c/6%100000,by omega,by omega,fun Ω=>by simp [uK,zG,e,d6,h6]⟩
theorem NC{ρ:Ev}{Ω:aI}{i:Nat}{ds:List A}(h:(ρ[i]?).join=some (.lst ds)):(aW iK (aE (dH i) a0)) ρ Ω=aG (.int ds.length) Ω:=wF (as:=[.lst ds]) (bR (aQ h) eU) (by simp)
theorem anN{keep:Nat}(hk:keep≤60){ps qs:List Nat}{B:Int}{Bw:Nat}{Ω:aI}(h:gE Ω keep ps qs B Bw)(hB:B+100000≤1000000000)(hW:Bw<90000)(es:List Int)(he:∀e∈es,0≤e∧e<2147483587)(way:Int)(yF:0<ps.length)(i:Nat)(hi:2*i+1<es.length)(hi2:i<1000)(x5 x6 x7:Option A) :
  ∃(Gh Gg rG:Option A) (Ω':aI),Ω'.length=Ω.length∧gE Ω' keep ps qs (B+100000) (Bw+1) ∧
   PN [aJ (es.map A.int),aJ (ps.map A.aB),aJ (qs.map A.aB),aA way,aA i,x5,x6,x7] Ω=fA [aJ (es.map A.int),aJ (ps.map A.aB),aJ (qs.map A.aB),aA way,aA i,Gh,Gg,rG] Ω':=by
 have i0:2*i<es.length:=by omega
 obtain⟨zH,Sd⟩:=he es[2*i] (uG i0);obtain⟨Sk,b1'⟩:=he es[2*i+1] (uG hi);have g0:(es.map A.int)[2*i]? = (aA (es[2*i])):=by simp [i0]
 have g1:(es.map A.int)[2*i+1]? = (aA (es[2*i+1])):=by simp [hi]
 generalize es[2*i]=e0 at zH Sd g0;generalize es[2*i+1]=e1 at Sk b1' g1;obtain⟨v,qv⟩:=arY e0 way zH Sd;obtain⟨t,t1,t2,qt⟩:=arR e1 Sk;have hlen:((ps.map A.aB).length:Int)=(ps.length:Int):=by simp
 obtain⟨a,ha⟩:=zT (wQ (e1/600000) (show(ps.length:Int)≠0 by omega));have OF:a<ps.length:=by
  have:=wR (e1/600000) (show(0:Int)<(ps.length:Int)by omega);omega
 obtain⟨p,q,hp,hq,sl⟩:=h.get OF;obtain⟨rs,lost,ws,many,tk,h1,h2,s,hm,sA⟩:=sl.ex;have GH:=h.pq hp hq;have lt:=sl.lt;have GI:(ps.map A.aB)[a]? = (aD p):=by rw [gK,hp];rfl
 have GG:(qs.map A.aB)[a]? = (aD q):=by rw [gK,hq];rfl
 have cm:kE 2 (i:Int):=uB (by decide) (by decide);have em:∀(y5 y6 y7:Option A),(aC (fD) fO cL) [aJ (es.map A.int),aJ (ps.map A.aB),aJ (qs.map A.aB),aA way,aA i,y5,y6,y7] Ω=aG (.int ((2*i:Nat):Int)) Ω:=fun y5 y6 y7=>by
  refine bI (a := .int 2) rfl (aQ (a := .int i) rfl) ?_;simp only [fD,gI];rw [vJ _ cm];simp
 have em1:∀(y5 y6 y7:Option A),(aC bE (aC (fD) fO cL) bL) [aJ (es.map A.int),aJ (ps.map A.aB),aJ (qs.map A.aB),aA way,aA i,y5,y6,y7] Ω=aG (.int ((2*i+1:Nat):Int)) Ω:=fun y5 y6 y7=>bI (em _ _ _) (b := .int 1) rfl (by simp);have eI0:∀(y5 y6 y7:Option A),(aC bB aP (aC (fD) fO cL)) [aJ (es.map A.int),aJ (ps.map A.aB),aJ (qs.map A.aB),aA way,aA i,y5,y6,y7] Ω=aG (.int e0) Ω:=fun y5 y6 y7=>lK (aQ rfl) (em _ _ _) rfl g0;have Pw:∀(y5 y6 y7:Option A),(aC bB aP (aC bE (aC (fD) fO cL) bL)) [aJ (es.map A.int),aJ (ps.map A.aB),aJ (qs.map A.aB),aA way,aA i,y5,y6,y7] Ω=aG (.int e1) Ω:=fun y5 y6 y7=>lK (aQ rfl) (em1 _ _ _) rfl g1;obtain⟨n,hn⟩:∃n:Int,(dZ (bJ (aC iZ dG qK)) (cM (aC (bY) cL Gp) (gN 5)) fP) [aJ (es.map A.int),aJ (ps.map A.aB),aJ (qs.map A.aB),aA way,aA i,aA v,x6,x7] Ω=fA [aJ (es.map A.int),aJ (ps.map A.aB),aJ (qs.map A.aB),aA way,aA i,aA n,x6,x7] Ω:=by
  have et:(bJ (aC iZ dG qK)) [aJ (es.map A.int),aJ (ps.map A.aB),aJ (qs.map A.aB),aA way,aA i,aA v,x6,x7] Ω=aG (way == 4) Ω:=jX (bI (aQ (a := .int way) rfl) (b := .int 4) rfl (by simp))
  by_cases h4:way=4
  ·refine⟨(i:Int)%11,?_⟩;rw [BK et,if_pos (by simpa using h4)];exact gZ (bI (aQ (a := .int i) rfl) (b := .int 11) rfl (by simp))
  ·refine⟨v,?_⟩;rw [BK et,if_neg (by simpa using h4)];rfl
 have s':=s.next n t t1
 have YW:=arV h1 s.nd (by have:=s.len;omega) n t t1 (by omega);have vN:(Ω.set p (bD keep (many+t) (tk+1) (gF keep (bS rs n t)) (lost+taken (bS rs n t) keep)))[q]? = some (.aU (encD ws)):=by rw [gS GH];exact h2
 have YY:(Ω.set p (bD keep (many+t) (tk+1) (gF keep (bS rs n t)) (lost+taken (bS rs n t) keep)))[p]? = some (bD keep (many+t) (tk+1) (gF keep (bS rs n t)) (lost+taken (bS rs n t) keep)):=xF lt.1;generalize gF keep (bS rs n t)=iE at s' YW vN YY;generalize lost+taken (bS rs n t) keep=nG at s' YW vN YY;refine⟨aA n,aA t,aA (a:Int),(Ω.set p (bD keep (many+t) (tk+1) iE nG)).set q (.aU (encD (bS ws n t))),by simp,?_,?_⟩
 ·refine h.upd hp hq (fun k k1 k2 _=>by rw [gS (bV k2),gS (bV k1)]) ⟨iE,nG,bS ws n t,many+t,tk+1,?_,?_,s',by omega,by have:=BG ws n t;omega⟩ (by omega) (by omega)
  ·rw [gS (bV GH)];exact YY
  ·rw [gR (by simpa using lt.2)]
 ·unfold PN;rw [bO (gZ (Ω':=Ω) (a := .int v) (pD (as:=[.int e0,.int way]) (bR (eI0 _ _ _) (bR (aQ (by rfl)) eU)) (by rfl) (qv _)))];simp only [iM,iL];rw [bO hn];rw [bO (gZ (Ω':=Ω) (a := .int t) (pD (as:=[.int e1]) (bR (Pw _ _ _) eU) (by rfl) (qt _)))];simp only [iM,iL];have dv:kQ e1 600000:=⟨by decide,by decide⟩;have pp:(0:Int)<((ps.map A.aB).length:Int):=by rw [hlen];omega
  have eA:(aC (bY) (aC (eI) (aC bB aP (aC bE (aC (fD) fO cL) bL)) (cI 600000)) (aW iK (aE aX a0))) [aJ (es.map A.int),aJ (ps.map A.aB),aJ (qs.map A.aB),aA way,aA i,aA n,aA t,x7] Ω=aG (.int (a:Int)) Ω:=by
   refine bI (a := .int (e1/600000)) (bI (Pw _ _ _) (b := .int 600000) rfl (by simp [gI,dv])) (NC (ds:=ps.map A.aB) rfl) ?_;simp only [bY,gI];rw [vJ _ pp,hlen,ha];rfl
  rw [bO (gZ eA)];simp only [iM,iL];rw [bO (mC (WJ h1 (by rfl) (lK (k:=a) (aQ (a := .lst (ps.map A.aB)) (by rfl)) (aQ (by rfl)) (by rfl) GI) (as:=[.int n,.int t]) (bR (aQ (by rfl)) (bR (aQ (by rfl)) eU)) (by rfl) (by exact YW)))];exact Kj (lK (k:=a) (aQ (a := .lst (qs.map A.aB)) rfl) (aQ rfl) rfl GG) vN (aQ rfl) (aQ rfl) s.sV (by omega)
theorem Tv{keep:Nat}(hk:keep≤60){ps qs:List Nat}{B:Int}{Bw:Nat}{Ω:aI}(h:gE Ω keep ps qs B Bw)(hB:B+6200000≤1000000000)(hW:Bw<80000)(es:List Int)(he:∀e∈es,0≤e∧e<2147483587)(GZ:es.length≤123)(way:Int)(yF:0<ps.length) :
  ∃Ω',JO [.lst (es.map A.int),.lst (ps.map A.aB),.lst (qs.map A.aB),.int way] Ω=aG (.bH) Ω'∧Ω'.length=Ω.length∧gE Ω' keep ps qs (B+6200000) (Bw+62):=by
 obtain⟨ρ1,Ω1,ef,x4,x5,x6,x7,rfl,l1,a1⟩:=OO (ok:=fun _=>True) (g:=gN 4) (b:=PN)
  (fun i ρ Ω'=>∃(x4 x5 x6 x7:Option A),ρ=[aJ (es.map A.int),aJ (ps.map A.aB),aJ (qs.map A.aB),aA way,x4,x5,x6,x7]∧Ω'.length=Ω.length∧gE Ω' keep ps qs (B+(i:Int)*100000) (Bw+i)) (fun _ _ _ _=>trivial)
  ((List.range (es.length/2)).map fun(i:Nat)=>A.int (0+(i:Int))) 0 [aJ (es.map A.int),aJ (ps.map A.aB),aJ (qs.map A.aB),aA way,none,none,none,none] Ω ⟨none,none,none,none,rfl,rfl,by simpa using h⟩
  (by
   rintro i x ρ Ω' hx ⟨x4,x5,x6,x7,rfl,l1,a1⟩;have hi:i<es.length/2:=by simpa using(bX.mp hx).1
   obtain rfl:A.int (0+(i:Int))=x:=by
    have:=(bX.mp hx).2;simpa using this
   rw [CV]at a1 ⊢;rw [Int.zero_add];obtain⟨Gh,Gg,rG,Ω2,l2,a2,q⟩:=anN hk a1 (by omega) (by omega) es he way yF i (by omega) (by omega) x5 x6 x7;refine⟨[aJ (es.map A.int),aJ (ps.map A.aB),aJ (qs.map A.aB),aA way,aA (i:Int),x5,x6,x7],Ω',_,Ω2,by simp,.inl q,_,_,_,_,rfl,by omega,?_⟩;have e:B+(((i+1:Nat)):Int)*100000=B+(i:Int)*100000+100000:=by omega
   rw [e];exact a2)
 simp only [CV,eG,JE]at a1;refine⟨Ω1,?_,l1,⟨a1.len,a1.nd,fun i p q hp hq=>(a1.slot i p q hp hq).mono rfl rfl (by omega) (by omega)⟩⟩;show trim Ω (fZ (PQ [aJ (es.map A.int),aJ (ps.map A.aB),aJ (qs.map A.aB),aA way,none,none,none,none] Ω))=_;have d2:kQ (es.length:Int) 2:=⟨by decide,by decide⟩;have e:PQ [aJ (es.map A.int),aJ (ps.map A.aB),aJ (qs.map A.aB),aA way,none,none,none,none] Ω=fA [aJ (es.map A.int),aJ (ps.map A.aB),aJ (qs.map A.aB),aA way,x4,x5,x6,x7] Ω1:=by
  unfold PQ;have hl:(aW iK (aE aP a0)) [aJ (es.map A.int),aJ (ps.map A.aB),aJ (qs.map A.aB),aA way,none,none,none,none] Ω=aG (.int es.length) Ω:=by
   rw [NC (ds:=es.map A.int) rfl];simp
  have hd:(aC (eI) (aW iK (aE aP a0)) fO) [aJ (es.map A.int),aJ (ps.map A.aB),aJ (qs.map A.aB),aA way,none,none,none,none] Ω=aG (.int ((es.length:Int)/2)) Ω:=bI hl (b := .int 2) rfl (by simp [gI,d2]);rw [vY (MG (j:=(es.length:Int)/2) (Ω':=Ω) (bR hd eU) (by unfold tE;omega))];have ej:((es.length:Int)/2).toNat=es.length/2:=by omega
  show dO _ _ _ ((List.range ((es.length:Int)/2).toNat).map fun(i:Nat)=>A.int (0+(i:Int))) _ _=_;rw [ej];exact ef
 rw [e];simp only [tJ];exact xB l1
theorem Mj{keep:Nat}{ps qs:List Nat}{one q:Nat}(hq:(qs.map A.aB)[one]? = (aD q))(x0 x3:Option A):∀(l ws:List Rn) (Ω:aI) (y z:Option A),Ω[q]? = some (.aU (encD ws))→(ws.map (·.1)).Nodup→ws.length+l.length<90000 →
  ∃y' z',dO (fun Ω'=>fH Ω' (.lst (aK l))=some (aK l)∨True) (oX 2 (iU (gN 4) (iU (gN 5) qA))) Cz (aK l) [x0,aJ (qs.map A.aB),aA (one:Int),x3,y,z] Ω=fA [x0,aJ (qs.map A.aB),aA (one:Int),x3,y',z'] (Ω.set q (.aU (encD (dY ws l))))
 | [],ws,Ω,y,z,h,nd,hl=>⟨y,z,by rw [show dY ws []=ws from rfl,xE h];simp [aK,dO]⟩
 | r::l,ws,Ω,y,z,h,nd,hl=>by
  have dD:q<Ω.length:=(bX.mp h).1;have h2:(Ω.set q (.aU (encD (bS ws r.1 r.2))))[q]? = some (.aU (encD (bS ws r.1 r.2))):=xF dD;obtain⟨y',z',e⟩:=Mj (keep:=keep) (ps:=ps) hq x0 x3 l (bS ws r.1 r.2) _ (aA r.1) (aA r.2) h2 (xQ ws r.1 r.2 nd) (by have:=BG ws r.1 r.2;simp only [jP]at hl;omega);rw [rF]at e;refine⟨y',z',?_⟩;have ef:∀(MU MT:aI→Prop),(∀Ω,MU Ω)→(∀Ω,MT Ω)→∀(g:A→MS) (b:MS) (xs:List A) (ρ:Ev) (Ω:aI),dO MU g b xs ρ Ω=dO MT g b xs ρ Ω:=fun MU MT o1 o2 g b xs=>by
   have:MU=MT:=funext fun Ω=>propext ⟨fun _=>o2 Ω,fun _=>o1 Ω⟩;rw [this];exact fun _ _=>rfl
  rw [ef _ (fun Ω'=>fH Ω' (.lst (aK l))=some (aK l)∨True) (fun _ => .inr trivial) (fun _ => .inr trivial)];show dO _ _ _ (eW r::aK l) _ _=fA _ (Ω.set q (.aU (encD (dY (bS ws r.1 r.2) l))));rw [← e];refine yW (ρ0:=[x0,aJ (qs.map A.aB),aA (one:Int),x3,aA r.1,aA r.2]) (Ω0:=Ω) (.inr trivial) (by simp [eW]) ?_;unfold Cz;exact Kj (lK (k:=one) (aQ (a := .lst (qs.map A.aB)) rfl) (aQ rfl) rfl hq) h (aQ rfl) (aQ rfl) nd (by simp only [jP]at hl;omega)
theorem Ws{Ω Ω':aI}{a:A}:∃uM,trim Ω (some (.ok a,Ω'))=aG a uM∧(uM=Ω'∨(uM=Ω∧Ω'.take Ω.length=Ω)):=by
 simp only [trim];split
 ·rename_i hc;exact⟨Ω,rfl,.inr ⟨rfl,hc.1⟩⟩
 ·exact⟨Ω',rfl,.inl rfl⟩
theorem Tu{keep:Nat}(hk:keep≤30){ps qs:List Nat}{B Bo:Int}{Bw:Nat}{Ω:aI}(h:gE Ω keep ps qs B Bw)(hB:B+Bo≤1000000000)(hW:Bw<40000){one other po qo:Nat}(cA:other≠one)(h1:one<ps.length)(yG:ps[other]? = some po)(GF:qs[other]? = some qo)(so:Slot Ω keep po qo Bo Bw)(hBo:0≤Bo) :
  ∃Ω',JN [.lst (ps.map A.aB),.lst (qs.map A.aB),.int (one:Int),.int (other:Int)] Ω=aG (.bH) Ω'∧gE Ω' keep ps qs (B+Bo) (Bw+Bw)∧Slot Ω' keep po qo Bo Bw:=by
 obtain⟨p,q,hp,hq,sl⟩:=h.get h1;obtain⟨rs,lost,ws,many,tk,e1,e2,s,hm,sA⟩:=sl.ex;obtain⟨eM,iT,iC,gL,lH,f1,f2,s2,hm2,atX⟩:=so.ex;obtain⟨n1,n2,n3,n4⟩:=h.ne hp hq yG GF cA;have GH:=h.pq hp hq;have lt:=sl.lt;have FQ:=so.lt;obtain⟨E,qj⟩:=ar1 n1 e1 f1 s.nd (by have:=s.len;have:=s2.len;omega) (by omega);have s':=s.join s2;generalize gF keep (dY rs (cZ eM))=iE at qj s';generalize lost+iT+taken (dY rs (cZ eM)) keep=nG at qj s';generalize hX:bD keep (many+gL) (tk+lH) iE nG=X at qj;have GI:(ps.map A.aB)[one]? = (aD p):=by rw [gK,hp];rfl
 have BN:(ps.map A.aB)[other]? = (aD po):=by rw [gK,yG];rfl
 have GG:(qs.map A.aB)[one]? = (aD q):=by rw [gK,hq];rfl
 have akR:(qs.map A.aB)[other]? = (aD qo):=by rw [gK,GF];rfl
 have w1:(Ω.set p X++E)[q]? = some (.aU (encD ws)):=by rw [BV lt.2 (bV GH)];exact e2
 have w2:(Ω.set p X++E)[qo]? = some (.aU (encD iC)):=by rw [BV FQ.2 n3];exact f2
 obtain⟨y,z,lp⟩:=Mj (keep:=keep) (ps:=ps) GG (some (.lst (ps.map A.aB))) (aA (other:Int)) iC ws (Ω.set p X++E) none none w1 s.sV (by omega);have big:∀k,k<Ω.length→k≠p→k≠q→((Ω.set p X++E).set q (.aU (encD (dY ws iC))))[k]? = Ω[k]?:=fun k hk k1 k2=>by
  rw [gS (bV k2),BV hk k1]
 have bp:((Ω.set p X++E).set q (.aU (encD (dY ws iC))))[p]? = some X:=by rw [gS (bV GH),HN lt.1]
 have bq:((Ω.set p X++E).set q (.aU (encD (dY ws iC))))[q]? = some (.aU (encD (dY ws iC))):=xF (by simp;omega);have qZ:gE ((Ω.set p X++E).set q (.aU (encD (dY ws iC)))) keep ps qs (B+Bo) (Bw+Bw) :=
  h.upd hp hq (fun k k1 k2 k3=>big k k3 k1 k2) ⟨iE,nG,dY ws iC,many+gL,tk+lH,by rw [bp,← hX],bq,s',by omega,by have:=WQ iC ws;omega⟩ (by omega) (by omega)
 have Nb:Slot ((Ω.set p X++E).set q (.aU (encD (dY ws iC)))) keep po qo Bo Bw:=so.mono (big po FQ.1 n1 n2) (big qo FQ.2 n3 n4) NO bP;have e:PM [aJ (ps.map A.aB),aJ (qs.map A.aB),aA (one:Int),aA (other:Int),none,none] Ω=fA [aJ (ps.map A.aB),aJ (qs.map A.aB),aA (one:Int),aA (other:Int),y,z] ((Ω.set p X++E).set q (.aU (encD (dY ws iC)))):=by
  unfold PM;rw [bO (mC (WJ e1 (by rfl) (lK (k:=one) (aQ (a := .lst (ps.map A.aB)) (by rfl)) (aQ (by rfl)) (by rfl) GI) (as:=[.aB po]) (bR (lK (k:=other) (aQ (a := .lst (ps.map A.aB)) (by rfl)) (aQ (by rfl)) (by rfl) BN) eU) (by rfl) (by exact qj)))];have cd:gO (Ω.set p X++E) (.aB qo)=some (qo,encD iC):=pC w2;have ix:(aC bB aX dG) [aJ (ps.map A.aB),aJ (qs.map A.aB),aA (one:Int),aA (other:Int),none,none] (Ω.set p X++E)=aG (.aB qo) (Ω.set p X++E):=lK (k:=other) (aQ (a := .lst (qs.map A.aB)) rfl) (aQ rfl) rfl akR;have src:(fY (KY false (aC bB aX dG))) [aJ (ps.map A.aB),aJ (qs.map A.aB),aA (one:Int),aA (other:Int),none,none] (Ω.set p X++E)=aG (srcOf (.lst (aK iC)) (aK iC)) (Ω.set p X++E):=by
   unfold fY;rw [bQ (x := .lst (aK iC)) (Ω':=Ω.set p X++E) (by
    unfold KY;rw [bQ ix];simp only [cd,NL];rfl)]
   simp
  rw [vY src];have eo:(srcOf (.lst (aK iC)) (aK iC)).ok=fun Ω'=>fH Ω' (.lst (aK iC))=some (aK iC)∨True:=funext fun Ω'=>propext ⟨fun _ => .inr trivial,fun _=>by simp⟩;rw [eo];exact lp
 obtain⟨uM,t1,t2⟩:=Ws (Ω:=Ω) (Ω':=(Ω.set p X++E).set q (.aU (encD (dY ws iC)))) (a := .bH);refine⟨uM,?_,?_⟩
 ·show trim Ω (fZ (PM [aJ (ps.map A.aB),aJ (qs.map A.aB),aA (one:Int),aA (other:Int),none,none] Ω))=_;rw [e];exact t1
 ·rcases t2 with z | ⟨z1,z2⟩
  ·rw [z];exact⟨qZ,Nb⟩
  ·rw [z1];have same:∀k,k<Ω.length→Ω[k]? = ((Ω.set p X++E).set q (.aU (encD (dY ws iC))))[k]?:=fun k hk=>by
    have:=congrArg (fun l:aI=>l[k]?) z2;simp only [zP,if_pos hk]at this;exact this.symm
   refine⟨⟨qZ.len,qZ.nd,fun i p' q' jK mR=>?_⟩,?_⟩
   ·have l':=(h.slot i p' q' jK mR).lt;exact(qZ.slot i p' q' jK mR).mono (same p' l'.1) (same q' l'.2) NO bP
   ·exact Nb.mono (same po FQ.1) (same qo FQ.2) NO bP
theorem apQ(ds:List A)(a b:Nat)(h:a≤b)(h2:b≤ds.length):qB ds (some (a:Int)) (some (b:Int))=(ds.drop a).take (b - a):=by
 unfold qB;rw [HT.ME,HT.ME,Nat.min_eq_left h2,Nat.min_eq_left (by omega)]
theorem apN(ds:List A)(n:Nat)(h:n≤ds.length):qB ds none (some (n:Int))=ds.take n:=by
 unfold qB;rw [HT.Jm,HT.ME,Nat.min_eq_left h];simp
theorem apR(ds:List A)(n:Nat)(h:n≤ds.length):qB ds (some (n:Int)) none=ds.drop n:=by
 unfold qB;rw [HT.Jm,HT.ME,Nat.min_eq_left h];rw [Er (by simp)]
def dQ(n k:Nat):List Nat:=(List.range k).map fun j=>n+j
theorem ap4(n k:Nat):dQ n (k+1)=dQ n k++[n+k]:=by simp [dQ,List.range_succ]
theorem Lj{ok:aI→Prop}(aH:∀Ω,ok Ω){e:Ev→Mo A}{c:Cell}{P:Ev→Prop}(hP:∀ρ x,P ρ→P (ρ.set 0 (some x)))(he:∀ρ Ω,P ρ→e ρ Ω=aG (.aB Ω.length) (Ω++[c]))(Ω0:aI):∀(xs:List A) (m:Nat) (ρ:Ev),P ρ→m+xs.length≤1000 →
  ∃ρ',lN ok (gN 0) oG e Ω0.length xs ρ (Ω0++(.lst ((dQ (Ω0.length+1) m).map A.aB)::List.replicate m c))=some (ρ',Ω0++(.lst ((dQ (Ω0.length+1) (m+xs.length)).map A.aB)::List.replicate (m+xs.length) c))
 | [],m,ρ,_,_=>⟨ρ,by simp [lN,aH]⟩
 | x::xs,m,ρ,hp,hl=>by
  simp only [jP]at hl;obtain⟨ρ',ih⟩:=Lj aH hP he Ω0 xs (m+1) (ρ.set 0 (some x)) (hP ρ x hp) (by omega);refine⟨ρ',?_⟩;have ex:=he (ρ.set 0 (some x)) (Ω0++(.lst ((dQ (Ω0.length+1) m).map A.aB)::List.replicate m c)) (hP ρ x hp);have el:(Ω0++(Cell.lst ((dQ (Ω0.length+1) m).map A.aB)::List.replicate m c)).length=Ω0.length+1+m:=by simp;omega
  rw [el]at ex;have eg:(Ω0++(Cell.lst ((dQ (Ω0.length+1) m).map A.aB)::List.replicate m c)++[c])[Ω0.length]? = some (.lst ((dQ (Ω0.length+1) m).map A.aB)):=by
   rw [Fc,nP (by omega)];simp
  have es:(Ω0++(Cell.lst ((dQ (Ω0.length+1) m).map A.aB)::List.replicate m c)++[c]).set Ω0.length (.lst ((dQ (Ω0.length+1) m).map A.aB++[.aB (Ω0.length+1+m)]))=Ω0++(.lst ((dQ (Ω0.length+1) (m+1)).map A.aB)::List.replicate (m+1) c):=by
   rw [Fc,Et _ _ (by omega),ap4];simp [List.replicate_succ']
  have hz:((dQ (Ω0.length+1) m).map A.aB).length<sizeLine:=by rw [kJ];simp [dQ];omega
  have e2:m+(xs.length+1)=m+1+xs.length:=by omega
  rw [jP,e2,← ih]
  conv=>lhs;unfold lN
  rw [if_pos (aH _)];simp only [gN,oG,VB,ex,eg,if_pos hz,es]
theorem Li{n:Nat}{js:List Nat}{fi:Ev→Mo Src}{e:Ev→Mo A}{c:Cell}{P:Ev→Prop}(hP:∀ρ x,P ρ→P (ρ.set 0 (some x)))(he:∀ρ Ω,P ρ→e ρ Ω=aG (.aB Ω.length) (Ω++[c])){ρ:Ev}{Ω:aI}{S:Src}(hS:fi ρ Ω=aG S Ω)(aH:∀Ω,S.ok Ω)(hρ:P (tM n js ρ))(hl:S.ds.length≤1000)(h0:0<S.ds.length) :
  kG false n js fi (gN 0) oG e ρ Ω=aG (.lst ((dQ (Ω.length+1) S.ds.length).map A.aB)) (Ω++(.dead::List.replicate S.ds.length c)):=by
 obtain⟨ρ',q⟩:=Lj aH hP he Ω S.ds 0 (tM n js ρ) hρ (by omega);simp only [CV]at q;have e0:(Ω++[Cell.lst []])=Ω++(.lst ((dQ (Ω.length+1) 0).map A.aB)::List.replicate 0 c):=by simp [dQ]
 unfold kG;rw [bQ hS,e0,q];have eg:(Ω++(Cell.lst ((dQ (Ω.length+1) S.ds.length).map A.aB)::List.replicate S.ds.length c))[Ω.length]? = some (.lst ((dQ (Ω.length+1) S.ds.length).map A.aB)):=by
  rw [nP (by omega)];simp
 have ec:¬fX Ω.length ((dQ (Ω.length+1) S.ds.length).map A.aB):=fun h=>by
  have:=Qu (i:=0) (d := .aB (Ω.length+1)) h (by simp [dQ,h0]);simp only [Cl]at this;omega
 simp only [NG,eg];rw [if_neg (by simp),if_neg fun z=>ec z.2];rw [Et _ _ (by omega)];simp
theorem arH(keep P:Nat):gE (.dead::(List.replicate P (bD keep 0 0 [] 0)++(.dead::List.replicate P (.aU [])))) keep (dQ 1 P) (dQ (P+2) P) 0 0 where
 len:=by simp [dQ]
 nd:=by
  rw [zN];refine⟨?_,?_,fun a ha b hb=>?_⟩
  ·exact JB.mpr ((List.nodup_range).imp fun h z=>h (by omega))
  ·exact JB.mpr ((List.nodup_range).imp fun h z=>h (by omega))
  ·obtain⟨i,hi,rfl⟩:=mG.mp ha;obtain⟨j,hj,rfl⟩:=mG.mp hb;rw [List.mem_range]at hi hj;omega
 slot:=fun i p q hp hq=>by
  have hi:i<P:=by have:=(bX.mp hp).1;simpa [dQ]using this
  have ep:p=1+i:=by have:=(bX.mp hp).2;simp [dQ]at this;omega
  have eq:q=P+2+i:=by have:=(bX.mp hq).2;simp [dQ]at this;omega
  refine⟨[],0,[],0,0,?_,?_,acH keep,by omega,by simp⟩
  ·rw [ep,show 1+i=i+1 by omega,Ey,fV (by simpa using hi)];simp [hi]
  ·rw [eq,show P+2+i=(P+1+i)+1 by omega,Ey,nP (by simp;omega)];rw [Ud,show P+1+i - P=i+1 by omega,Ey];simp [hi,encD]
section
variable{ρ:Ev}{Ω:aI}
theorem AZ{f:Ev→Mo A}{i:Int}(h:f ρ Ω=aG (.int i) Ω):jV f ρ Ω=aG (some i) Ω:=by
 unfold jV;rw [bQ h];rfl
theorem LV{f:Ev→Mo A}{l h:Ev→Mo (Option Int)}{L:List A}{lo hi:Option Int}(hf:f ρ Ω=aG (.lst L) Ω)(hl:l ρ Ω=aG lo Ω)(hh:h ρ Ω=aG hi Ω):mO false f l h ρ Ω=aG (.lst (qB L lo hi)) Ω:=by
 unfold mO;rw [bQ hf,bQ hl,bQ hh];rfl
theorem aqC{f g:Ev→Mo A}{a b:List A}(hf:f ρ Ω=aG (.lst a) Ω)(hg:g ρ Ω=aG (.lst b) Ω)(h:a.length+b.length≤1000):aC bE f g ρ Ω=aG (.lst (a++b)) Ω:=by
 have hz:¬sizeLine<a.length+b.length:=by rw [kJ];omega
 refine bI hf hg ?_;simp [HU,dF,xX,hz]
end
theorem Wo{keep:Nat}(hk:keep≤30){ps qs:List Nat}{B:Int}{Bw:Nat}{Ω:aI}(h:gE Ω keep ps qs B Bw)(hB:3*B≤1000000000)(Ol:0≤B)(hW:Bw<10000)(ns ds:List Int)(hd:ds.length=250)(gH:∀d∈ds,0≤d∧d<2147483587)(way:Int)(j:Nat)(hj:j<100)(h2:2≤ps.length)(hP:ps.length≤100)(x7 x8 x9 mJ:Option A) :
  ∃(o:Nat) (rG RJ RI:Option A) (Ω':aI),o<ps.length∧gE Ω' keep (ps.take o++ps.drop (o+1)) (qs.take o++qs.drop (o+1)) (3*B) (4*Bw) ∧
   PD [some (.bK ns),aJ (ds.map A.int),aA keep,aA way,aJ (ps.map A.aB),aJ (qs.map A.aB),aA (j:Int),x7,x8,x9,mJ] Ω
    = fA [some (.bK ns),aJ (ds.map A.int),aA keep,aA way,aJ ((ps.take o++ps.drop (o+1)).map A.aB),aJ ((qs.take o++qs.drop (o+1)).map A.aB),aA (j:Int),rG,RJ,RI,mJ] Ω':=by
 have Nl:2+j<ds.length:=by omega
 obtain⟨s0,s1⟩:=gH ds[2+j] (uG Nl);have Oo:(ds.map A.int)[2+j]? = (aA (ds[2+j])):=by simp [Nl]
 generalize ds[2+j]=st at s0 s1 Oo;have hq:qs.length=ps.length:=h.len.symm;have vQ:(0:Int)<(ps.length:Int) - 1:=by omega
 obtain⟨m,hm⟩:=zT (wQ st (show(ps.length:Int) - 1≠0 by omega));have mB:m+1<ps.length:=by
  have:=wR st vQ;omega
 have oS:(0:Int)<((m+1:Nat):Int):=by omega
 obtain⟨u,hu⟩:=zT (wQ (st/4) (show((m+1:Nat):Int)≠0 by omega));have hul:u<m+1:=by
  have:=wR (st/4) oS;omega
 have d4:kQ st 4:=⟨by decide,by decide⟩;have d16:kQ st 16:=⟨by decide,by decide⟩;have d32:kQ st 32:=⟨by decide,by decide⟩;have Af:(2:Nat)≤sizeLine:=by decide
 obtain⟨one,at4,HM⟩:∃one:Nat,one<m+1∧∃k:Nat,st/16%2=(k:Int)∧[A.int 0,.int (u:Int)][k]? = (aA (one:Int)):=by
  have:st/16%2=0∨st/16%2=1:=by omega
  rcases this with e | e
  ·exact⟨0,by omega,0,by omega,rfl⟩
  ·exact⟨u,hul,1,by omega,rfl⟩
 obtain⟨k16,alF,hix⟩:=HM;obtain⟨po,qo,yG,GF,so⟩:=h.get (i:=m+1) mB;obtain⟨Ω1,j1,a1,b1⟩:=Tu hk h (by omega) (by omega) (one:=one) (other:=m+1) (by omega) (by omega) yG GF so Ol;obtain ⟨Ω2, j2, a2⟩ : ∃ Ω2, (dZ (bJ (aC iZ (aC (bY) (aC (eI) iO (cI 32)) qJ) bM))
    (jG (aW (eB 4 JN) (aE cL (aE dJ (aE RM (aE mM a0))))))
    fP) [some (.bK ns),aJ (ds.map A.int),aA keep,aA way,aJ (ps.map A.aB),aJ (qs.map A.aB),aA (j:Int),aA st,aA ((m+1:Nat):Int),aA (one:Int),mJ] Ω1=fA [some (.bK ns),aJ (ds.map A.int),aA keep,aA way,aJ (ps.map A.aB),aJ (qs.map A.aB),aA (j:Int),aA st,aA ((m+1:Nat):Int),aA (one:Int),mJ] Ω2∧gE Ω2 keep ps qs (3*B) (4*Bw):=by
  have et:(bJ (aC iZ (aC (bY) (aC (eI) iO (cI 32)) qJ) bM)) [some (.bK ns),aJ (ds.map A.int),aA keep,aA way,aJ (ps.map A.aB),aJ (qs.map A.aB),aA (j:Int),aA st,aA ((m+1:Nat):Int),aA (one:Int),mJ] Ω1=aG (st/32%6 == 0) Ω1 :=
   jX (bI (bI (bI (aQ (a := .int st) rfl) (b := .int 32) rfl (c := .int (st/32)) (by simp [gI,d32])) (b := .int 6) rfl (c := .int (st/32%6)) (by simp)) (b := .int 0) rfl (by simp))
  by_cases h6:st/32%6=0
  ·obtain⟨Ω2,j2,a2,b2⟩:=Tu hk a1 (Bo:=B) (by omega) (by omega) (one:=one) (other:=m+1) (by omega) (by omega) yG GF (b1.mono rfl rfl NO (by omega)) Ol;refine⟨Ω2,?_,⟨a2.len,a2.nd,fun i p q hp hq=>(a2.slot i p q hp hq).mono rfl rfl (by omega) (by omega)⟩⟩;rw [BK et,if_pos (by simpa using h6)];exact mC (pD (as:=[.lst (ps.map A.aB),.lst (qs.map A.aB),.int (one:Int),.int ((m+1:Nat):Int)]) (bR (aQ rfl) (bR (aQ rfl) (bR (aQ rfl) (bR (aQ rfl) eU)))) rfl j2)
  ·refine⟨Ω1,?_,⟨a1.len,a1.nd,fun i p q hp hq=>(a1.slot i p q hp hq).mono rfl rfl (by omega) (by omega)⟩⟩;rw [BK et,if_neg (by simpa using h6)];rfl
 refine⟨m+1,aA st,aA ((m+1:Nat):Int),aA (one:Int),Ω2,mB,a2.rem (m+1) mB,?_⟩;unfold PD;rw [bO (gZ (Ω':=Ω) (a := .int st) (lK (k:=2+j) (aQ (a := .lst (ds.map A.int)) (by rfl)) (bI (a := .int 2) (by rfl) (aQ (a := .int (j:Int)) (by rfl)) (by simp)) (by rfl) Oo))];simp only [iM,iL];have eo:(aC bE bL (aC (bY) iO (aC (nW) (aW iK (aE cL a0)) bL))) [some (.bK ns),aJ (ds.map A.int),aA keep,aA way,aJ (ps.map A.aB),aJ (qs.map A.aB),aA (j:Int),aA st,x8,x9,mJ] Ω=aG (.int ((m+1:Nat):Int)) Ω:=by
  refine bI (a := .int 1) rfl (b := .int (m:Int)) (bI (aQ (a := .int st) rfl) (b := .int ((ps.length:Int) - 1)) (bI (NC (ds:=ps.map A.aB) rfl) (b := .int 1) rfl (by simp)) ?_) (by simp;omega);simp only [bY,gI];rw [vJ _ vQ,hm];rfl
 rw [bO (gZ eo)];simp only [iM,iL];have e1:(aC bB (mP false (aE bM (aE (aC (bY) (aC (eI) iO qK) mM) a0))) (aC (bY) (aC (eI) iO (cI 16)) fO)) [some (.bK ns),aJ (ds.map A.int),aA keep,aA way,aJ (ps.map A.aB),aJ (qs.map A.aB),aA (j:Int),aA st,aA ((m+1:Nat):Int),x9,mJ] Ω=aG (.int (one:Int)) Ω:=by
  have f1:(aC (bY) (aC (eI) iO qK) mM) [some (.bK ns),aJ (ds.map A.int),aA keep,aA way,aJ (ps.map A.aB),aJ (qs.map A.aB),aA (j:Int),aA st,aA ((m+1:Nat):Int),x9,mJ] Ω=aG (.int (u:Int)) Ω:=by
   refine bI (bI (aQ (a := .int st) rfl) (b := .int 4) rfl (c := .int (st/4)) (by simp [gI,d4])) (aQ (a := .int ((m+1:Nat):Int)) rfl) ?_;simp only [bY,gI];rw [vJ _ oS,hu];rfl
  refine lK (k:=k16) (a := .lst [.int 0,.int (u:Int)]) (ds:=[.int 0,.int (u:Int)]) ?_ ?_ rfl hix
  ·unfold mP;rw [bQ (bR (a := .int 0) (by rfl) (bR f1 eU))];simp [Af]
  ·rw [← alF];exact bI (bI (aQ (a := .int st) rfl) (b := .int 16) rfl (c := .int (st/16)) (by simp [gI,d16])) (b := .int 2) rfl (by simp)
 rw [bO (gZ e1)];simp only [iM,iL];rw [bO (mC (pD (as:=[.lst (ps.map A.aB),.lst (qs.map A.aB),.int (one:Int),.int ((m+1:Nat):Int)]) (bR (aQ (by rfl)) (bR (aQ (by rfl)) (bR (aQ (by rfl)) (bR (aQ (by rfl)) eU)))) (by rfl) j1))];rw [bO j2];have sl:∀(l:List Nat) (i:Nat) (ρ:Ev),l.length=ps.length→(ρ[i]?).join=some (.lst (l.map A.aB))→(ρ[8]?).join=(aA ((m+1:Nat):Int))→(aC bE (mO false (dH i) uW (jV mM)) (mO false (dH i) (jV (aC bE mM bL)) uW)) ρ Ω2=aG (.lst ((l.take (m+1)++l.drop (m+1+1)).map A.aB)) Ω2:=fun l i ρ hl hi h8=>by
  have c1:=apN (l.map A.aB) (m+1) (by simp;omega);have c2:=apR (l.map A.aB) (m+1+1) (by simp;omega);have s1:(mO false (dH i) uW (jV mM)) ρ Ω2=aG (.lst ((l.map A.aB).take (m+1))) Ω2:=by rw [← c1];exact LV (aQ hi) rfl (AZ (aQ h8))
  have s2:(mO false (dH i) (jV (aC bE mM bL)) uW) ρ Ω2=aG (.lst ((l.map A.aB).drop (m+1+1))) Ω2:=by rw [← c2];exact LV (aQ hi) (AZ (bI (aQ h8) (b := .int 1) rfl (by simp))) rfl
  rw [aqC s1 s2 (by simp;omega)];simp
 rw [bO (gZ (sl ps 4 _ rfl (by rfl) (by rfl)))];simp only [iM,iL];rw [gZ (sl qs 5 _ hq (by rfl) (by rfl))];simp only [iM,iL]
theorem Pp(ds:List Int)(a k:Nat)(h:a+2*k≤ds.length):qB (ds.map A.int) (some (a:Int)) (some ((a+2*k:Nat):Int))=((ds.drop a).take (2*k)).map A.int:=by
 rw [apQ _ a (a+2*k) (by omega) (by simpa using h)];rw [show a+2*k - a=2*k by omega];simp
theorem Po{ds:List Int}(gH:∀d∈ds,0≤d∧d<2147483587)(a k:Nat):∀e∈(ds.drop a).take (2*k),0≤e∧e<2147483587:=fun e he=>gH e (List.mem_of_mem_drop (Uc he))
theorem ai0(ns:List Int)(GL:ns.length≤63):∃W,Uo [.bK ns] []=aG (.bl true) W:=by
 obtain⟨ds,hd,gH,qd⟩:=ar3 ns GL;have l0:0<ds.length:=by omega
 have l1:1<ds.length:=by omega
 obtain⟨d00,_⟩:=gH ds[0] (uG l0);obtain⟨d10,_⟩:=gH ds[1] (uG l1);have g0:(ds.map A.int)[0]? = (aA (ds[0])):=by simp [l0]
 have g1:(ds.map A.int)[1]? = (aA (ds[1])):=by simp [l1]
 generalize ds[0]=d0 at d00 g0;generalize ds[1]=d1 at d10 g1;obtain⟨keep,alE⟩:=zT (show 0≤1+d0%9 by omega);have hk9:keep≤9:=by omega
 obtain⟨P,hP⟩:=zT (show 0≤2+d0/45%4 by omega);have vU:2≤P:=by omega
 have hP5:P≤5:=by omega
 obtain⟨k1,gX⟩:=zT (show 0≤d1%61 by omega);have auE:k1≤60:=by omega
 obtain⟨k2,iI⟩:=zT (show 0≤d1/183%61 by omega);have auD:k2≤60:=by omega
 have c9:kQ d0 9:=⟨by decide,by decide⟩;have c45:kQ d0 45:=⟨by decide,by decide⟩;have c61:kQ d1 61:=⟨by decide,by decide⟩;have aqY:kQ d1 183:=⟨by decide,by decide⟩;generalize akF:d0/9%5=way;have xW:∀(x2 x3 x4 x5 x6 x7 x8 x9 mJ:Option A) (Ω:aI),(aC bB aX bM) [some (.bK ns),aJ (ds.map A.int),x2,x3,x4,x5,x6,x7,x8,x9,mJ] Ω=aG (.int d0) Ω:=fun _ _ _ _ _ _ _ _ _ Ω=>lK (k:=0) (aQ (a := .lst (ds.map A.int)) rfl) rfl rfl g0;have YJ:∀(x2 x3 x4 x5 x6 x7 x8 x9 mJ:Option A) (Ω:aI),(aC bB aX bL) [some (.bK ns),aJ (ds.map A.int),x2,x3,x4,x5,x6,x7,x8,x9,mJ] Ω=aG (.int d1) Ω:=fun _ _ _ _ _ _ _ _ _ Ω=>lK (k:=1) (aQ (a := .lst (ds.map A.int)) rfl) rfl rfl g1;have cm2:∀x:Int,kE 2 x:=fun x=>uB (by decide) (by decide);have Lm:∀{f:Ev→Mo A} {ρ:Ev} {Ω:aI} {k:Nat},f ρ Ω=aG (.int (k:Int)) Ω→(aC (fD) fO f) ρ Ω=aG (.int ((2*k:Nat):Int)) Ω:=fun{f ρ Ω k} hf=>by
  refine bI (a := .int 2) rfl hf ?_;simp only [fD,gI];rw [vJ _ (cm2 _)];simp
 have q1:∀Ω0:aI,Ω0=[]→Rv [some (.bK ns),aJ (ds.map A.int),aA (keep:Int),aA way,none,none,none,none,none,none,none] Ω0=aG (.lst ((dQ 1 P).map A.aB)) (.dead::List.replicate P (bD keep 0 0 [] 0)):=fun Ω0 h0=>by
  subst h0;have hs:(sX (aE (aC bE fO (aC (bY) (aC (eI) (aC bB aX bM) (cI 45)) qK)) a0)) [some (.bK ns),aJ (ds.map A.int),aA (keep:Int),aA way,none,none,none,none,none,none,none] []=aG (vA 0 P) []:=by
   have e:(aC bE fO (aC (bY) (aC (eI) (aC bB aX bM) (cI 45)) qK)) [some (.bK ns),aJ (ds.map A.int),aA (keep:Int),aA way,none,none,none,none,none,none,none] []=aG (.int (P:Int)) []:=by
    rw [← hP];exact bI (a := .int 2) rfl (bI (bI (xW _ _ _ _ _ _ _ _ _ _) (b := .int 45) rfl (c := .int (d0/45)) (by simp [gI,c45])) (b := .int 4) rfl (c := .int (d0/45%4)) (by simp)) (by simp)
   have:=MG (j:=(P:Int)) (Ω':=[]) (bR e eU) (by unfold tE;omega);rw [this];simp
  have q:=Li (n:=1) (js:=[2]) (c:=bD keep 0 0 [] 0) (e:=aW (BX "Often" 2 zZ) (aE aX a0)) (P:=fun ρ=>∃u,ρ=[u,aA (keep:Int)]) (fun ρ x ⟨u,hu⟩=>⟨some x,by rw [hu];rfl⟩) (fun ρ Ω ⟨u,hu⟩=>by
   subst hu;exact wF (as:=[.int (keep:Int)]) (bR (aQ rfl) eU) (arZ keep Ω)) hs (fun _=>trivial) ⟨none,rfl⟩ (by simp;omega) (by simp;omega)
  have e2:(vA 0 P).ds.length=P:=by simp
  rw [e2]at q;exact q
 generalize Ms:Cell.dead::List.replicate P (bD keep 0 0 [] 0)=Ω1 at q1;have WS:Ω1.length=P+1:=by rw [← Ms];simp
 have q2:Ru [some (.bK ns),aJ (ds.map A.int),aA (keep:Int),aA way,aJ ((dQ 1 P).map A.aB),none,none,none,none,none,none] Ω1=aG (.lst ((dQ (P+2) P).map A.aB)) (Ω1++(.dead::List.replicate P (.aU []))):=by
  have hs:(fY cL) [some (.bK ns),aJ (ds.map A.int),aA (keep:Int),aA way,aJ ((dQ 1 P).map A.aB),none,none,none,none,none,none] Ω1=aG (srcOf (.lst ((dQ 1 P).map A.aB)) ((dQ 1 P).map A.aB)) Ω1:=by
   unfold fY;rw [bQ (aQ (a := .lst ((dQ 1 P).map A.aB)) rfl)];simp
  have e2:(srcOf (.lst ((dQ 1 P).map A.aB)) ((dQ 1 P).map A.aB)).ds.length=P:=by simp [dQ]
  have q:=Li (n:=1) (js:=[]) (c := .aU []) (e:=AJ) (P:=fun ρ=>∃u,ρ=[u]) (fun ρ x ⟨u,hu⟩=>⟨some x,by rw [hu];rfl⟩) (fun ρ Ω _=>rfl) hs (fun Ω=>by simp) ⟨none,rfl⟩ (by rw [e2];omega) (by rw [e2];omega);rw [e2,WS]at q;exact q
 have zH:gE (Ω1++(.dead::List.replicate P (.aU []))) keep (dQ 1 P) (dQ (P+2) P) 0 0:=by rw [← Ms];exact arH keep P
 have pl:(dQ 1 P).length=P:=by simp [dQ]
 generalize Ω1++(Cell.dead::List.replicate P (.aU []))=Ω2 at q2 zH;generalize dQ 1 P=AW at q1 q2 zH pl;generalize dQ (P+2) P=FC at q2 zH;have alU:=Pp ds 6 k1 (by omega);obtain⟨Ω3,qf,_,a3⟩:=Tv (by omega) zH (by omega) (by omega) ((ds.drop 6).take (2*k1)) (Po gH 6 k1) (by simp;omega) way (by omega);have s6:(mO false aX (jV qJ) (jV (aC bE qJ (aC (fD) fO (aC (bY) (aC bB aX bL) (cI 61)))))) [some (.bK ns),aJ (ds.map A.int),aA (keep:Int),aA way,aJ (AW.map A.aB),aJ (FC.map A.aB),none,none,none,none,none] Ω2=aG (.lst (((ds.drop 6).take (2*k1)).map A.int)) Ω2:=by
  rw [← alU];refine LV (aQ (a := .lst (ds.map A.int)) rfl) (AZ (i:=6) rfl) (AZ ?_);refine bI (a := .int 6) rfl (Lm (k:=k1) ?_) (by simp);rw [← gX];exact bI (YJ _ _ _ _ _ _ _ _ _ _) (b := .int 61) rfl (by simp)
 obtain⟨ρ1,Ω4,ej,x6,x7,x8,x9,ps,qs,rfl,dS,a4⟩:=OO (ok:=fun _=>True) (g:=gN 6) (b:=PD)
  (fun i ρ Ω'=>∃(x6 x7 x8 x9:Option A) (ps qs:List Nat),ρ=[some (.bK ns),aJ (ds.map A.int),aA (keep:Int),aA way,aJ (ps.map A.aB),aJ (qs.map A.aB),x6,x7,x8,x9,none]∧ps.length+i=P∧gE Ω' keep ps qs (6200000*3 ^ i) (62*4 ^ i)) (fun _ _ _ _=>trivial)
  ((List.range (P - 1)).map fun(i:Nat)=>A.int (0+(i:Int))) 0 [some (.bK ns),aJ (ds.map A.int),aA (keep:Int),aA way,aJ (AW.map A.aB),aJ (FC.map A.aB),none,none,none,none,none] Ω3 ⟨none,none,none,none,AW,FC,rfl,by omega,by simpa using a3⟩
  (by
   rintro i x ρ Ω' hx ⟨x6,x7,x8,x9,ps,qs,rfl,dS,a4⟩;have hi:i<P - 1:=by simpa using(bX.mp hx).1
   obtain rfl:A.int (0+(i:Int))=x:=by
    have:=(bX.mp hx).2;simpa using this
   rw [CV]at dS a4 ⊢;rw [Int.zero_add];have h3:(3:Int) ^ i≤27∧1≤(3:Int) ^ i∧(4:Nat) ^ i≤64:=by
    have:i=0∨i=1∨i=2∨i=3:=by omega
    rcases this with e | e | e | e <;> subst e <;> decide
   have e3:(6200000:Int)*3 ^ (i+1)=3*(6200000*3 ^ i):=by rw [Int.pow_succ];omega
   have e4:62*4 ^ (i+1)=4*(62*4 ^ i):=by rw [Nat.pow_succ];omega
   rw [e3,e4];obtain⟨t1,t2,t3⟩:=h3;generalize (3:Int) ^ i=b3 at a4 t1 t2;generalize (4:Nat) ^ i=b4 at a4 t3;obtain⟨o,rG,RJ,RI,Ω5,ho,a5,q⟩:=Wo (by omega) a4 (by omega) (by omega) (by omega) ns ds hd gH way i (by omega) (by omega) (by omega) x7 x8 x9 none;exact⟨[some (.bK ns),aJ (ds.map A.int),aA (keep:Int),aA way,aJ (ps.map A.aB),aJ (qs.map A.aB),aA (i:Int),x7,x8,x9,none],Ω',_,Ω5,by simp,.inl q,_,rG,RJ,RI,ps.take o++ps.drop (o+1),qs.take o++qs.drop (o+1),rfl,by simp;omega,a5⟩)
 simp only [CV,eG,JE]at dS a4;have hb:(3:Int) ^ (P - 1)≤81∧(4:Nat) ^ (P - 1)≤256:=by
  have:P - 1=1∨P - 1=2∨P - 1=3∨P - 1=4:=by omega
  rcases this with e | e | e | e <;> rw [e] <;> decide
 obtain⟨vR,oW⟩:=hb;generalize (3:Int) ^ (P - 1)=b3 at a4 vR;generalize (4:Nat) ^ (P - 1)=b4 at a4 oW;have alT:=Pp ds 126 k2 (by omega);obtain⟨Ω5,qg,a5⟩:∃Ω5,(dZ (bJ (aC iZ (aC (bY) (aC (eI) (aC bB aX bL) (cI 61)) rJ) bM))
   (jG (aW (eB 4 JO) (aE (mO false aX (jV (cI 126)) (jV (aC bE (cI 126) (aC (fD) fO (aC (bY) (aC (eI) (aC bB aX bL) (cI 183)) (cI 61)))))) (aE cL (aE dJ (aE dG a0))))))
   fP) [some (.bK ns),aJ (ds.map A.int),aA (keep:Int),aA way,aJ (ps.map A.aB),aJ (qs.map A.aB),x6,x7,x8,x9,none] Ω4=fA [some (.bK ns),aJ (ds.map A.int),aA (keep:Int),aA way,aJ (ps.map A.aB),aJ (qs.map A.aB),x6,x7,x8,x9,none] Ω5∧gE Ω5 keep ps qs (6200000*b3+6200000) (62*b4+62):=by
  have et:(bJ (aC iZ (aC (bY) (aC (eI) (aC bB aX bL) (cI 61)) rJ) bM)) [some (.bK ns),aJ (ds.map A.int),aA (keep:Int),aA way,aJ (ps.map A.aB),aJ (qs.map A.aB),x6,x7,x8,x9,none] Ω4=aG (d1/61%3 == 0) Ω4 :=
   jX (bI (bI (bI (YJ _ _ _ _ _ _ _ _ _ _) (b := .int 61) rfl (c := .int (d1/61)) (by simp [gI,c61])) (b := .int 3) rfl (c := .int (d1/61%3)) (by simp)) (b := .int 0) rfl (by simp))
  by_cases h3:d1/61%3=0
  ·obtain⟨Ω5,qf2,_,a5⟩:=Tv (by omega) a4 (by omega) (by omega) ((ds.drop 126).take (2*k2)) (Po gH 126 k2) (by simp;omega) way (by omega);refine⟨Ω5,?_,a5⟩;rw [BK et,if_pos (by simpa using h3)];have s7:(mO false aX (jV (cI 126)) (jV (aC bE (cI 126) (aC (fD) fO (aC (bY) (aC (eI) (aC bB aX bL) (cI 183)) (cI 61)))))) [some (.bK ns),aJ (ds.map A.int),aA (keep:Int),aA way,aJ (ps.map A.aB),aJ (qs.map A.aB),x6,x7,x8,x9,none] Ω4=aG (.lst (((ds.drop 126).take (2*k2)).map A.int)) Ω4:=by
    rw [← alT];refine LV (aQ (a := .lst (ds.map A.int)) rfl) (AZ (i:=126) rfl) (AZ ?_);refine bI (a := .int 126) rfl (Lm (k:=k2) ?_) (by simp);rw [← iI];exact bI (bI (YJ _ _ _ _ _ _ _ _ _ _) (b := .int 183) rfl (c := .int (d1/183)) (by simp [gI,aqY])) (b := .int 61) rfl (by simp)
   exact mC (pD (as:=[.lst (((ds.drop 126).take (2*k2)).map A.int),.lst (ps.map A.aB),.lst (qs.map A.aB),.int way]) (bR s7 (bR (aQ rfl) (bR (aQ rfl) (bR (aQ rfl) eU)))) rfl qf2)
  ·refine⟨Ω4,?_,⟨a4.len,a4.nd,fun i p q hp hq=>(a4.slot i p q hp hq).mono rfl rfl (by omega) (by omega)⟩⟩;rw [BK et,if_neg (by simpa using h3)];rfl
 obtain⟨p,q,hp,hq,sl⟩:=a5.get (i:=0) (by omega);obtain⟨rs,lost,ws,many,tk,e1,e2,s,hm,sA⟩:=sl.ex;have GI:(ps.map A.aB)[0]? = (aD p):=by rw [gK,hp];rfl
 have GG:(qs.map A.aB)[0]? = (aD q):=by rw [gK,hq];rfl
 have tr:=arQ e1 e2 s (by have:=s.len;omega) (by omega) (by omega) d0;have qo:=IZ e1;have hle:lost≤many/((keep:Int)+1):=by
  refine Int.le_ediv_of_mul_le (by omega) ?_;have h1:=s.sum;have h2:=SY s.pos;omega
 have aV:kQ many ((keep:Int)+1):=⟨by omega,by omega⟩;refine⟨[],?_⟩;show trim [] (fZ (PF [some (.bK ns),none,none,none,none,none,none,none,none,none,none] []))=_
 suffices hh:∃ρ' Ω',PF [some (.bK ns),none,none,none,none,none,none,none,none,none,none] []=some (.ret (.bl true),ρ',Ω')by
  obtain⟨ρ',Ω',e⟩:=hh;rw [e];simp only [BA];exact LG (Ω:=[]) (by simp only [Cl])
 refine⟨[some (.bK ns),aJ (ds.map A.int),aA (keep:Int),aA way,aJ (ps.map A.aB),aJ (qs.map A.aB),x6,x7,x8,x9,aA many],Ω5,?_⟩;unfold PF;rw [bO (gZ (Ω':=[]) (a := .lst (ds.map A.int)) (pD (as:=[.bK ns,.int 250]) (bR (aQ (by rfl)) (bR (by rfl) eU)) (by rfl) qd))];simp only [iM,iL];rw [bO (gZ (Ω':=[]) (a := .int (keep:Int)) (by rw [← alE];exact bI (a := .int 1) rfl (bI (xW _ _ _ _ _ _ _ _ _ _) (b := .int 9) rfl (c := .int (d0%9)) (by simp)) (by simp)))];simp only [iM,iL];rw [bO (gZ (Ω':=[]) (a := .int way) (by rw [← akF];exact bI (bI (xW _ _ _ _ _ _ _ _ _ _) (b := .int 9) rfl (c := .int (d0/9)) (by simp [gI,c9])) (b := .int 5) rfl (by simp)))];simp only [iM,iL];rw [bO (gZ (q1 [] rfl))];simp only [iM,iL];rw [bO (gZ q2)];simp only [iM,iL];rw [bO (mC (pD (as:=[.lst (((ds.drop 6).take (2*k1)).map A.int),.lst (AW.map A.aB),.lst (FC.map A.aB),.int way]) (bR s6 (bR (aQ (by rfl)) (bR (aQ (by rfl)) (bR (aQ (by rfl)) eU)))) (by rfl) qf))];have el:(aC (nW) (aW iK (aE cL a0)) bL) [some (.bK ns),aJ (ds.map A.int),aA (keep:Int),aA way,aJ (AW.map A.aB),aJ (FC.map A.aB),none,none,none,none,none] Ω3=aG (.int ((P:Int) - 1)) Ω3:=bI (NC (ds:=AW.map A.aB) rfl) (b := .int 1) rfl (by simp [pl]);rw [bO (ρ1:=[some (.bK ns),aJ (ds.map A.int),aA (keep:Int),aA way,aJ (ps.map A.aB),aJ (qs.map A.aB),x6,x7,x8,x9,none]) (Ω':=Ω4) (by
  rw [vY (MG (j:=(P:Int) - 1) (Ω':=Ω3) (bR el eU) (by unfold tE;omega))];have ej':((P:Int) - 1).toNat=P - 1:=by omega
  show dO _ _ _ ((List.range ((P:Int) - 1).toNat).map fun(i:Nat)=>A.int (0+(i:Int))) _ _=_;rw [ej'];exact ej)]
 rw [bO qg];have Mm:∀(mJ:Option A),(aC bB cL bM) [some (.bK ns),aJ (ds.map A.int),aA (keep:Int),aA way,aJ (ps.map A.aB),aJ (qs.map A.aB),x6,x7,x8,x9,mJ] Ω5=aG (.aB p) Ω5:=fun _=>lK (k:=0) (aQ (a := .lst (ps.map A.aB)) rfl) rfl rfl GI;have Ml:∀(mJ:Option A),(aC bB dJ bM) [some (.bK ns),aJ (ds.map A.int),aA (keep:Int),aA way,aJ (ps.map A.aB),aJ (qs.map A.aB),x6,x7,x8,x9,mJ] Ω5=aG (.aB q) Ω5:=fun _=>lK (k:=0) (aQ (a := .lst (qs.map A.aB)) rfl) rfl rfl GG;have anV:(aW pZ (aE (sY false (aC bB dJ bM)) a0)) [some (.bK ns),aJ (ds.map A.int),aA (keep:Int),aA way,aJ (ps.map A.aB),aJ (qs.map A.aB),x6,x7,x8,x9,none] Ω5=aG (.int many) Ω5:=by
  have cd:gO Ω5 (.aB q)=some (q,encD ws):=pC e2;have v1:(sY false (aC bB dJ bM)) [some (.bK ns),aJ (ds.map A.int),aA (keep:Int),aA way,aJ (ps.map A.aB),aJ (qs.map A.aB),x6,x7,x8,x9,none] Ω5=aG (.lst ((ws.map (·.2)).map A.int)) Ω5:=by
   unfold sY;rw [bQ (Ml _)];simp only [cd,RX];rfl
  refine wF (as:=[.lst ((ws.map (·.2)).map A.int)]) (bR v1 eU) ?_;have e4:(dF Ω5 (.lst ((ws.map (·.2)).map A.int))).bind intsOf=some (ws.map (·.2)):=by
   show intsOf ((ws.map (·.2)).map A.int)=_;exact vM _
  simp only [pZ,e4,LO,s.wsum]
 rw [bO (gZ anV)];simp only [iM,iL];unfold dE;have ef:(EI (aW (eB 4 QW) (aE (aC bB cL bM) (aE bT (aE (aC bB dJ bM) (aE (aC bB aX bM) a0))))) (aC yQ (cP "off" [("Often",cK 1 [] mH)] (aC bB cL bM) a0) (aC (eI) Gn (aC bE bT bL)))) [some (.bK ns),aJ (ds.map A.int),aA (keep:Int),aA way,aJ (ps.map A.aB),aJ (qs.map A.aB),x6,x7,x8,x9,aA many] Ω5=aG (.bl true) Ω5:=by
  unfold EI;rw [bQ (pD (as:=[.aB p,.int (keep:Int),.aB q,.int d0]) (bR (Mm _) (bR (aQ (by rfl)) (bR (Ml _) (bR (xW _ _ _ _ _ _ _ _ _ _) eU)))) (by rfl) tr)];rw [bQ (x:=true) (Ω':=Ω5) (by rfl)];rw [if_pos rfl];refine bI (a := .int lost) (WJ e1 rfl (Mm _) (as:=[]) rfl rfl qo) (b := .int (many/((keep:Int)+1))) (bI (aQ (a := .int many) rfl) (b := .int ((keep:Int)+1)) (bI (aQ (a := .int (keep:Int)) rfl) (b := .int 1) rfl (by simp)) (by simp [gI,aV])) ?_;simp [hle]
 rw [fQ ef]
end M
namespace Fg
open PySem L2 V2 PyProof.Rows M
def top(i:Nat):Stmt:=PySem.Challenge.pw_rankpouch_k84_whole_often.main.body.getD i (.Pass ⟨0,0,0,0⟩)
abbrev EW:Stmt:=top 9
abbrev UC:Stmt:=top 12
abbrev UH:Stmt:=top 13
abbrev TZ:Stmt:=top 14
abbrev UB:Stmt:=top 15
abbrev UD:Stmt:=top 16
abbrev EX:Stmt:=top 17
abbrev UI:Stmt:=top 18
abbrev MC:Stmt:=top 19
abbrev UA:Stmt:=top 20
abbrev UG:Stmt:=top 21
abbrev UE:Stmt:=top 22
abbrev xH:Stmt:=inClass (top 7) 0
abbrev xG:Stmt:=inClass (top 7) 1
abbrev UM:Stmt:=inClass (top 7) 2
abbrev UK:Stmt:=inClass (top 7) 3
abbrev UL:Stmt:=inClass (top 7) 4
abbrev UN:Stmt:=inClass (top 7) 6
abbrev UJ:Stmt:=inClass (top 7) 7
abbrev xI:Stmt:=inClass (top 10) 0
abbrev UQ:Stmt:=inClass (top 10) 1
abbrev UP:Stmt:=inClass (top 10) 2
abbrev UO:Stmt:=inClass (top 10) 3
abbrev UX:Stmt:=inClass (top 10) 4
abbrev UT:Stmt:=inClass (top 10) 5
abbrev UU:Stmt:=inClass (top 10) 6
abbrev US:Stmt:=inClass (top 10) 7
abbrev UR:Stmt:=inClass (top 10) 8
abbrev UW:Stmt:=inClass (top 10) 9
abbrev MD:Stmt:=inClass (top 10) 10
abbrev qO:Stmt:=top 23
structure eK(mg:Str→Option Value):Prop where
 bool:mg "bool" = none
 dict:mg "dict" = none
 int:mg "int" = none
 isinstance:mg "isinstance" = none
 len:mg "len" = none
 list:mg "list" = none
 min:mg "min" = none
 range:mg "range" = none
 set:mg "set" = none
 sorted:mg "sorted" = none
 sum:mg "sum" = none
 tuple:mg "tuple" = none
section
variable(P:Program)(w:World)(K:Frag)(mg:Str→Option Value)(base:Heap)
abbrev Td:=gD P w K mg base "_law_mix" 1 ["_law_cell", "_law_k"] zW
abbrev Dw:=gD P w K mg base "_law_whole" 1 ["_law_found"] uJ
abbrev Sv:=gD P w K mg base "_law_times" 1 ["_law_cell"] uK
abbrev Su:=gD P w K mg base "_law_many" 1 ["_law_cell", "_law_way"] wU
abbrev Ss:=gD P w K mg base "_law_draws" 2 ["_law_script", "_law_many_here"] QY
abbrev Sr:=cF P w K mg base "Often" "counted" 1 2 [] zY
abbrev IU:=cF P w K mg base "Often" "off" 1 1 [] mH
abbrev Sq:=gD P w K mg base "_law_counted_ok" 2 ["_law_pouch", "_law_kept", "_law_row", "_law_number", "_law_length"] JP
abbrev So:=cF P w K mg base "Often" "count_in" 1 3 [] JW
abbrev Sn:=cF P w K mg base "Often" "cut_down" 2 1 [] JV
abbrev Tc:=cF P w K mg base "Often" "counts" 1 1 [] DM
abbrev Tb:=cF P w K mg base "Often" "numbers" 2 1 [] DL
abbrev Ta:=gD P w K mg base "_law_counts_ok" 3 ["_law_pouch", "_law_keep", "_law_length"] Fq
abbrev QJ:=cF P w K mg base "Often" "look_room" 1 2 [] JR
abbrev Dv:=cF P w K mg base "Often" "take" 3 3 [] RB
abbrev Sz:=gD P w K mg base "_law_often_ok" 4 ["_law_pouch", "_law_kept", "_law_row", "_law_least", "_law_length"] QX
abbrev Sy:=gD P w K mg base "_law_truly" 5 ["_law_pouch", "_law_keep", "_law_row", "_law_cell"] QW
abbrev Sx:=gD P w K mg base "_law_filled" 5 ["_law_draws_here", "_law_pouches", "_law_rows", "_law_way"] JO
abbrev Sw:=gD P w K mg base "_law_joined" 5 ["_law_pouches", "_law_rows", "_law_one", "_law_other"] JN
end
section
variable{P:Program}{w:World}{K:Frag}{mg:Str→Option Value}{base:Heap}
theorem Ji:dI ["self", "keep"] ["self", "keep"] (aZ xH):=fT
theorem Rq(B:eK mg)(nR:cY K ["Often"] "keep")(gU:cY K ["Often"] "many")(kF:cY K ["Often"] "taken")(f:Addr)(aV:Value)(A:Around)(outer:List Env)(s:Shared)(H:Hp)(E:XK)(hr:cE 0 (A.deeper (envOfC "Pouch.__init__" (aZ xH) s.heap.objs.size f aV))) :
  lO (pB P w K mg base ["self", "keep"] "Pouch.__init__" (aZ xH) f aV A outer s H E) (fun _=>E) (fB xH) QA:=by
 exact(bN (pK (vv 0) (vv 1) nR)
  (bN (pK (vv 0) aM gU)
  (bU (pK (vv 0) aM kF))))
theorem auV(B:eK mg)(nR:cY K ["Often"] "keep")(gU:cY K ["Often"] "many")(kF:cY K ["Often"] "taken"){cls:Str}(h:QV K mg cls "Pouch.__init__" xH):wK P w K mg base cls 1 2 zX:=wK.of h Ji (fun _ _ _ _ _ _ us hl=>nB us hl bZ) (Rq B nR gU kF)
theorem aoI(B:eK mg)(nR:cY K ["Often"] "keep")(gU:cY K ["Often"] "many")(kF:cY K ["Often"] "taken"){rk:Str}(h:JL K mg rk "__init__" "Pouch.__init__" xH):sQ P w K mg base rk "__init__" 1 2 zX:=sQ.of h Ji (fun _ _ _ _ _ _ us hl=>nB us hl bZ) (Rq B nR gU kF)
theorem adF:dI ["self", "more"] ["self", "more"] (aZ UK):=fT
theorem ao5(B:eK mg)(ZV:∃t,mg "LONGEST" = some (.int 1000000000 t))(gU:cY K ["Often"] "many"){cls:Str}(h:lR K mg cls "look_room" "Pouch.look_room" UK):cF P w K mg base cls "look_room" 1 2 [] JR:=by
 refine cF.of h adF (fun _ _ _ _ _ _ us hl=>nB us hl bZ) (fun _ _ _ _ _ _ _ hr=>?_);exact(bU (gW (eZ vH (aT (dN false) (jT (vv 0) gU) (vv 1)) (Vq rfl ZV) (eO _))
   (bU RP)
   hU))
theorem adG:dI ["self"] ["self"] (aZ UL):=fT
theorem ao6(B:eK mg)(gU:cY K ["Often"] "many"){cls:Str}(h:lR K mg cls "length" "Pouch.length" UL):cF P w K mg base cls "length" 1 1 [] JS:=by
 refine cF.of h adG (fun _ _ _ _ _ _ us hl=>rN us hl (fun _=>rfl)) (fun _ _ _ _ _ _ _ hr=>?_);exact(bU (eL (jT (vv 0) gU)))
theorem TR:dI ["counts", "keep", "taken"] ["counts", "keep"] (aZ EW):=fT
theorem aoR(B:eK mg)(h:HasFn K mg "cut" EW):gD P w K mg base "cut" 1 ["counts", "keep"] JM:=by
 refine gD.of h TR (fun _ _ _ _ _ _ us hl=>nB us hl bZ) (fun _ _ _ _ _ _ _ hr=>?_);exact(bN (fG (i:=2) TR.nd rfl (Or.inr rfl) aM)
  (bN (gW (eZ vH (hV qC rfl B.len PySem.boot_len (aO (vv 0) bG)) (vv 1) (eO _))
   (bU (fG (i:=2) TR.nd rfl (Or.inr rfl) (dB (Vk false B.sorted rfl (EC false ["pair"] [] rfl (vK (aZ EW) ["counts", "keep", "taken"]) (pL (vv 0)) (fun cl C s H fp=>⟨(jE (i:=0) (show(["pair"]:List Str).Nodup by decide +kernel) rfl cW),DY,(dB (vv 0) aM bZ)⟩))) (vv 1) bZ)))
   hU)
  (bU (eL (KP (aO (hV (Rf false) rfl B.sorted IL (aO (EC false ["pair"] [2] rfl (vK (aZ EW) ["counts", "keep", "taken"]) (pL (vv 0)) (fun cl C s H fp=>⟨(jE (i:=0) (show(["pair", "taken"]:List Str).Nodup by decide +kernel) rfl cW),(RR (eZ vH (dB (vv 0) aM bZ) (vv 1) (eO _))),(KP (aO (dB (vv 0) aM bZ) (aO (aT BC (dB (vv 0) aM bZ) (vv 1)) bG)))⟩)) bG)) (aO (vv 2) bG)))))))
theorem adK:dI ["self", "other"] ["self", "other"] (aZ UQ):=fT
theorem apB(B:eK mg)(Fo:Fn K mg "Often")(Dx:Fl K ["Often"]){cls:Str}(h:lR K mg cls "same_kind" "Often.same_kind" UQ):cF P w K mg base cls "same_kind" 1 2 [] JU:=by
 refine cF.of h adK (fun _ _ _ _ _ _ us hl=>nB us hl bZ) (fun _ _ _ _ _ _ _ hr=>?_);exact(bU (eL (hV (aqU Dx) rfl B.isinstance IM (aO (vv 1) (aO (Vs Fo rfl) bG)))))
theorem adP:dI ["self", "number", "times"] ["self", "number", "times"] (aZ UX):=fT
theorem apI(B:eK mg)(iN:cY K ["Often"] "tally"){cls:Str}(h:lR K mg cls "count_in" "Often.count_in" UX):cF P w K mg base cls "count_in" 1 3 [] JW:=by
 refine cF.of h adP (fun _ _ _ _ _ _ us hl=>LA us hl (fun _ _ _=>rfl)) (fun _ _ _ _ _ _ _ hr=>?_);exact(bU (Gr (i:=0) (f := "tally") (RQ (cE.pM hr) (jT (vv 0) iN) (vv 1) (aT (dN false) (xA (cE.pM hr) (jT (vv 0) iN) (vv 1) aM ⟨rfl,rfl,rfl,rfl⟩) (vv 2)))))
theorem adO:dI ["self"] ["self"] (aZ UU):=fT
theorem apG(B:eK mg)(iN:cY K ["Often"] "tally"){cls:Str}(h:lR K mg cls "counts" "Often.counts" UU):cF P w K mg base cls "counts" 1 1 [] DM:=by
 refine cF.of h adO (fun _ _ _ _ _ _ us hl=>rN us hl (fun _=>rfl)) (fun _ _ _ _ _ _ _ hr=>?_);exact(bU (eL (Vt true rfl (vv 0) iN rfl B.sorted)))
theorem adN:dI ["self"] ["self"] (aZ US):=fT
theorem apE(B:eK mg)(iN:cY K ["Often"] "tally"){cls:Str}(h:lR K mg cls "kept" "Often.kept" US):cF P w K mg base cls "kept" 1 1 [] sR:=by
 refine cF.of h adN (fun _ _ _ _ _ _ us hl=>rN us hl (fun _=>rfl)) (fun _ _ _ _ _ _ _ hr=>?_);exact(bU (eL (Vu false rfl (vv 0) iN rfl B.list)))
theorem adM:dI ["self"] ["self"] (aZ UR):=fT
theorem apD(B:eK mg)(jS:cY K ["Often"] "lost"){cls:Str}(h:lR K mg cls "off" "Often.off" UR):cF P w K mg base cls "off" 1 1 [] mH:=by
 refine cF.of h adM (fun _ _ _ _ _ _ us hl=>rN us hl (fun _=>rfl)) (fun _ _ _ _ _ _ _ hr=>?_);exact(bU (eL (jT (vv 0) jS)))
theorem Jk:dI ["self", "number", "low"] ["self", "number"] (aZ UW):=fT
theorem apH(B:eK mg)(jS:cY K ["Often"] "lost")(iN:cY K ["Often"] "tally"){cls:Str}(h:lR K mg cls "counted" "Often.counted" UW):cF P w K mg base cls "counted" 1 2 [] zY:=by
 refine cF.of h Jk (fun _ _ _ _ _ _ us hl=>nB us hl bZ) (fun _ _ _ _ _ _ _ hr=>?_);exact(bN (Gr (i:=0) (f := "tally") (fG (i:=2) Jk.nd rfl cW (xA (cE.pM hr) (jT (vv 0) iN) (vv 1) aM ⟨rfl,rfl,rfl,rfl⟩)))
  (bU (eL (KP (aO (vv 2) (aO (aT (dN false) (vv 2) (jT (vv 0) jS)) bG))))))
theorem Jg:dI ["_law_cell", "_law_k", "_law_first"] ["_law_cell", "_law_k"] (aZ UC):=fT
theorem aoW(B:eK mg)(h:HasFn K mg "_law_mix" UC):Td P w K mg base:=by
 refine gD.of h Jg (fun _ _ _ _ _ _ us hl=>nB us hl bZ) (fun _ _ _ _ _ _ _ hr=>?_);exact(bN (fG (i:=2) Jg.nd rfl cW (aT fJ (aT nE (aT (dN false) (vv 0) aM) (aT (dN false) aM (aT nE aM (vv 1)))) aM))
  (bU (eL (aT fJ (aT (dN false) (aT (dN false) (aT nE (aT lI (vv 2) aM) aM) (aT nE (vv 2) (aT (dN false) (aT nE (vv 1) (vv 1)) aM))) (vv 1)) aM))))
theorem adB:dI ["_law_found"] ["_law_found"] (aZ TZ):=fT
theorem aoS(B:eK mg)(h:HasFn K mg "_law_whole" TZ):Dw P w K mg base:=by
 refine gD.of h adB (fun _ _ _ _ _ _ us hl=>rN us hl (fun _=>rfl)) (fun _ _ _ _ _ _ _ hr=>?_);exact(bU (eL (Hc (hV IK rfl B.isinstance IM (aO (vv 0) (aO (EB rfl B.int PyProof.Rows.boot_int) bG))) (Gw (Vl (hV IK rfl B.isinstance IM (aO (vv 0) (aO (EB rfl B.bool PyProof.Rows.boot_bool) bG))))))))
theorem adC:dI ["_law_cell"] ["_law_cell"] (aZ UB):=fT
theorem aoU(B:eK mg)(h:HasFn K mg "_law_times" UB):Sv P w K mg base:=by
 refine gD.of h adC (fun _ _ _ _ _ _ us hl=>rN us hl (fun _=>rfl)) (fun _ _ _ _ _ _ _ hr=>?_);exact(bU (eL (dB (uR false (aO aM (aO aM (aO aM (aO (aT (dN false) aM (aT fJ (aT lI (vv 0) aM) aM)) (aO (aT (dN false) aM (aT fJ (aT lI (vv 0) aM) aM)) (aO (aT (dN false) aM (aT fJ (aT lI (vv 0) aM) aM)) bG))))))) (aT fJ (vv 0) aM) bZ)))
theorem adD:dI ["_law_cell", "_law_way"] ["_law_cell", "_law_way"] (aZ UD):=fT
theorem aoX(B:eK mg)(h:HasFn K mg "_law_many" UD):Su P w K mg base:=by
 refine gD.of h adD (fun _ _ _ _ _ _ us hl=>nB us hl bZ) (fun _ _ _ _ _ _ _ hr=>?_);exact(bN (gW (eZ (rR hr.units) (vv 1) aM (eO _))
   (bU (eL (aT fJ (vv 0) aM)))
   hU)
  (bN (gW (eZ (rR hr.units) (vv 1) aM (eO _))
   (bU (eL (aT nE (aT fJ (vv 0) aM) (aT fJ (aT lI (vv 0) aM) aM))))
   hU)
  (bN (gW (eZ (rR hr.units) (vv 1) aM (eO _))
   (bU (eL (aT BC (aT fJ (vv 0) aM) aM)))
   hU)
  (bU (eL (dB (uR false (aO (aT fJ (vv 0) aM) (aO (aT nE (aT BC (aT fJ (aT lI (vv 0) aM) aM) aM) (aT ahG aM aM)) bG))) (ED aqV rfl B.int PyProof.Rows.boot_int (aO (RS (rR hr.units) (aT fJ (vv 0) aM) aM (eO _)) bG)) bZ))))))
theorem adI:dI ["self"] ["self"] (aZ UN):=fT
theorem ao8(B:eK mg)(DA:cF P w K mg base "Often" "kept" 1 1 [] sR){cls:Str}(h:lR K mg cls "held" "Pouch.held" UN):cF P w K mg base cls "held" 2 1 [] JT:=by
 refine cF.of h adI (fun _ _ _ _ _ _ us hl=>rN us hl (fun _=>rfl)) (fun _ _ _ _ _ _ _ hr=>?_);exact(bU (eL (hV qC rfl B.len PySem.boot_len (aO (nA cQ (bW.cons DA hr.m bW.nil) (vv 0)) bG))))
theorem adE:dI ["self"] ["self"] (aZ UJ):=fT
theorem ao4(B:eK mg)(DA:cF P w K mg base "Often" "kept" 1 1 [] sR){cls:Str}(h:lR K mg cls "numbers" "Pouch.numbers" UJ):cF P w K mg base cls "numbers" 2 1 [] DL:=by
 refine cF.of h adE (fun _ _ _ _ _ _ us hl=>rN us hl (fun _=>rfl)) (fun _ _ _ _ _ _ _ hr=>?_);exact(bU (eL (Vj true rfl rfl B.sorted rfl B.set (nA cQ (bW.cons DA hr.m bW.nil) (vv 0)))))
theorem Jj:dI ["self", "left"] ["self"] (aZ UT):=fT
theorem apF(B:eK mg)(Fs:gD P w K mg base "cut" 1 ["counts", "keep"] JM)(nR:cY K ["Often"] "keep")(jS:cY K ["Often"] "lost")(iN:cY K ["Often"] "tally"){cls:Str}(h:lR K mg cls "cut_down" "Often.cut_down" UT):cF P w K mg base cls "cut_down" 2 1 [] JV:=by
 refine cF.of h Jj (fun _ _ _ _ _ _ us hl=>rN us hl (fun _=>rfl)) (fun _ _ _ _ _ _ _ hr=>?_);exact(bU (gW (eZ vH (Vv (vv 0) iN rfl B.len) (jT (vv 0) nR) (eO _))
   (bN (fG (i:=1) Jj.nd rfl cW (kS cQ Fs hr.m rfl (aO (Vw false rfl (vv 0) iN rfl B.list) (aO (jT (vv 0) nR) bG))))
   (bN (Gs (pK (vv 0) (ED (Ri rfl) rfl B.dict PyProof.Rows.boot_dict (aO (dB (vv 1) aM bZ) bG)) iN))
   (bU (pK (vv 0) (aT (dN false) (jT (vv 0) jS) (dB (vv 1) aM bZ)) jS))))
   hU))
theorem uX:dI ["_law_script", "_law_many_here", "_law_rest", "_law_mixed", "_law_seeds", "_law_found", "_law_k", "_law_at"] ["_law_script", "_law_many_here"] (aZ UH):=fT
theorem ao0(B:eK mg)(h:HasFn K mg "_law_draws" UH)(RE:Td P w K mg base):Ss P w K mg base:=by
 refine gD.of h uX (fun _ _ _ _ _ _ us hl=>nB us hl bZ) (fun _ _ _ _ _ _ _ hr=>?_);exact(bN (fG (i:=2) uX.nd rfl cW (ED (Rh true) rfl B.list CS (aO (vv 0) bG)))
  (bN (gW (eZ (rR hr.units) (vv 2) (uR false bG) (eO _))
   (bU (fG (i:=2) uX.nd rfl cW (uR true (aO aM bG))))
   hU)
  (bN (fG (i:=3) uX.nd rfl cW (RS (rR hr.units) (aT fJ (dB (vv 2) aM bZ) aM) aM (eO _)))
  (bN (Gu (aT lI (dB (vv 2) aM bZ) aM) (Gv (vv 2) aM))
  (bN (fG (i:=4) uX.nd rfl cW (ED (Rh false) rfl B.list CS (aO (vv 2) bG)))
  (bN (fG (i:=5) uX.nd rfl cW (uR true bG))
  (bN (uP cQ.passes rfl (KN rfl B.range (aO (vv 1) bG)) (jE (i:=6) uX.nd rfl cW)
   (bN (fG (i:=7) uX.nd rfl cW (aT fJ (vv 6) (hV qC rfl B.len PySem.boot_len (aO (vv 2) bG))))
   (bU (gW (VW.vt (nS (pJ (vv 3)) (wY (eZ (rR hr.units) (dB (vv 2) (vv 7) bZ) aM (eO _)))))
    (bU (lS (Hb PySem.F.plainAttrs_list PySem.F.slot_list_append PySem.F.type_list_append Ln Lr (vv 5) (aO (kS cQ RE hr.m rfl (aO (kS cQ RE hr.m rfl (aO (aT fJ (dB (vv 4) (vv 7) bZ) aM) (aO (aT (dN false) (vv 6) aM) bG))) (aO (aT (dN false) (aT fJ (aT nE (vv 6) (vv 6)) aM) aM) bG))) bG))))
    (bN (lS (Hb PySem.F.plainAttrs_list PySem.F.slot_list_append PySem.F.type_list_append Ln Lr (vv 5) (aO (aT fJ (dB (vv 2) (vv 7) bZ) aM) bG)))
    (bU (Gu (aT ahJ (dB (vv 2) (vv 7) bZ) aM) (Gv (vv 2) (vv 7)))))))))
  (bU (eL (vf 5))))))))))
theorem TV:dI ["_law_pouch", "_law_kept", "_law_row", "_law_number", "_law_length", "_law_found", "_law_low"] ["_law_pouch", "_law_kept", "_law_row", "_law_number", "_law_length"] (aZ UI):=fT
theorem ao2(B:eK mg)(h:HasFn K mg "_law_counted_ok" UI)(uL:Dw P w K mg base)(DD:Sr P w K mg base)(nM:IU P w K mg base):Sq P w K mg base:=by
 refine gD.of h TV (fun _ _ _ _ _ _ us hl=>Hk us hl (fun _ _ _ _ _=>rfl)) (fun _ _ _ _ _ _ _ hr=>?_);exact(bN (fG (i:=5) TV.nd rfl cW (qM cQ (bW.cons DD hr.m bW.nil) (vv 0) (aO (vv 3) bG)))
  (bN (gW (VW.vt (nS (qL (pJ (hV IK rfl B.isinstance IM (aO (vv 5) (aO (EB rfl B.tuple PyProof.Rows.boot_tuple) bG))))) (nS (eZ (rQ hr.units) (hV qC rfl B.len PySem.boot_len (aO (vv 5) bG)) aM (eO _)) (nS (qL (pJ (kS cQ uL hr.m rfl (aO (dB (vv 5) aM bZ) bG)))) (wY (qL (pJ (kS cQ uL hr.m rfl (aO (dB (vv 5) aM bZ) bG)))))))))
   (bU (eL rL))
   hU)
  (bN (fG (i:=6) TV.nd rfl cW (xA (cE.pM hr) (vv 1) (vv 3) aM ⟨rfl,rfl,rfl,rfl⟩))
  (bN (gW (eZ (rQ hr.units) (vv 5) (KP (aO (vv 6) (aO (hV (Rg rfl) rfl B.min boot_min (aO (vv 4) (aO (aT (dN false) (vv 6) (nA cQ (bW.cons nM hr.m bW.nil) (vv 0))) bG))) bG))) (eO _))
   (bU (eL rL))
   hU)
  (bU (eL (Vy WB WB (dB (vv 5) aM bZ) (xA (cE.pM hr) (vv 2) (vv 3) aM ⟨rfl,rfl,rfl,rfl⟩) (dB (vv 5) aM bZ))))))))
theorem Jl:dI ["self", "keep"] ["self", "keep"] (aZ xI):=fT
theorem Rr(B:eK mg)(zU:sQ P w K mg base "Pouch" "__init__" 1 2 zX)(jS:cY K ["Often"] "lost")(iN:cY K ["Often"] "tally")(f:Addr)(aV:Value)(A:Around)(outer:List Env)(s:Shared)(H:Hp)(E:XK)(hr:cE 2 (A.deeper (envOfC "Often.__init__" (aZ xI) s.heap.objs.size f aV))) :
  lO (pB P w K mg base ["self", "keep"] "Often.__init__" (aZ xI) f aV A outer s H E) (fun _=>E) (fB xI) QF:=by
 exact(bN (lS (Vz cQ zU rfl hr.m (aO (vv 0) (aO (vv 1) bG))))
  (bN (Gs (pK (vv 0) Gz iN))
  (bU (pK (vv 0) aM jS))))
theorem aoG(B:eK mg)(zU:sQ P w K mg base "Pouch" "__init__" 1 2 zX)(jS:cY K ["Often"] "lost")(iN:cY K ["Often"] "tally"){cls:Str}(h:QV K mg cls "Often.__init__" xI):wK P w K mg base cls 3 2 zZ:=wK.of h Jl (fun _ _ _ _ _ _ us hl=>nB us hl bZ) (Rr B zU jS iN)
theorem auX(B:eK mg)(zU:sQ P w K mg base "Pouch" "__init__" 1 2 zX)(jS:cY K ["Often"] "lost")(iN:cY K ["Often"] "tally"){rk:Str}(h:JL K mg rk "__init__" "Often.__init__" xI):sQ P w K mg base rk "__init__" 3 2 zZ:=sQ.of h Jl (fun _ _ _ _ _ _ us hl=>nB us hl bZ) (Rr B zU jS iN)
theorem adJ:dI ["self", "number", "times"] ["self", "number", "times"] (aZ UP):=fT
theorem apA(B:eK mg)(DE:So P w K mg base)(DB:Sn P w K mg base){cls:Str}(h:lR K mg cls "take" "Often.take" UP):cF P w K mg base cls "take" 3 3 [] RB:=by
 refine cF.of h adJ (fun _ _ _ _ _ _ us hl=>LA us hl (fun _ _ _=>rfl)) (fun _ _ _ _ _ _ _ hr=>?_);exact(bN (lS (qM cQ (bW.cons DE hr.m bW.nil) (vv 0) (aO (vv 1) (aO (vv 2) bG))))
  (bU (lS (nA cQ (bW.cons DB hr.m bW.nil) (vv 0)))))
theorem TX:dI ["self", "other", "number", "count"] ["self", "other"] (aZ UO):=fT
theorem ao9(B:eK mg)(jS:cY K ["Often"] "lost")(DE:So P w K mg base)(DC:Tc P w K mg base)(DB:Sn P w K mg base){cls:Str}(h:lR K mg cls "take_in" "Often.take_in" UO):cF P w K mg base cls "take_in" 3 2 [] RA:=by
 refine cF.of h TX (fun _ _ _ _ _ _ us hl=>nB us hl bZ) (fun _ _ _ _ _ _ _ hr=>?_);exact(bN (uP cQ.passes rfl (pL (nA cQ (bW.cons DC hr.m bW.nil) (vv 1))) (EA rfl (rK (jE (i:=2) TX.nd rfl cW) (rK (jE (i:=3) TX.nd rfl cW) DZ)))
   (bU (lS (qM cQ (bW.cons DE hr.m bW.nil) (vv 0) (aO (vv 2) (aO (vv 3) bG))))))
  (bN (pK (vv 0) (aT (dN false) (jT (vv 0) jS) (jT (vv 1) jS)) jS)
  (bU (lS (nA cQ (bW.cons DB hr.m bW.nil) (vv 0))))))
theorem adL:dI ["self", "least"] ["self", "least"] (aZ MD):=fT
theorem apC(B:eK mg)(DD:Sr P w K mg base)(CZ:Tb P w K mg base){cls:Str}(h:lR K mg cls "often" "Often.often" MD):cF P w K mg base cls "often" 3 2 [] RC:=by
 refine cF.of h adL (fun _ _ _ _ _ _ us hl=>nB us hl bZ) (fun _ _ _ _ _ _ _ hr=>?_);exact(bU (eL (EC false ["number"] [0,1] rfl (vK (aZ MD) ["self", "least"]) (pL (nA cQ (bW.cons CZ hr.m bW.nil) (vv 0))) (fun cl C s H fp=>⟨(jE (i:=0) (show(["number", "self", "least"]:List Str).Nodup by decide +kernel) rfl cW),(RR (eZ WC (dB (Vm (bW.cons DD hr.m bW.nil) (vv 1) (aO (vv 0) bG)) aM bZ) (vv 2) (eO _))),(vv 0)⟩))))
theorem EV:dI ["_law_pouch", "_law_keep", "_law_length", "_law_counts", "_law_one", "_law_numbers", "_law_off"] ["_law_pouch", "_law_keep", "_law_length"] (aZ EX):=fT
theorem ao1(B:eK mg)(h:HasFn K mg "_law_counts_ok" EX)(uL:Dw P w K mg base)(DC:Tc P w K mg base)(Ep:cF P w K mg base "Often" "held" 2 1 [] JT)(En:cF P w K mg base "Often" "length" 1 1 [] JS)(CZ:Tb P w K mg base)(nM:IU P w K mg base):Ta P w K mg base:=by
 refine gD.of h EV (fun _ _ _ _ _ _ us hl=>LA us hl (fun _ _ _=>rfl)) (fun _ _ _ _ _ _ _ hr=>?_);exact(bN (fG (i:=3) EV.nd rfl cW (nA cQ (bW.cons DC hr.m bW.nil) (vv 0)))
  (bN (gW (VW.vt (nS (qL (pJ (hV IK rfl B.isinstance IM (aO (vv 3) (aO (EB rfl B.list CS) bG))))) (nS (eZ (rQ hr.units) (vv 3) (hV (Rf false) rfl B.sorted IL (aO (vv 3) bG)) (eO _)) (wY (eZ vH (hV qC rfl B.len PySem.boot_len (aO (vv 3) bG)) (vv 1) (eO _))))))
   (bU (eL wZ))
   hU)
  (bN (uP cQ.passes rfl (pL (vv 3)) (jE (i:=4) EV.nd rfl cW)
   (bN (gW (VW.vt (nS (qL (pJ (hV IK rfl B.isinstance IM (aO (vv 4) (aO (EB rfl B.tuple PyProof.Rows.boot_tuple) bG))))) (nS (eZ (rQ hr.units) (hV qC rfl B.len PySem.boot_len (aO (vv 4) bG)) aM (eO _)) (nS (qL (pJ (kS cQ uL hr.m rfl (aO (dB (vv 4) aM bZ) bG)))) (wY (qL (pJ (kS cQ uL hr.m rfl (aO (dB (vv 4) aM bZ) bG)))))))))
    (bU (eL wZ))
    hU)
   (bU (gW (eZ WA (dB (vv 4) aM bZ) aM (eO _))
    (bU (eL wZ))
    hU))))
  (bN (RO (i:=5) false ["_law_number", "_law_count"] [] EV.nd rfl cW rfl (vK (aZ EX) ["_law_pouch", "_law_keep", "_law_length", "_law_counts", "_law_one", "_law_numbers", "_law_off"]) (pL (vv 3)) (fun cl C s H fp=>⟨(EA rfl (rK (jE (i:=0) (show(["_law_number", "_law_count"]:List Str).Nodup by decide +kernel) rfl cW) (rK (jE (i:=1) (show(["_law_number", "_law_count"]:List Str).Nodup by decide +kernel) rfl cW) DZ))),DY,(vv 0)⟩))
  (bN (fG (i:=6) EV.nd rfl cW (nA cQ (bW.cons nM hr.m bW.nil) (vv 0)))
  (bN (gW (VW.vt (nS (eZ (rQ hr.units) (Vp rfl rfl B.len rfl B.set (vv 5)) (hV qC rfl B.len PySem.boot_len (aO (vv 5) bG)) (eO _)) (nS (qL (pJ (kS cQ uL hr.m rfl (aO (vv 6) bG)))) (wY (eZ WA (vv 6) aM (eO _))))))
   (bU (eL wZ))
   hU)
  (bN (gW (eZ vH (aT (dN false) (aT nE (vv 6) (aT (dN false) (vv 1) aM)) (hV (Cp rfl) rfl B.sum boot_sum (aO (EC false ["_law_number", "_law_count"] [] rfl (vK (aZ EX) ["_law_pouch", "_law_keep", "_law_length", "_law_counts", "_law_one", "_law_numbers", "_law_off"]) (pL (vv 3)) (fun cl C s H fp=>⟨(EA rfl (rK (jE (i:=0) (show(["_law_number", "_law_count"]:List Str).Nodup by decide +kernel) rfl cW) (rK (jE (i:=1) (show(["_law_number", "_law_count"]:List Str).Nodup by decide +kernel) rfl cW) DZ))),DY,(vv 1)⟩)) bG))) (vv 2) (eO _))
   (bU (eL wZ))
   hU)
  (bN (gW (VW.vt (nS (eZ (rQ hr.units) (nA cQ (bW.cons Ep hr.m bW.nil) (vv 0)) (hV qC rfl B.len PySem.boot_len (aO (vv 3) bG)) (eO _)) (nS (eZ (rQ hr.units) (nA cQ (bW.cons CZ hr.m bW.nil) (vv 0)) (vv 5) (eO _)) (wY (eZ (rQ hr.units) (nA cQ (bW.cons En hr.m bW.nil) (vv 0)) (vv 2) (eO _))))))
   (bU (eL wZ))
   hU)
  (bU (eL (ED (Ri rfl) rfl B.dict PyProof.Rows.boot_dict (aO (vv 3) bG))))))))))))
theorem Jh:dI ["self", "number", "times"] ["self", "number", "times"] (aZ xG):=fT
theorem Rp(B:eK mg)(gU:cY K ["Often"] "many")(kF:cY K ["Often"] "taken")(rE:QJ P w K mg base)(wL:Dv P w K mg base)(f:Addr)(aV:Value)(A:Around)(outer:List Env)(s:Shared)(H:Hp)(E:XK)(hr:cE 3 (A.deeper (envOfC "Pouch.put" (aZ xG) s.heap.objs.size f aV))) :
  lO (pB P w K mg base ["self", "number", "times"] "Pouch.put" (aZ xG) f aV A outer s H E) (fun _=>E) (fB xG) PX:=by
 exact(bN (gW (eZ WA (vv 2) aM (eO _))
   (bU RP)
   hU)
  (bN (lS (qM cQ (bW.cons rE hr.m bW.nil) (vv 0) (aO (vv 2) bG)))
  (bN (lS (qM cQ (bW.cons wL hr.m bW.nil) (vv 0) (aO (vv 1) (aO (vv 2) bG))))
  (bN (pK (vv 0) (aT (dN false) (jT (vv 0) gU) (vv 2)) gU)
  (bU (pK (vv 0) (aT (dN false) (jT (vv 0) kF) aM) kF))))))
theorem ao3(B:eK mg)(gU:cY K ["Often"] "many")(kF:cY K ["Often"] "taken")(rE:QJ P w K mg base)(wL:Dv P w K mg base){cls:Str}{tk:Tok}(h:QU K mg cls "put" "Pouch.put" xG #[.int 1 tk]):cF P w K mg base cls "put" 4 3 [] JQ:=cF.ofD (ds:=[]) (dvs:=[]) h .nil (fun _ _ => .nil) Jh (fun _ _ _ _ _ _ _ us hl=>match us,hl with | [_,_,_],_=>⟨_,rfl,rfl⟩) (Rp B gU kF rE wL)
theorem aoC(B:eK mg)(gU:cY K ["Often"] "many")(kF:cY K ["Often"] "taken")(rE:QJ P w K mg base)(wL:Dv P w K mg base){cls:Str}{tk:Tok}(h:QU K mg cls "put" "Pouch.put" xG #[.int 1 tk]):cF P w K mg base cls "put" 4 3 [.int 1] JQ:=cF.ofD (ds:=[.int 1 tk]) (dvs:=[.int 1]) h (.cons ⟨_,rfl⟩ .nil) (fun _ _ => .cons (by simp only [V2.Den]) .nil) Jh (fun _ _ _ _ _ _ _ us hl=>match us,hl with | [_,_],_=>⟨_,rfl,rfl⟩) (Rp B gU kF rE wL)
theorem adH:dI ["self", "other"] ["self", "other"] (aZ UM):=fT
theorem ao7(B:eK mg)(nR:cY K ["Often"] "keep")(gU:cY K ["Often"] "many")(kF:cY K ["Often"] "taken")(rE:QJ P w K mg base)(Ek:cF P w K mg base "Often" "same_kind" 1 2 [] JU)(Ej:cF P w K mg base "Often" "take_in" 3 2 [] RA){cls:Str}(h:lR K mg cls "join" "Pouch.join" UM):cF P w K mg base cls "join" 4 2 [] QZ:=by
 refine cF.of h adH (fun _ _ _ _ _ _ us hl=>nB us hl bZ) (fun _ _ _ _ _ _ _ hr=>?_);exact(bN (gW (VW.vt (nS (qL (pJ (qM cQ (bW.cons Ek hr.m bW.nil) (vv 0) (aO (vv 1) bG)))) (wY (eZ (rQ hr.units) (jT (vv 1) nR) (jT (vv 0) nR) (eO _)))))
   (bU RP)
   hU)
  (bN (lS (qM cQ (bW.cons rE hr.m bW.nil) (vv 0) (aO (jT (vv 1) gU) bG)))
  (bN (lS (qM cQ (bW.cons Ej hr.m bW.nil) (vv 0) (aO (vv 1) bG)))
  (bN (pK (vv 0) (aT (dN false) (jT (vv 0) gU) (jT (vv 1) gU)) gU)
  (bU (pK (vv 0) (aT (dN false) (jT (vv 0) kF) (jT (vv 1) kF)) kF))))))
theorem EU:dI ["_law_pouch", "_law_kept", "_law_row", "_law_least", "_law_length", "_law_found", "_law_off", "_law_number", "_law_times_here"] ["_law_pouch", "_law_kept", "_law_row", "_law_least", "_law_length"] (aZ MC):=fT
theorem aoV(B:eK mg)(h:HasFn K mg "_law_often_ok" MC)(nM:IU P w K mg base)(Em:cF P w K mg base "Often" "often" 3 2 [] RC):Sz P w K mg base:=by
 refine gD.of h EU (fun _ _ _ _ _ _ us hl=>Hk us hl (fun _ _ _ _ _=>rfl)) (fun _ _ _ _ _ _ _ hr=>?_);exact(bN (fG (i:=5) EU.nd rfl cW (qM cQ (bW.cons Em hr.m bW.nil) (vv 0) (aO (vv 3) bG)))
  (bN (fG (i:=6) EU.nd rfl (Or.inr rfl) (nA cQ (bW.cons nM hr.m bW.nil) (vv 0)))
  (bN (gW (eZ (rQ hr.units) (vv 5) (EC false ["_law_number"] [1,3,4,6] rfl (vK (aZ MC) ["_law_pouch", "_law_kept", "_law_row", "_law_least", "_law_length", "_law_found", "_law_off", "_law_number", "_law_times_here"]) (pL (hV (aqT false) rfl B.sorted IL (aO (Gy false rfl rfl B.list (vv 1)) bG))) (fun cl C s H fp=>⟨(jE (i:=0) (show(["_law_number", "_law_kept", "_law_least", "_law_length", "_law_off"]:List Str).Nodup by decide +kernel) rfl cW),(RR (eZ WC (hV (Rg rfl) rfl B.min boot_min (aO (vv 3) (aO (aT (dN false) (Vx (cE.pM hr) (vv 1) (vv 0) bZ) (vv 4)) bG))) (vv 2) (eO _))),(vv 0)⟩)) (eO _))
   (bU (eL rL))
   hU)
  (bN (Vi cQ.passes rfl (vv 2) (EA rfl (rK (jE (i:=7) EU.nd rfl cW) (rK (jE (i:=8) EU.nd rfl cW) DZ)))
   (bU (gW (VW.vt (RN (eZ WC (vv 8) (vv 3) (eO _)) (RN (eZ vH (vv 8) (vv 6) (eO _)) (Gq (eZ (ahH hr.units) (vv 7) (vv 5) rfl)))))
    (bU (eL rL))
    hU)))
  (bU (eL rL))))))
theorem ET:dI ["_law_pouch", "_law_keep", "_law_row", "_law_cell", "_law_length", "_law_kept", "_law_number", "_law_least"] ["_law_pouch", "_law_keep", "_law_row", "_law_cell"] (aZ UA):=fT
theorem aoT(B:eK mg)(h:HasFn K mg "_law_truly" UA)(Fz:Sq P w K mg base)(Fy:Ta P w K mg base)(Fv:Sz P w K mg base)(nM:IU P w K mg base):Sy P w K mg base:=by
 refine gD.of h ET (fun _ _ _ _ _ _ us hl=>KZ us hl (fun _ _ _ _=>rfl)) (fun _ _ _ _ _ _ _ hr=>?_);exact(bN (fG (i:=4) ET.nd rfl cW (hV (Cp rfl) rfl B.sum boot_sum (aO (Gx false rfl rfl B.list (vv 2)) bG)))
  (bN (fG (i:=5) ET.nd rfl cW (kS cQ Fy hr.m rfl (aO (vv 0) (aO (vv 1) (aO (vv 4) bG)))))
  (bN (gW (eZ ahI (vv 5) wZ (eO _))
   (bU (eL rL))
   hU)
  (bN (uP cQ.passes rfl (pL (aT (dN false) (Gy false rfl rfl B.list (vv 2)) (uR false (aO (aT BC (aT fJ (vv 3) aM) aM) bG)))) (jE (i:=6) ET.nd rfl cW)
   (bN (gW (qL (pJ (kS cQ Fz hr.m rfl (aO (vv 0) (aO (vv 5) (aO (vv 2) (aO (vv 6) (aO (vv 4) bG))))))))
    (bU (eL rL))
    hU)
   (bU (gW (VW.vt (RN (eZ vH (aT nE (xA (cE.pM hr) (vv 2) (vv 6) aM ⟨rfl,rfl,rfl,rfl⟩) (aT (dN false) (vv 1) aM)) (vv 4) (eO _)) (Gq (Vg (cE.pM hr) (vv 6) (vv 5)))))
    (bU (eL rL))
    hU))))
  (bN (uP cQ.passes rfl (pL (uR false (aO aM (aO (aT (dN false) aM (aT fJ (vv 3) aM)) (aO (aT (dN false) (nA cQ (bW.cons nM hr.m bW.nil) (vv 0)) aM) (aO (aT (dN false) aM (aT lI (vv 4) (aT (dN false) (vv 1) aM))) bG)))))) (jE (i:=7) ET.nd rfl cW)
   (bU (gW (qL (pJ (kS cQ Fv hr.m rfl (aO (vv 0) (aO (vv 5) (aO (vv 2) (aO (vv 7) (aO (vv 4) bG))))))))
    (bU (eL rL))
    hU)))
  (bU (eL rL)))))))
theorem AR:dI ["_law_draws_here", "_law_pouches", "_law_rows", "_law_way", "_law_k", "_law_number", "_law_times_here", "_law_at"] ["_law_draws_here", "_law_pouches", "_law_rows", "_law_way"] (aZ UG):=fT
theorem aoZ(B:eK mg)(h:HasFn K mg "_law_filled" UG)(Fw:Su P w K mg base)(Fu:Sv P w K mg base)(El:cF P w K mg base "Often" "put" 4 3 [] JQ):Sx P w K mg base:=by
 refine gD.of h AR (fun _ _ _ _ _ _ us hl=>KZ us hl (fun _ _ _ _=>rfl)) (fun _ _ _ _ _ _ _ hr=>?_);exact(bU (uP cQ.passes rfl (KN rfl B.range (aO (aT lI (hV qC rfl B.len PySem.boot_len (aO (vv 0) bG)) aM) bG)) (jE (i:=4) AR.nd rfl cW)
   (bN (fG (i:=5) AR.nd rfl cW (kS cQ Fw hr.m rfl (aO (dB (vv 0) (aT nE aM (vv 4)) bZ) (aO (vv 3) bG))))
   (bN (gW (eZ (rR hr.units) (vv 3) aM (eO _))
    (bU (fG (i:=5) AR.nd rfl cW (aT fJ (vv 4) aM)))
    hU)
   (bN (fG (i:=6) AR.nd rfl cW (kS cQ Fu hr.m rfl (aO (dB (vv 0) (aT (dN false) (aT nE aM (vv 4)) aM) bZ) bG)))
   (bN (fG (i:=7) AR.nd rfl cW (aT fJ (aT lI (dB (vv 0) (aT (dN false) (aT nE aM (vv 4)) aM) bZ) aM) (hV qC rfl B.len PySem.boot_len (aO (vv 1) bG))))
   (bN (lS (qM cQ (bW.cons El hr.m bW.nil) (dB (vv 1) (vv 7) bZ) (aO (vv 5) (aO (vv 6) bG))))
   (bU (RQ (cE.pM hr) (dB (vv 2) (vv 7) bZ) (vv 5) (aT (dN false) (xA (cE.pM hr) (dB (vv 2) (vv 7) bZ) (vv 5) aM ⟨rfl,rfl,rfl,rfl⟩) (vv 6)))))))))))
theorem TU:dI ["_law_pouches", "_law_rows", "_law_one", "_law_other", "_law_number", "_law_times_here"] ["_law_pouches", "_law_rows", "_law_one", "_law_other"] (aZ UE):=fT
theorem aoY(B:eK mg)(h:HasFn K mg "_law_joined" UE)(Eo:cF P w K mg base "Often" "join" 4 2 [] QZ):Sw P w K mg base:=by
 refine gD.of h TU (fun _ _ _ _ _ _ us hl=>KZ us hl (fun _ _ _ _=>rfl)) (fun _ _ _ _ _ _ _ hr=>?_);exact(bN (lS (qM cQ (bW.cons Eo hr.m bW.nil) (dB (vv 0) (vv 2) bZ) (aO (dB (vv 0) (vv 3) bZ) bG)))
  (bU (uP cQ.passes rfl (pL (Vo false rfl B.list rfl (dB (vv 1) (vv 3) bZ))) (EA rfl (rK (jE (i:=4) TU.nd rfl cW) (rK (jE (i:=5) TU.nd rfl cW) DZ)))
   (bU (RQ (cE.pM hr) (dB (vv 1) (vv 2) bZ) (vv 4) (aT (dN false) (xA (cE.pM hr) (dB (vv 1) (vv 2) bZ) (vv 4) aM ⟨rfl,rfl,rfl,rfl⟩) (vv 5)))))))
theorem oN:dI ["_law_script", "_law_draws_here", "_law_keep", "_law_way", "_law_pouches", "_law_rows", "_law_k", "_law_step", "_law_other", "_law_one", "_law_length"] ["_law_script"] (aZ qO):=fT
theorem aoO{f:Addr}{fd:FuncData}(B:eK mg)(F:oE K "law" "law" qO f fd)(Fx:Ss P w K mg base)(RG:Sx P w K mg base)(RF:Sw P w K mg base)(Ft:Sy P w K mg base)(Ff:wK P w K mg base "Often" 3 2 zZ)(nM:IU P w K mg base):gC P w K mg base (mI P w) 6 f fd ["_law_script"] (rO K 1 Uo):=by
 refine Pb F oN (fun _ _ _ _ _ _ _ hr=>?_);exact(bN (fG (i:=1) oN.nd rfl cW (kS cQ Fx hr.m rfl (aO (vv 0) (aO aM bG))))
  (bN (fG (i:=2) oN.nd rfl (Or.inr rfl) (aT (dN false) aM (aT fJ (dB (vv 1) aM bZ) aM)))
  (bN (fG (i:=3) oN.nd rfl cW (aT fJ (aT lI (dB (vv 1) aM bZ) aM) aM))
  (bN (RO (i:=4) false ["_law_k"] [2] oN.nd rfl cW rfl (vK (aZ qO) ["_law_script", "_law_draws_here", "_law_keep", "_law_way", "_law_pouches", "_law_rows", "_law_k", "_law_step", "_law_other", "_law_one", "_law_length"]) (KN rfl B.range (aO (aT (dN false) aM (aT fJ (aT lI (dB (vv 1) aM bZ) aM) aM)) bG)) (fun cl C s H fp=>⟨(jE (i:=0) (show(["_law_k", "_law_keep"]:List Str).Nodup by decide +kernel) rfl cW),DY,(Vn Ff hr.m rfl (aO (vv 1) bG))⟩))
  (bN (RO (i:=5) false ["_law_pouch"] [] oN.nd rfl cW rfl (vK (aZ qO) ["_law_script", "_law_draws_here", "_law_keep", "_law_way", "_law_pouches", "_law_rows", "_law_k", "_law_step", "_law_other", "_law_one", "_law_length"]) (pL (vv 4)) (fun cl C s H fp=>⟨(jE (i:=0) (show(["_law_pouch"]:List Str).Nodup by decide +kernel) rfl cW),DY,Gz⟩))
  (bN (lS (kS cQ RG hr.m rfl (aO (AH false (vv 1) (uQ aM) (uQ (aT (dN false) aM (aT nE aM (aT fJ (dB (vv 1) aM bZ) aM))))) (aO (vv 4) (aO (vv 5) (aO (vv 3) bG))))))
  (bN (uP cQ.passes rfl (KN rfl B.range (aO (aT BC (hV qC rfl B.len PySem.boot_len (aO (vv 4) bG)) aM) bG)) (jE (i:=6) oN.nd rfl cW)
   (bN (fG (i:=7) oN.nd rfl cW (dB (vv 1) (aT (dN false) aM (vv 6)) bZ))
   (bN (fG (i:=8) oN.nd rfl cW (aT (dN false) aM (aT fJ (vv 7) (aT BC (hV qC rfl B.len PySem.boot_len (aO (vv 4) bG)) aM))))
   (bN (fG (i:=9) oN.nd rfl cW (dB (uR false (aO aM (aO (aT fJ (aT lI (vv 7) aM) (vv 8)) bG))) (aT fJ (aT lI (vv 7) aM) aM) bZ))
   (bN (lS (kS cQ RF hr.m rfl (aO (vv 4) (aO (vv 5) (aO (vv 9) (aO (vv 8) bG))))))
   (bN (gW (eZ (rR hr.units) (aT fJ (aT lI (vv 7) aM) aM) aM (eO _))
    (bU (lS (kS cQ RF hr.m rfl (aO (vv 4) (aO (vv 5) (aO (vv 9) (aO (vv 8) bG)))))))
    hU)
   (bN (fG (i:=4) oN.nd rfl cW (aT (dN false) (AH false (vv 4) KL (uQ (vv 8))) (AH false (vv 4) (uQ (aT (dN false) (vv 8) aM)) KL)))
   (bU (fG (i:=5) oN.nd rfl cW (aT (dN false) (AH false (vv 5) KL (uQ (vv 8))) (AH false (vv 5) (uQ (aT (dN false) (vv 8) aM)) KL)))))))))))
  (bN (gW (eZ (rR hr.units) (aT fJ (aT lI (dB (vv 1) aM bZ) aM) aM) aM (eO _))
   (bU (lS (kS cQ RG hr.m rfl (aO (AH false (vv 1) (uQ aM) (uQ (aT (dN false) aM (aT nE aM (aT fJ (aT lI (dB (vv 1) aM bZ) aM) aM))))) (aO (vv 4) (aO (vv 5) (aO (vv 3) bG)))))))
   hU)
  (bN (fG (i:=10) oN.nd rfl cW (hV (Cp rfl) rfl B.sum boot_sum (aO (Gx false rfl rfl B.list (dB (vv 5) aM bZ)) bG)))
  (bU (eL (Hc (kS cQ Ft hr.m rfl (aO (dB (vv 4) aM bZ) (aO (vv 2) (aO (dB (vv 5) aM bZ) (aO (dB (vv 1) aM bZ) bG))))) (Gw (RS WB (nA cQ (bW.cons nM hr.m bW.nil) (dB (vv 4) aM bZ)) (aT lI (vv 10) (aT (dN false) (vv 2) aM)) (eO _)))))))))))))))
end
theorem all_mk{l:OpenLaw}{w:World}{K:Frag}{h:Heap}{mg:Str→Option Value}{fa fl:Addr}{od an:Option Addr}{sl:Array (Option Value)}{oc kV dc pm cd ct:Value}(X:K.In h)(G:h.Ns mainGlobals mg)(hfa:mg "law" = some (.ref fa))
  (al:nsIn K mainGlobals "law" = some (some (.ref fl))) (ll:K.lookup fl=some ⟨oc,od,.func (fnOf "law" "law" (kN qO) (fB qO) (aZ qO) .none kV dc pm an cd ct),sl⟩) (lc:codeIn K cd "law" = true) (lk:keepIn K (.ref fl)=true)
  (B:eK mg)
  (amC:HasFn K mg "cut" EW)
  (amH:HasFn K mg "_law_mix" UC)
  (amL:HasFn K mg "_law_draws" UH)
  (amD:HasFn K mg "_law_whole" TZ)
  (amF:HasFn K mg "_law_times" UB)
  (amI:HasFn K mg "_law_many" UD)
  (amM:HasFn K mg "_law_counts_ok" EX)
  (amN:HasFn K mg "_law_counted_ok" UI)
  (amG:HasFn K mg "_law_often_ok" MC)
  (amE:HasFn K mg "_law_truly" UA)
  (amK:HasFn K mg "_law_filled" UG)
  (amJ:HasFn K mg "_law_joined" UE)
  (ZV:∃t,mg "LONGEST" = some (.int 1000000000 t))
  {hJ:Addr} (iA:nsIn K mainGlobals "Often" = some (some (.ref hJ))) (jD:lD K hJ)
  (ah8:findIn K (.ref hJ) "keep" = some none)
  (ah7:findIn K (.ref hJ) "lost" = some none)
  (ah6:findIn K (.ref hJ) "many" = some none)
  (ah5:findIn K (.ref hJ) "taken" = some none)
  (ah4:findIn K (.ref hJ) "tally" = some none)
  (akC:findIn K (.ref hJ) "__class__" = some (some (.builtin "object.__class__"))) (aj8:specialIn K (.builtin "object.__class__") "__get__" = some (some (.builtin "getset_descriptor.__get__"))) (ajU:takesIn K (.builtin "object.__class__")=some true) (aj9:mroIn K hJ (.type "object")=some true)
  {Wy:Tok} (Kd:QM K hJ "put" "Pouch.put" xG #[.int 1 Wy])
  (aeL:lQ K hJ "join" "Pouch.join" UM)
  (aeI:lQ K hJ "look_room" "Pouch.look_room" UK)
  (aeJ:lQ K hJ "length" "Pouch.length" UL)
  (aeM:lQ K hJ "held" "Pouch.held" UN)
  (aeH:lQ K hJ "numbers" "Pouch.numbers" UJ)
  (aeR:QS K hJ "Often.__init__" xI)
  (aeE:lQ K hJ "same_kind" "Often.same_kind" UQ)
  (aeD:lQ K hJ "take" "Often.take" UP)
  (aeC:lQ K hJ "take_in" "Often.take_in" UO)
  (aeQ:lQ K hJ "count_in" "Often.count_in" UX)
  (aeN:lQ K hJ "cut_down" "Often.cut_down" UT)
  (aeO:lQ K hJ "counts" "Often.counts" UU)
  (aeK:lQ K hJ "kept" "Often.kept" US)
  (aeG:lQ K hJ "off" "Often.off" UR)
  (aeP:lQ K hJ "counted" "Often.counted" UW)
  (aeF:lQ K hJ "often" "Often.often" MD)
  (al9:JL K mg "Pouch" "__init__" "Pouch.__init__" xH)
  : ∃fd:FuncData,(∀(s:Shared) (v:Value),BindsTo s fd ⟨[v],[]⟩ [("_law_script",v)])∧∀base:Heap,K.In base→base.Ns mainGlobals mg→gC l.prog w K mg base sS 6 fa fd ["_law_script"] (LS K):=by
 have e:=hfa.symm.trans (mg_of X G al);cases e;have nR:cY K ["Often"] "keep":=IH iA jD ah8 (IG);have jS:cY K ["Often"] "lost":=IH iA jD ah7 (IG);have gU:cY K ["Often"] "many":=IH iA jD ah6 (IG);have kF:cY K ["Often"] "taken":=IH iA jD ah5 (IG);have iN:cY K ["Often"] "tally":=IH iA jD ah4 (IG);have Dx:=ajV iA jD akC aj8 ajU aj9;have Fo:Fn K mg "Often":=⟨hJ,mg_of X G iA,iA⟩;have FL:=HV (st:=qO) ll lc lk;refine⟨fnOf "law" "law" (kN qO) (fB qO) (aZ qO) .none kV dc pm an cd ct,fun s v => .of_eq rfl,fun base _ _=>?_⟩;have Fs:=@aoR l.prog w K mg base B amC;have RE:=@aoW l.prog w K mg base B amH;have uL:=@aoS l.prog w K mg base B amD;have Fu:=@aoU l.prog w K mg base B amF;have Fw:=@aoX l.prog w K mg base B amI;have zU:=@aoI l.prog w K mg base B nR gU kF _ al9;have rE:=@ao5 l.prog w K mg base B ZV gU _ (aeI.has X G iA jD);have En:=@ao6 l.prog w K mg base B gU _ (aeJ.has X G iA jD);have Ek:=@apB l.prog w K mg base B Fo Dx _ (aeE.has X G iA jD);have DE:=@apI l.prog w K mg base B iN _ (aeQ.has X G iA jD);have DC:=@apG l.prog w K mg base B iN _ (aeO.has X G iA jD);have DA:=@apE l.prog w K mg base B iN _ (aeK.has X G iA jD);have nM:=@apD l.prog w K mg base B jS _ (aeG.has X G iA jD);have DD:=@apH l.prog w K mg base B jS iN _ (aeP.has X G iA jD);have Fx:=@ao0 l.prog w K mg base B amL RE;have Fz:=@ao2 l.prog w K mg base B amN uL DD nM;have Ep:=@ao8 l.prog w K mg base B DA _ (aeM.has X G iA jD);have CZ:=@ao4 l.prog w K mg base B DA _ (aeH.has X G iA jD);have DB:=@apF l.prog w K mg base B Fs nR jS iN _ (aeN.has X G iA jD);have Fy:=@ao1 l.prog w K mg base B amM uL DC Ep En CZ nM;have Ff:=@aoG l.prog w K mg base B zU jS iN _ (aeR.has X G iA);have wL:=@apA l.prog w K mg base B DE DB _ (aeD.has X G iA jD);have Ej:=@ao9 l.prog w K mg base B jS DE DC DB _ (aeC.has X G iA jD);have Em:=@apC l.prog w K mg base B DD CZ _ (aeF.has X G iA jD);have Fv:=@aoV l.prog w K mg base B amG nM Em;have El:=@ao3 l.prog w K mg base B gU kF rE wL _ _ (Kd.has X G iA jD);have avA:=@aoC l.prog w K mg base B gU kF rE wL _ _ (Kd.has X G iA jD);have Eo:=@ao7 l.prog w K mg base B nR gU kF rE Ek Ej _ (aeL.has X G iA jD);have Ft:=@aoT l.prog w K mg base B amE Fz Fy Fv nM;have RG:=@aoZ l.prog w K mg base B amK Fw Fu El;have RF:=@aoY l.prog w K mg base B amJ Eo;exact aiY (aoO B FL Fx RG RF Ft Ff nM) M.ai0
theorem walk{l:OpenLaw}{q:Program}{loose:List Str}{XP:(Str→Option Value)→Heap→Prop}{YP:World→Heap→Prop}{d:DefRec}{K:Params→Frag}(hn:l.most=some 63)(HB:d.params.defaults=[])
  (hY:∀(w:World) (h:Heap),YP w h→(K w.params).In h)
  (F:∀(w:World) (mg:Str→Option Value) (fa:Addr) (h:Heap),(K w.params).In h→h.Ns mainGlobals mg→mg d.name=some (.ref fa) →
   ∃fd:FuncData,(∀(s:Shared) (u:Value),BindsTo s fd ⟨[u],[]⟩ [("_law_script",u)])∧∀base:Heap,(K w.params).In base→base.Ns mainGlobals mg→gC l.prog w (K w.params) mg base sS 6 fa fd ["_law_script"] (LS (K w.params))) :
  PySem.W.WalkO q loose XP YP l.row.toRowW d [] (fun f vs=>PySem.call f vs) :=
 L2.Vd (n:=63) (k:=6) (x := "_law_script") (CX:=fun _=>sS) (sp:=fun w=>LS (K w.params)) hn (by decide) HB ⟨rfl,by decide,by decide⟩ hY F (fun _ _ a ns hl _ hS=>⟨a,ns,rfl,hS,hl,fun _=>rfl⟩) fun _ _ _ _ _ z=>z
end Fg
open PySem PySem.W PyProof.Rows
namespace HD
open PySem PySem.W PyProof.Rows
def MF(B:String→Option Builtin)(p:Program)(w:World)(lo:Nat)(an:Option Value):Nat→SharedT→Thread→Option SharedT
 | 0,_,_=>none
 | m+1,x,th=>bif through th then some x else bif stepOk lo an th then(stepT (denote B) p w x th).bind (fun y=>MF B p w lo an m y.1 y.2)else none
theorem adV{B:String→Option Builtin}{p:Program}{w:World}{lo:Nat}{an:Option Value}(m:Nat) :
  ∀(x y:SharedT) (th:Thread),MF B p w lo an m x th=some y→topRun B p w lo an m x.abs th=some y.abs:=by
 induction m with
 | zero=>intro x y th z;cases z
 | succ m ih =>
  intro x y th z;unfold MF at z;unfold topRun;cases a:through th <;> rw [a]at z
  ·cases b:stepOk lo an th <;> rw [b]at z
   ·cases z
   ·obtain⟨u,hu,z'⟩:=sO.mp (show(stepT (denote B) p w x th).bind _=some y from z);dsimp only;rw [stepT_spec (s':=u.1) (t':=u.2) hu];exact ih _ _ _ z'
  ·cases z;rfl
def grow:List Obj→BT→Nat→BT
 | [],T,_=>T
 | o::l,T,n=>grow l (T.ins n o) (n+1)
noncomputable def boot(w:World)(os:OsState):SharedT:=⟨grow (boot_heap w.params).objs.toList .nil 0,11,(boot_heap w.params).life,#[],boot_drawn,boot_toks,os⟩
noncomputable def ends(p:Program)(N:Nat)(w:World)(os:OsState):Option SharedT:=MF treeTable p w 11 (some (.ref 6)) N (boot w os) (topStub p)
theorem aq0(w:World):((boot_heap w.params).isNs mainGlobals&&(#[]:Array GenState).size == 0,(boot_heap w.params).objs.size,(boot_heap w.params).nsMap mainGlobals "__annotations__")=(true,11,some (Value.ref 6)):=by kernel_rfl
theorem boot_abs(w:World)(os:OsState):(boot w os).abs=⟨boot_heap w.params,#[],boot_drawn,boot_toks,os⟩:=by kernel_rfl
def fits(p:Program)(h:Heap)(y:SharedT):Bool:=staticsOk (importedModules p.main.body) h y.abs.heap&&namesBound p y.abs.heap&&gensDone y.abs&&laidKept h y.abs.heap
theorem left{p q:Program}{loose:List Str}{Xt:Shared→Bool}{α:Type}{Yf:Shared→α}{Ya:World→α}{N:Nat}{g0:Bool}
  (plain:opening p=plainProg p.main.scope.names) (hN:Nat.ble 600 N=true) (fence:∀s,fenceModules? p s=some s)
  (tests:∀(w:World) (os:OsState),(ends p N w os).map (fits p (boot_heap w.params))=some true)
  (WN:∀(w:World) (os:OsState),(ends p N w os).map (fun y=>openSeen q loose (importedModules p.main.body) Xt g0 y.abs)=some (openGood q loose))
  (hook:∀(w:World) (os:OsState),(ends p N w os).map (fun y=>Yf y.abs)=some (Ya w)) :
  LeftO p q loose Xt Yf Ya N g0:=by
 intro w;obtain⟨⟨hp,ge,dr,tk,os⟩,ho,hq⟩:=uD.mp (boot_open plain hN fence w);simp only [Dz]at hq;obtain⟨rfl,rfl,rfl,rfl⟩:=hq;have bs:=aq0 w;simp only [Dz]at bs;obtain⟨y,hy,a1⟩:=uD.mp (tests w os);have a2:=WN w os;have a3:=hook w os;rw [hy]at a2 a3;have rr:=adV _ _ _ _ hy;rw [boot_abs]at rr;have tt:topFrom treeTable p w N ⟨boot_heap w.params,#[],boot_drawn,boot_toks,os⟩=some y.abs:=by
  unfold topFrom;dsimp only;rw [bs.1,bs.2.1,bs.2.2,rr];show(match fits p (boot_heap w.params) y with | true=>some y.abs | false=>none)=some y.abs;rw [a1]
 show((fencedOpening treeTable p w N).bind (topFrom treeTable p w N)).map _=_;rw [ho,Eb,tt,IX,jB,Dz];exact⟨mF a2,mF a3⟩
set_option maxRecDepth 100000
set_option maxHeartbeats 0
noncomputable def ajH(ds:List Nat)(l:List Stmt):List Stmt:=@List.rec Stmt (fun _=>Nat→List Stmt) (fun _=>[]) (fun s _ f i=>@Bool.rec (fun _=>List Stmt) (s::f (Nat.succ i)) (f (Nat.succ i)) (ds.any (Nat.beq i))) l 0
noncomputable def kept:Program:={ PySem.Challenge.pw_rankpouch_k84_whole_often with main:={ PySem.Challenge.pw_rankpouch_k84_whole_often.main with body:=ajH [1,6,8,11] PySem.Challenge.pw_rankpouch_k84_whole_often.main.body } }
noncomputable def seenX(s:Shared):Bool:=xlAt kept [] s&&recOk (RowW.records (OpenRow.toRowW (OpenLaw.row PySem.Challenge.rw_rankpouch_k84_whole_often))) s
theorem said:OpenLaw.wellSaid PySem.Challenge.rw_rankpouch_k84_whole_often=true:=by kernel_rfl
theorem plain:opening PySem.Challenge.pw_rankpouch_k84_whole_often=plainProg PySem.Challenge.pw_rankpouch_k84_whole_often.main.scope.names:=by kernel_rfl
theorem fence(s:Shared):fenceModules? PySem.Challenge.pw_rankpouch_k84_whole_often s=some s:=by kernel_rfl
theorem tests(w:World)(os:OsState):(ends PySem.Challenge.pw_rankpouch_k84_whole_often 4702 w os).map (fits PySem.Challenge.pw_rankpouch_k84_whole_often (boot_heap w.params))=some true:=by kernel_rfl
theorem WN(w:World)(os:OsState):(ends PySem.Challenge.pw_rankpouch_k84_whole_often 4702 w os).map (fun y=>openSeen kept [] (importedModules PySem.Challenge.pw_rankpouch_k84_whole_often.main.body) seenX true y.abs)=some (openGood kept []):=by kernel_rfl
end HD
open PySem PySem.W PyProof.Rows
local macro_rules
 | `(tactic| o_head $H) => `(tactic| refine holds_open (q := HD.kept) (loose := []) (N := 4702) (Xt := HD.seenX)
   (XP := XL HD.kept []) (Yf := Hook.obs $H) (Ya := Hook.val $H) (YP := Hook.says $H)
   ?_ (Hook.of $H) (Hook.keeps $H) (fun s e => xl_of s (Bool.and_eq_true_iff.mp e).1) XL.keeps
   (by rfl) (by rfl) (by rfl) (fun s e => recFacts_of (Bool.and_eq_true_iff.mp e).2)
   (by rfl) (by assumption) (by decide +kernel) ⟨rfl, rfl, rfl, rfl, rfl, by decide +kernel⟩ ?_ ?_)
set_option maxRecDepth 100000 in
set_option maxHeartbeats 0 in
theorem PySem.Challenge.cw_rankpouch_k84_whole_often_holds : PySem.Challenge.rw_rankpouch_k84_whole_often.Holds := by
 w_on
 refine holds_law HD.said fun said=>?_
 k_head
 ·clear said
  refine HD.left HD.plain (by kernel_rfl) HD.fence HD.tests HD.WN ?_
  intro w os
  kernel_rfl
 ·clear said
  w_witness2
 clear said
 k_fill
 refine Fg.walk (l:=PySem.Challenge.rw_rankpouch_k84_whole_often) rfl rfl (fun w h Y=>PySem.W.kIn_of Y) ?F
 case F =>
  intro w mg fa h KX G GO
  refine' Fg.all_mk KX G GO ?t1 ?t2 ?t3 ?t4 ⟨qS KX G ?t5,qS KX G ?t6,qS KX G ?t7,qS KX G ?t8,qS KX G ?t9,qS KX G ?t10,qS KX G ?t11,qS KX G ?t12,qS KX G ?t13,qS KX G ?t14,qS KX G ?t15,qS KX G ?t16⟩ (L2.pY KX G ?t17 ?t18 ?t19 ?t20) (L2.pY KX G ?t21 ?t22 ?t23 ?t24) (L2.pY KX G ?t25 ?t26 ?t27 ?t28) (L2.pY KX G ?t29 ?t30 ?t31 ?t32) (L2.pY KX G ?t33 ?t34 ?t35 ?t36) (L2.pY KX G ?t37 ?t38 ?t39 ?t40) (L2.pY KX G ?t41 ?t42 ?t43 ?Zz) (L2.pY KX G ?Zy ?Zx ?Zw ?Zv) (L2.pY KX G ?Zu ?Zt ?Zs ?Zr) (L2.pY KX G ?Zq ?Zp ?Zo ?Zn) (L2.pY KX G ?Zm ?Zl ?Zk ?Zj) (L2.pY KX G ?Zi ?Zh ?Zg ?Zf) (V2.apU KX G ?Ze) ?Zd ⟨?t67,?Zc,?Zb,?t70⟩ ?Za ?Yz ?Yy ?Yx ?Yw ?Yv ?t77 ?Yu ?Yt (V2.ah9 ?t80 ?Ys ?Yr ?Yq ?t84 ?t85) (V2.nF ?Yp ?Yo ?Yn ?Ym ?t90) (V2.nF ?t91 ?Yl ?Yk ?Yj ?t95) (V2.nF ?t96 ?Yi ?Yh ?Yg ?t100) (V2.nF ?t101 ?acD ?acC ?acB ?t105) (V2.nF ?t106 ?acA ?ab9 ?ab8 ?t110) (V2.aj7 ?t111 ?ab6 ?ab5 ?ab4 ?t115 ?ab3 ?t117) (V2.nF ?ab2 ?ab1 ?abZ ?abY ?t122) (V2.nF ?t123 ?abX ?abW ?abV ?t127) (V2.nF ?t128 ?abU ?abS ?abR ?t132) (V2.nF ?t133 ?abQ ?abP ?abO ?t137) (V2.nF ?t138 ?abN ?abL ?abK ?t142) (V2.nF ?t143 ?abJ ?abI ?abH ?t147) (V2.nF ?t148 ?abG ?abE ?abD ?t152) (V2.nF ?t153 ?abC ?abB ?abA ?t157) (V2.nF ?t158 ?aa9 ?aa7 ?aa6 ?t162) (V2.nF ?t163 ?aa5 ?aa4 ?aa3 ?t167) (V2.aq3 KX G ?t168 ?t169 ?t170 ?t171 ?t172 ?aa1 ?aa0)
  case t1 | t2 | t3 | t4 | t5 | t6 | t7 | t8 | t9 | t10 | t11 | t12 | t13 | t14 | t15 | t16 | t17 | t18 | t19 | t20 | t21 | t22 | t23 | t24 | t25 | t26 | t27 | t28 | t29 | t30 | t31 | t32 | t33 | t34 | t35 | t36 | t37 | t38 | t39 | t40 | t41 | t42 | t43 | Zz | Zy | Zx | Zw | Zv | Zu | Zt | Zs | Zr | Zq | Zp | Zo | Zn | Zm | Zl | Zk | Zj | Zi | Zh | Zg | Zf | Ze | Zd=>k_is
  case t67 | Zc | Zb=>kernel_rfl
  case t70 | Za | Yz | Yy | Yx | Yw | Yv=>k_is
  case t77 | Yu | Yt=>kernel_rfl
  case t80 | Ys | Yr | Yq=>k_is
  case t84=>kernel_rfl
  case t85 | Yp | Yo | Yn | Ym=>k_is
  case t90=>kernel_rfl
  case t91 | Yl | Yk | Yj=>k_is
  case t95=>kernel_rfl
  case t96 | Yi | Yh | Yg=>k_is
  case t100=>kernel_rfl
  case t101 | acD | acC | acB=>k_is
  case t105=>kernel_rfl
  case t106 | acA | ab9 | ab8=>k_is
  case t110=>kernel_rfl
  case t111 | ab6 | ab5 | ab4=>k_is
  case t115 | ab3=>kernel_rfl
  case t117 | ab2 | ab1 | abZ | abY=>k_is
  case t122=>kernel_rfl
  case t123 | abX | abW | abV=>k_is
  case t127=>kernel_rfl
  case t128 | abU | abS | abR=>k_is
  case t132=>kernel_rfl
  case t133 | abQ | abP | abO=>k_is
  case t137=>kernel_rfl
  case t138 | abN | abL | abK=>k_is
  case t142=>kernel_rfl
  case t143 | abJ | abI | abH=>k_is
  case t147=>kernel_rfl
  case t148 | abG | abE | abD=>k_is
  case t152=>kernel_rfl
  case t153 | abC | abB | abA=>k_is
  case t157=>kernel_rfl
  case t158 | aa9 | aa7 | aa6=>k_is
  case t162=>kernel_rfl
  case t163 | aa5 | aa4 | aa3=>k_is
  case t167=>kernel_rfl
  case t168=>k_is
  case t169=>kernel_rfl
  case t170=>k_is
  case t171=>kernel_rfl
  case t172 | aa1 | aa0=>k_is
