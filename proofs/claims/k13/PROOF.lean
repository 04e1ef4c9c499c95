import PyProof.Rows.All
import KE.KDictList
import KE.KItemsList
import KE.KSortTup
import PyProof.DefCall
import PyProof.ExcClass3
import PyProof.ExcInit
import PyProof.InstStoreFacts
import PyProof.Rows.FStr
import PyProof.Rows.RuleN_abs
import PyProof.Rows.SortRuns
import PyProof.Rows.SortShell
import PyProof.ZipIter
import Wide.All
import OpenK.AllK
import Wide.FinOn
import Lean
import PyProof.EqAt
import PyProof.EqKinds
import PyProof.TupleCall
import PySem.Challenge.RW_rankpouch_k13_merged_entry_by_entry
set_option Elab.async false
set_option linter.all false
set_option maxRecDepth 100000
abbrev aQ:=@PyProof.Rows.wpS_bind
abbrev bH:=@PyProof.Rows.wpS_pure
abbrev bI:=@PySem.wpAny_bind
abbrev cK:=@if_false
abbrev cR:=@if_true
abbrev cX:=@PySem.Heap.lt_size
abbrev dQ:=@PySem.wpAny_pure
abbrev dS:=@List.size_toArray
abbrev eA:=@List.getElem?_eq_some_iff
abbrev eB:=@Bool.false_eq_true
abbrev eE:=@Array.length_toList
abbrev eK:=@List.mem_append
abbrev eU:=@List.length_cons
abbrev eV:=@List.getElem?_eq_getElem
abbrev eW:=@List.append_assoc
abbrev fC:=@List.mem_cons_of_mem
abbrev fG:=@List.length_append
abbrev fT:=@Ne.symm
abbrev fU:=@Nat.ne_of_lt
abbrev gD:=@List.mem_cons
abbrev gM:=@List.map_cons
abbrev gO:=@List.getElem?_append_left
abbrev hJ:=@List.length_map
abbrev hU:=@Int.le_refl
abbrev iL:=@Option.some.inj
abbrev iM:=@Nat.le_refl
abbrev iN:=@List.mem_append_right
abbrev iQ:=@PyProof.Rows.wpS_mono
abbrev iY:=@Option.some.injEq
abbrev iZ:=@PySem.Heap.get?_push_of_some
abbrev jA:=@Array.getElem?_toList
abbrev jL:=@Nat.lt_of_lt_of_le
abbrev jM:=@List.mem_append_left
abbrev jP:=@Bool.and_eq_true
abbrev jQ:=@PyProof.Rows.wpS_forRange
abbrev jS:=@PySem.sizeLine_eq
abbrev kH:=@List.mem_singleton
abbrev kI:=@List.mem_of_getElem?
abbrev kY:=@List.getElem?_append_right
abbrev kZ:=@List.drop_eq_getElem_cons
abbrev lH:=@PySem.wpAny_mono
abbrev lW:=@getElem?_pos
abbrev lX:=@decide_eq_false
abbrev mF:=@List.map_append
abbrev nQ:=@List.getElem?_set_self
abbrev nR:=@List.append_nil
abbrev nS:=@PySem.Heap.get?_push_size
abbrev oY:=@List.take_append_drop
abbrev oZ:=@List.pairwise_append
abbrev pA:=@List.getElem?_set_ne
abbrev pB:=@List.getElem?_map
abbrev pD:=@PyProof.Rows.wpS_get
abbrev pP:=@PySem.W.mg_none_of
abbrev qD:=@decide_eq_true
abbrev qI:=@Nat.le_trans
abbrev qJ:=@List.map_nil
abbrev qK:=@List.length_take
abbrev sG:=@Option.map_eq_some_iff
abbrev sJ:=@List.map_map
abbrev sL:=@List.getElem_of_mem
abbrev sQ:=@PySem.wpAny_field
abbrev uY:=@List.perm_append_comm
abbrev uZ:=@List.length_drop
abbrev vA:=@List.eq_nil_of_length_eq_zero
abbrev vJ:=@Array.perm_iff_toList_perm
abbrev vK:=@PyProof.Rows.wpS_modify
abbrev vL:=@PySem.wpAny_passesOwn
abbrev wO:=@decide_eq_true_eq
abbrev wQ:=@decide_eq_false_iff_not
abbrev xB:=@Nat.zero_le
abbrev xC:=@Nat.zero_add
abbrev xF:=@List.pairwise_cons
abbrev xG:=@List.nodup_cons
abbrev xH:=@List.nil_append
abbrev xI:=@List.lookup_cons
abbrev xJ:=@List.drop_length
abbrev xK:=@List.Perm.append_left
abbrev xR:=@Bool.not_eq_true'
abbrev xT:=@PySem.wpAny_rule
abbrev xU:=@PySem.wpAny_newObj_type
abbrev xV:=@PySem.wpAny_holding
abbrev AV:=@Option.bind_eq_some_iff
abbrev AX:=@List.mem_map
abbrev AY:=@List.length_set
abbrev AZ:=@List.length_nil
abbrev BA:=@List.find?_cons
abbrev BB:=@List.cons.injEq
abbrev BC:=@List.all_eq_true
abbrev BG:=@Int.emod_nonneg
abbrev BH:=@Int.emod_lt_of_pos
abbrev BJ:=@PySem.Heap.get?_update_other
abbrev BK:=@PySem.Heap.get?_push_ne
abbrev BQ:=@Array.toList_push
abbrev FK:=@PySem.codeAny_mono
abbrev FN:=@PyProof.Rows.boot_isinstance
abbrev GG:=@Nat.lt_succ_of_lt
abbrev GJ:=@Int.le_trans
abbrev GK:=@Int.le_of_lt
abbrev GN:=@PySem.Heap.size_update
abbrev GZ:=@Array.toList_extract
abbrev HB:=@PySem.wpAny_truthy_bool
abbrev HC:=@PySem.wpAny_execs_nil
abbrev HE:=@PySem.wpAny_Call_Name_kw
abbrev PH:=@decide_false
abbrev QQ:=@PyProof.Rows.boot_list
abbrev QR:=@Prod.mk.injEq
abbrev QU:=@Nat.succ_le_succ
abbrev QV:=@Nat.le_of_not_lt
abbrev QX:=@List.take_zero
abbrev QY:=@List.take_sublist
abbrev QZ:=@List.length_range
abbrev RC:=@List.length_filter_le
abbrev RD:=@List.getElem_mem
abbrev RE:=@List.getElem_drop
abbrev RF:=@List.filter_append
abbrev RG:=@List.dropLast_concat_getLast
abbrev RH:=@List.cons_append
abbrev RM:=@Int.le_of_eq
abbrev RN:=@Int.add_comm
abbrev Cc:=@beq_eq_false_iff_ne
abbrev Dl:=@PyProof.Rows.slot_tuple_getitem
abbrev Dm:=@PyProof.Rows.callWith_type1
abbrev Ec:=@List.take_add_one
abbrev Ed:=@List.mem_range'_1
abbrev Ee:=@List.getElem?_take
abbrev Ef:=@List.getElem?_eq_none
abbrev Eg:=@List.getElem?_drop
abbrev Eh:=@List.getD_eq_getElem?_getD
abbrev Ei:=@List.flatten_cons
abbrev Ej:=@List.filterMap_cons
abbrev Ek:=@List.ext_getElem?
abbrev El:=@List.drop_eq_nil_of_le
abbrev Ep:=@PySem.Heap.get?_update_self
abbrev Fe:=@Array.toList_append
theorem bJ{α:Sort _}{a:α}{q:Prop}:a=a∨q:=Or.inl rfl
theorem aP{α β γ:Sort _}{f:α→β→γ}:∀x y,f x y=f x y:=fun _ _=>rfl
theorem cP{n:Nat}:n≤n:=iM n
theorem zJ{n:Int}:n≤n:=hU n
theorem lQ{α:Type _}{a:α}{l:List α}:a∈a::l:=List.mem_cons_self ..
theorem vX{n:Nat}:0≤n:=xB n
open PySem.W (Frag OpenLaw clsIn codeIn emptyDict findIn fnOf instObj isNs_of_in keepIn kia_one kitOne lookIn methodObj mg_of mroIn nsIn specialIn subIn)
namespace L2
open PySem PySem.Spec PyProof.Rows
abbrev Key:=Sum Int Str
def YE:Key→Value→Bool
 | .inl k,v=>Value.isInt k v
 | .inr x,v=>Value.isStrOf x v
def Tt(w:World):Key→Int
 | .inl k=>hashInt k
 | .inr x=>hashStr w x
theorem pR:∀{k:Key} {v:Value},YE k v=true→(∃i t,k=Sum.inl i∧v=Value.int i t)∨(∃x t,k=Sum.inr x∧v=Value.str x t)
 | .inl i,v,h=>by
  obtain⟨t,e⟩:=Value.isInt_shape (k:=i) (v:=v) h;exact .inl ⟨i,t,rfl,e⟩
 | .inr x,v,h=>by
  obtain⟨t,e⟩:=Value.isStrOf_shape (x:=x) (v:=v) h;exact .inr ⟨x,t,rfl,e⟩
theorem Ts(a b:Int):decide ((Sum.inl a:Key)=Sum.inl b)=(a == b):=by
 by_cases e:a=b
 ·subst e;simp
 ·have h:¬(Sum.inl a:Key)=Sum.inl b:=fun q=>e (Sum.inl.inj q);rw [lX h];exact(Cc.mpr e).symm
theorem Tp(a b:Str):decide ((Sum.inr a:Key)=Sum.inr b)=decide (a=b):=by
 by_cases e:a=b
 ·subst e;simp
 ·have h:¬(Sum.inr a:Key)=Sum.inr b:=fun q=>e (Sum.inr.inj q);rw [lX h,lX e]
theorem Tr(a:Int)(b:Str):decide ((Sum.inl a:Key)=Sum.inr b)=false:=lX (fun q=>nomatch q)
theorem Tq(a:Str)(b:Int):decide ((Sum.inr a:Key)=Sum.inl b)=false:=lX (fun q=>nomatch q)
def XG(prog:Program)(w:World):PySem.KeyKind prog w Key where
 is:=YE
 hash:=Tt w
 inj:=fun v a b ha hb=>by
  rcases pR ha with⟨i,t,rfl,rfl⟩ | ⟨x,t,rfl,rfl⟩
  ·rcases pR hb with⟨j,u,rfl,e⟩ | ⟨y,u,rfl,e⟩
   ·injection e with e1 _;rw [e1]
   ·exact nomatch e
  ·rcases pR hb with⟨j,u,rfl,e⟩ | ⟨y,u,rfl,e⟩
   ·exact nomatch e
   ·injection e with e1 _;rw [e1]
 byValue:=fun k v h=>by
  rcases pR h with⟨i,t,rfl,rfl⟩ | ⟨x,t,rfl,rfl⟩ <;> rfl
 pyHash:=fun hv h=>by
  rcases pR hv with⟨i,t,rfl,rfl⟩ | ⟨x,t,rfl,rfl⟩
  ·exact wpAny_pyHash_int h
  ·exact wpAny_pyHash_str h
 eqBool:=fun hu hv h=>by
  rcases pR hu with⟨i,t,rfl,rfl⟩ | ⟨x,t,rfl,rfl⟩
  ·rcases pR hv with⟨j,u,rfl,rfl⟩ | ⟨y,u,rfl,rfl⟩
   ·rw [Ts]at h;exact wpAny_eqBool_int h
   ·rw [Tr]at h;exact SeqAt.EqAt.int_str i t y u _ _ _ _ h
  ·rcases pR hv with⟨j,u,rfl,rfl⟩ | ⟨y,u,rfl,rfl⟩
   ·rw [Tq]at h;exact SeqAt.EqAt.str_int x t j u _ _ _ _ h
   ·rw [Tp]at h;exact wpAny_eqBool_str h
 «strs»:=fun k x t v h=>by
  rcases pR h with⟨i,u,rfl,e⟩ | ⟨y,u,rfl,e⟩
  ·exact nomatch e
  ·injection e with e1 _;subst e1;cases v <;> rfl
inductive V where
 | bS | bl (b:Bool) | int (i:Int) | str (x:Str) | QA (b:Array UInt8) | wJ (b:UInt64) | ref (a:Addr) | ty (n:String)
 deriving DecidableEq
def RelV:V→Value→Prop
 | .bS,u=>u=Value.none
 | .bl b,u=>u=Value.bool b
 | .int i,u=>∃t,u=Value.int i t
 | .str x,u=>∃t,u=Value.str x t
 | .QA b,u=>∃t,u=Value.bytes b t
 | .wJ b,u=>∃t,u=Value.float b t
 | .ref a,u=>u=Value.ref a
 | .ty n,u=>u=Value.type n
abbrev Vals:List V→List Value→Prop:=Paired RelV
theorem Vals.length{xs:List V}{us:List Value}(r:Vals xs us):xs.length=us.length:=Paired.length r
theorem Vals.get:∀{xs:List V} {us:List Value} {i:Nat} {x:V},Vals xs us→xs[i]? = some x→∃u,us[i]? = some u∧RelV x u
 | _,_,_,_,.nil,e=>by simp at e
 | _,_,0,_,.cons r _,e=>by simp at e;subst e;exact⟨_,rfl,r⟩
 | _,_,i+1,x,.cons _ t,e=>by
  obtain⟨u,h1,h2⟩:=Vals.get (i:=i) (x:=x) t (by simpa using e);exact⟨u,by simpa using h1,h2⟩
theorem Vals.set{x:V}{u:Value}(r:RelV x u):∀{xs:List V} {us:List Value} (i:Nat),Vals xs us→Vals (xs.set i x) (us.set i u)
 | _,_,_,.nil => .nil
 | _,_,0,.cons _ t => .cons r t
 | _,_,i+1,.cons q t => .cons q (Vals.set r i t)
theorem Vals.append:∀{xs ys:List V} {us ws:List Value},Vals xs us→Vals ys ws→Vals (xs++ys) (us++ws)
 | _,_,_,_,.nil,s=>s
 | _,_,_,_,.cons r t,s => .cons r (Vals.append t s)
theorem Vals.take:∀{xs:List V} {us:List Value} (n:Nat),Vals xs us→Vals (xs.take n) (us.take n)
 | _,_,0,_ => .nil
 | _,_,_+1,.nil => .nil
 | _,_,n+1,.cons r t => .cons r (Vals.take n t)
theorem Vals.drop:∀{xs:List V} {us:List Value} (n:Nat),Vals xs us→Vals (xs.drop n) (us.drop n)
 | _,_,0,r=>r
 | _,_,_+1,.nil => .nil
 | _,_,n+1,.cons _ t=>Vals.drop n t
def uW:Option V→Option Value→Prop
 | some v,some u=>RelV v u
 | none,none=>True
 | _,_=>False
def KV{κ:Type}:List (κ×V)→List (κ×Value)→Prop:=Paired fun(p:κ×V) (q:κ×Value)=>p.1=q.1∧RelV p.2 q.2
def kV:Key→V
 | .inl i => .int i
 | .inr x => .str x
inductive HO where
 | lst (xs:List V)
 | tup (xs:List V)
 | dK (aL:List (Key×V)) | dT (aL:List (List Key×V))
 | set (S:Int→Bool) (n:Nat)
 | ins (C dx:Addr) (fs:List (Str×V))
 | own (x:Addr)
 | xd (fs:List (Str×V))
 | met (f x:Addr)
 | DC (lo hi:Int)
 | fP (o:Obj) (u:HO)
 | pG (ps:Array Value)
 | ext (φ:Heap→Prop)
abbrev Hp:=Addr→Option HO
def upd(H:Hp)(a:Addr)(o:HO):Hp:=fun b=>if b=a then some o else H b
theorem gR{H:Hp}{a:Addr}{o:HO}:upd H a o a=some o:=by unfold upd;rw [if_pos rfl]
theorem cO{H:Hp}{a b:Addr}{o:HO}(h:b≠a):upd H a o b=H b:=by unfold upd;rw [if_neg h]
theorem XA{H:Hp}{a b:Addr}{o u:HO}(h:H a=some o)(h':H b=some u)(d:o≠u):a≠b:=by
 intro e;subst e;rw [h]at h';exact d (iL h')
theorem oG{H:Hp}{a b:Addr}{o:HO}(h:H a=some o)(h':H b=none):a≠b:=by
 intro e;subst e;rw [h]at h';cases h'
section
variable(P:Program)(w:World)
def fS(H:Hp)(h:Heap)(a:Addr):HO→Prop
 | .lst xs=>xs.length≤sizeLine∧∃(aI:List Value) (n:Nat),Vals xs aI∧h.get? a=some { cls := .type "list",data := .seq aI.toArray n }
 | .tup xs=>xs.length≤sizeLine∧∃aI:List Value,Vals xs aI∧IsTup h a aI.toArray
 | .dK aL=>aL.length≤sizeLine∧(a == sysModules)=false∧∃vs,KV aL vs∧h.DictOf (XG P w) a vs
 | .dT aL=>aL.length≤sizeLine∧(a == sysModules)=false∧∃xs:List (List Key×Addr×Value),
   Paired (fun(p:List Key×V) (q:List Key×Addr×Value)=>p.1=q.1∧H q.2.1=some (.tup (p.1.map kV))∧RelV p.2 q.2.2) aL xs ∧
   ∃o es ep,h.get? a=some o∧o.ExactDict∧o.data = .dict es ep∧es.toList=xs.map (entryOfKey (tupleKind (XG P w)))∧(xs.map (·.1)).Nodup
 | .set S n=>h.SetOf (intKind P w) a S n
 | .ins C dx fs=>H dx=some (.own a)∧fs.length≤1000∧dx≠a∧h.get? a=some (instObj C dx) ∧
   ∃mA,h.Ns1 dx mA∧(∀f,uW (fs.lookup f) (mA f))∧PySem.Within mA (fs.map (·.1))
 | .own _=>∃o,h.get? a=some o
 | .xd fs=>∃mA,h.Ns1 a mA∧∀f,uW (fs.lookup f) (mA f)
 | .DC lo hi=>∃t u v,h.get? a=some { cls := .type "range",data := .fields #[.int lo t,.int hi u,.int 1 v] }
 | .fP o u=>h.get? a=some o∧fS H h a u
 | .pG ps=>h.get? a=some { cls := .none,data := .fields ps }
 | .met f x=>h.get? a=some (methodObj (.ref f) (.ref x))
 | .ext φ=>φ h∧(∃o,h.get? a=some o)∧∀h1 h2:Heap,φ h1→(∀o,h1.get? a=some o→h2.get? a=some o)→φ h2
def eL(H:Hp)(h:Heap):Prop:=∀a o,H a=some o→fS P w H h a o
end
section
variable{P:Program}{w:World}{H H':Hp}{h h':Heap}{a:Addr}{o:HO}
theorem fS.lt(x:fS P w H h a o):a<h.objs.size:=by
 cases o with
 | lst xs=>obtain⟨_,_,_,_,e⟩:=x;exact cX e
 | tup xs=>obtain⟨_,_,_,p⟩:=x;exact p.lt
 | dK aL=>obtain⟨_,_,_,_,o,_,_,e,_⟩:=x;exact cX e
 | dT aL=>obtain⟨_,_,_,_,o,_,_,e,_⟩:=x;exact cX e
 | set S n=>obtain⟨o,_,_,_,e,_⟩:=x;exact cX e
 | ins C dx fs=>obtain⟨_,_,_,e,_⟩:=x;exact cX e
 | own y=>obtain⟨_,e⟩:=x;exact cX e
 | xd fs=>obtain⟨_,⟨_,_,_,e,_⟩,_⟩:=x;exact cX e
 | DC lo hi=>obtain⟨_,_,_,e⟩:=x;exact cX e
 | fP ob u=>obtain⟨e,_⟩:=x;exact cX e
 | pG ps=>exact cX (show h.get? a=some _ from x)
 | met f y=>exact cX (show h.get? a=some _ from x)
 | ext φ=>obtain⟨_,⟨_,e⟩,_⟩:=x;exact cX e
theorem Paired.tN{α β:Type}{F G:α→β→Prop}:∀{l₁:List α} {l₂:List β},Paired F l₁ l₂→(∀a b,F a b→G a b)→Paired G l₁ l₂
 | _,_,.nil,_ => .nil
 | _,_,.cons r t,f => .cons (f _ _ r) (Paired.tN t f)
theorem fS.sY(x:fS P w H h a o)(k:∀b u,(b=a∨H b=some (.own a))→h.get? b=some u→h'.get? b=some u)
  (ho:∀b,H b=some (.own a)→H' b=some (.own a)) (ht:∀b xs,H b=some (.tup xs)→H' b=some (.tup xs)):fS P w H' h' a o:=by
 induction o with
 | lst xs=>obtain⟨z,aI,n,r,e⟩:=x;exact⟨z,aI,n,r,k _ _ (.inl rfl) e⟩
 | tup xs=>obtain⟨z,aI,r,ob,e,c⟩:=x;exact⟨z,aI,r,ob,k _ _ (.inl rfl) e,c⟩
 | dK aL=>obtain⟨z,y,vs,r,ob,es,ep,e,c⟩:=x;exact⟨z,y,vs,r,ob,es,ep,k _ _ (.inl rfl) e,c⟩
 | dT aL =>
  obtain⟨z,y,xs,r,ob,es,ep,e,c⟩:=x;exact⟨z,y,xs,Paired.tN r fun p q z=>⟨z.1,ht _ _ z.2.1,z.2.2⟩,ob,es,ep,k _ _ (.inl rfl) e,c⟩
 | set S n=>obtain⟨ob,es,ep,t,e,c⟩:=x;exact⟨ob,es,ep,t,k _ _ (.inl rfl) e,c⟩
 | ins C dx fs =>
  obtain⟨d,z,ne,e,mA,⟨od,es,ep,e2,c⟩,r⟩:=x;exact⟨ho _ d,z,ne,k _ _ (.inl rfl) e,mA,⟨od,es,ep,k _ _ (.inr d) e2,c⟩,r⟩
 | own y=>obtain⟨ob,e⟩:=x;exact⟨ob,k _ _ (.inl rfl) e⟩
 | xd fs=>obtain⟨mA,⟨od,es,ep,e,c⟩,r⟩:=x;exact⟨mA,⟨od,es,ep,k _ _ (.inl rfl) e,c⟩,r⟩
 | DC lo hi=>obtain⟨t,u,v,e⟩:=x;exact⟨t,u,v,k _ _ (.inl rfl) e⟩
 | fP ob u ih=>obtain⟨e,q⟩:=x;exact⟨k _ _ (.inl rfl) e,ih q⟩
 | pG ps =>
  have e:h.get? a=some { cls := .none,data := .fields ps }:=x;show h'.get? a=some { cls := .none,data := .fields ps };exact k a _ (.inl rfl) e
 | met f y =>
  have e:h.get? a=some (methodObj (.ref f) (.ref y)):=x;show h'.get? a=some (methodObj (.ref f) (.ref y));exact k a _ (.inl rfl) e
 | ext φ=>obtain⟨p,⟨o,e⟩,st⟩:=x;exact⟨st _ _ p fun o q=>k _ _ (.inl rfl) q,⟨o,k _ _ (.inl rfl) e⟩,st⟩
theorem eL.lt(x:eL P w H h)(e:H a=some o):a<h.objs.size:=(x a o e).lt
theorem eL.fresh(x:eL P w H h)(e:h.objs.size≤a):H a=none:=by
 cases q:H a with
 | none=>rfl
 | some u=>exact absurd (jL (x.lt q) e) (Nat.lt_irrefl _)
theorem eL.kept(x:eL P w H h)(k:∀b u,h.get? b=some u→h'.get? b=some u):eL P w H h':=fun a o e =>
 (x a o e).sY (fun b u _ q=>k b u q) (fun _ q=>q) fun _ _ q=>q
theorem eL.laid(x:eL P w H h)(k:∀b u,h.get? b=some u→h'.get? b=some u)(hp:h.objs.size≤a)(new:fS P w (upd H a o) h' a o):eL P w (upd H a o) h':=fun b u e=>by
 have hn:=x.fresh hp
 by_cases hb:b=a
 ·subst hb;rw [gR]at e;cases e;exact new
 ·rw [cO hb]at e;exact(x b u e).sY (fun c v _ q=>k c v q) (fun c q=>by rw [cO (oG q hn)];exact q) fun c xs q=>by rw [cO (oG q hn)];exact q
end
def Rd(H:Hp)(a:Addr)(u:HO):Prop:=H a=some u∨∃o,H a=some (.fP o u)
theorem Rd.of{H:Hp}{a:Addr}{u:HO}(h:H a=some u):Rd H a u := .inl h
theorem Rd.ok{P:Program}{w:World}{H:Hp}{h:Heap}{a:Addr}{u:HO}(r:Rd H a u)(x:eL P w H h):fS P w H h a u:=by
 rcases r with r | ⟨o,r⟩
 ·exact x a u r
 ·obtain⟨_,q⟩:=x a _ r;exact q
def GH:Option HO→Prop
 | some (.lst _)=>True
 | some (.dK _)=>True
 | some (.dT _)=>True
 | some (.set _ _)=>True
 | some (.ins _ _ _)=>True
 | some (.ext _)=>True
 | _=>False
section
variable{P:Program}{w:World}{H:Hp}{h h':Heap}{x e:Addr}{o':HO}
theorem eL.write(ok:eL P w H h)(mu:GH (H x))(he:e=x∨H e=some (.own x))(k:∀b u,b≠e→h.get? b=some u→h'.get? b=some u)(wF:∃u,h'.get? e=some u)
  (new:fS P w (upd H x o') h' x o'):eL P w (upd H x o') h':=fun b u q=>by
 have WU:∀c y,H c=some (.own y)→c≠x:=fun c y r z=>by subst z;rw [r]at mu;exact mu
 have Rg:∀c xs,H c=some (.tup xs)→c≠x:=fun c xs r z=>by subst z;rw [r]at mu;exact mu
 by_cases hb:b=x
 ·subst hb;rw [gR]at q;cases q;exact new
 ·rw [cO hb]at q
  by_cases uA:b=e
  ·have q':H b=some (.own x):=by
    rcases he with z | z
    ·exact absurd (uA.trans z) hb
    ·rw [uA];exact z
   rw [q]at q';cases q';obtain⟨v,hv⟩:=wF;exact⟨v,by rw [uA];exact hv⟩
  ·refine(ok b u q).sY (fun c v hc r=>k c v ?_ r) (fun c r=>by rw [cO (WU c b r)];exact r) fun c xs r=>by rw [cO (Rg c xs r)];exact r
   rcases hc with rfl | hc
   ·exact uA
   ·rintro rfl
    rcases he with z | z
    ·exact WU c b hc z
    ·rw [hc]at z;cases z;exact hb rfl
end
structure Un(fs ex:List Addr)(H H':Hp)(h h':Heap):Prop where
 keep:∀b o,h.get? b=some o→H b=none→b∉fs→b∉ex→h'.get? b=some o
 slot:∀b o,h.get? b=some o→H b=none→b∈fs→b∉ex→∃sl,h'.get? b=some { o with slots:=sl }
 free:∀b o,h.get? b=some o→H b=none→b∉ex→H' b=none
 there:∀b o,h.get? b=some o→b∉ex→∃o',h'.get? b=some o'
 kM:∀b xs,H b=some (.tup xs)→H' b=some (.tup xs)
 kC:∀b o u,H b=some (.fP o u)→H' b=some (.fP o u)
 kN:∀b ps,H b=some (.pG ps)→∃more,H' b=some (.pG (ps++more))
section
variable{fs fO ex Aw:List Addr}{H H1 H2:Hp}{h h1 h2 h':Heap}{a x e:Addr}{o:HO}
theorem Un.any(u:Un fs ex H H1 h h1){b:Addr}{ob:Obj}(q:h.get? b=some ob)(n:H b=none)(hx:b∉ex):∃sl,h1.get? b=some { ob with slots:=sl }:=by
 by_cases hb:b∈fs
 ·exact u.slot b ob q n hb hx
 ·exact⟨ob.slots,u.keep b ob q n hb hx⟩
theorem Un.trans(a:Un fs ex H H1 h h1)(b:Un fs ex H1 H2 h1 h2):Un fs ex H H2 h h2 where
 keep:=fun c ob q n hc hx=>b.keep c ob (a.keep c ob q n hc hx) (a.free c ob q n hx) hc hx
 slot:=fun c ob q n hc hx=>by
  obtain⟨sl,e1⟩:=a.slot c ob q n hc hx;obtain⟨yM,e2⟩:=b.slot c _ e1 (a.free c ob q n hx) hc hx;exact⟨yM,e2⟩
 free:=fun c ob q n hx=>by
  obtain⟨o',e1⟩:=a.there c ob q hx;exact b.free c o' e1 (a.free c ob q n hx) hx
 there:=fun c ob q hx=>by
  obtain⟨o',e1⟩:=a.there c ob q hx;exact b.there c o' e1 hx
 kM:=fun c xs q=>b.kM c xs (a.kM c xs q)
 kC:=fun c ob xs q=>b.kC c ob xs (a.kC c ob xs q)
 kN:=fun c ps q=>by
  obtain⟨m1,e1⟩:=a.kN c ps q;obtain⟨m2,e2⟩:=b.kN c _ e1;exact⟨m1++m2,by rw [e2,Array.append_assoc]⟩
theorem Un.kept(k:∀b u,h.get? b=some u→h'.get? b=some u):Un fs ex H H h h' :=
 ⟨fun b ob q _ _ _=>k b ob q,fun b ob q _ _ _=>⟨ob.slots,k b ob q⟩,fun _ _ _ n _=>n,fun b ob q _=>⟨ob,k b ob q⟩,fun _ _ q=>q,fun _ _ _ q=>q,fun _ ps q=>⟨#[],by rw [q];simp⟩⟩
theorem Un.refl:Un fs ex H H h h:=Un.kept fun _ _ q=>q
theorem Un.laid(k:∀b u,h.get? b=some u→h'.get? b=some u)(hp:h.objs.size≤a)(hn:H a=none):Un fs ex H (upd H a o) h h' where
 keep:=fun b u q _ _ _=>k b u q
 slot:=fun b u q _ _ _=>⟨u.slots,k b u q⟩
 free:=fun b u q n _=>by rw [cO (fU (jL (cX q) hp))];exact n
 there:=fun b u q _=>⟨u,k b u q⟩
 kM:=fun b xs q=>by rw [cO (oG q hn)];exact q
 kC:=fun b u xs q=>by rw [cO (oG q hn)];exact q
 kN:=fun b ps q=>⟨#[],by rw [cO (oG q hn),q];simp⟩
theorem Un.write(mu:GH (H x))(he:e=x∨H e=some (.own x))(k:∀b u,b≠e→h.get? b=some u→h'.get? b=some u)(wF:∃u,h'.get? e=some u):Un fs ex H (upd H x o) h h':=by
 have hx:∀b,H b=none→b≠x:=fun b n z=>by subst z;rw [n]at mu;exact mu
 have hb:∀b,H b=none→b≠e:=fun b n z=>by
  subst z
  rcases he with r | r
  ·exact hx b n r
  ·rw [n]at r;cases r
 have hm:∀b u,H b=some u→¬GH (some u)→b≠x:=fun b u q nm z=>by subst z;rw [q]at mu;exact nm mu
 refine⟨fun b u q n _ _=>k b u (hb b n) q,fun b u q n _ _=>⟨u.slots,k b u (hb b n) q⟩,fun b u q n _=>by rw [cO (hx b n)];exact n,fun b u q _=>?_,
  fun b xs q=>by rw [cO (hm b _ q fun z=>z)];exact q,fun b u xs q=>by rw [cO (hm b _ q fun z=>z)];exact q,fun b ps q=>⟨#[],by rw [cO (hm b _ q fun z=>z),q];simp⟩⟩
 by_cases uA:b=e
 ·subst uA;exact wF
 ·exact⟨u,k b u uA q⟩
theorem Un.mono(u:Un fs ex H H1 h h1)(hs:∀b∈fs,b∈fO)(hx:∀b∈ex,b∈Aw):Un fO Aw H H1 h h1 :=
 ⟨fun b ob q n hb he=>u.keep b ob q n (fun z=>hb (hs b z)) fun z=>he (hx b z),fun _ _ q n _ he=>u.any q n fun z=>he (hx _ z),fun b ob q n he=>u.free b ob q n fun z=>he (hx b z),fun b ob q he=>u.there b ob q fun z=>he (hx b z),u.kM,u.kC,u.kN⟩
end
def CI(h:Heap)(H:Hp):List Addr:=(List.range h.objs.size).filter fun a=>(H a).isSome
def pW(h:Heap)(H:Hp):Heap:=PySem.W.hideAll h (CI h H)
theorem Wc(h:Heap)(H:Hp):(pW h H).objs.size=h.objs.size:=PySem.W.hideAll_size _ _
theorem We{h:Heap}{H:Hp}{b:Addr}{o:Obj}(e:h.get? b=some o)(n:H b=none):(pW h H).get? b=some o :=
 PySem.W.hideAll_get _ e fun hm=>by
  have q:(H b).isSome=true:=(List.mem_filter.mp hm).2;rw [n]at q;simp at q
theorem Rc{h:Heap}{H:Hp}{b:Addr}{o:Obj}(e:(pW h H).get? b=some o):h.get? b=some o∧H b=none:=by
 have e':h.get? b=some o:=PySem.W.of_hideAll (CI h H) e;refine⟨e',?_⟩;cases q:H b with
 | none=>rfl
 | some x =>
  have hm:b∈CI h H:=List.mem_filter.mpr ⟨List.mem_range.mpr (cX e'),by simp [q]⟩;have z:(pW h H).get? b=none:=PySem.W.hideAll_none (CI h H) hm;rw [z]at e;cases e
def abK(g h:Heap)(L:Addr):List (Addr×Obj):=(List.range h.objs.size).filterMap fun a=>if a=L∨(g.get? a).isSome=true then none else(h.get? a).map fun o=>(a,o)
def rest(g h:Heap)(L d:Addr):List (Addr×Obj):=(abK g h L).filter fun p=>decide (p.1≠d)
structure Mod(K:Frag)(mg:Str→Option Value)(base:Heap):Prop where
 EC:K.In base
 glob:base.Ns mainGlobals mg
 blt:∃mb,base.Ns builtinsNs mb∧∀x:Str,x ≠ "__name__"→mb x=bootBuiltins x
 nolimit:base.NoLimit
structure Cx where
 prog:Program
 w:World
 K:Frag
 mg:Str→Option Value
 base:Heap
 A:Around
 N:List Str
 s₀:Shared
 H₀:Hp
 env:Env
 outer:List Env
 stack:List Env
 ex:List Addr
 fn:Str→Bool
 calm:Bool
 pn:List (Addr×Obj)
 xe:Value→Shared→Prop
def dY(l:List Env):List Addr:=l.filterMap (·.frame)
abbrev Cx.fs(X:Cx):List Addr:=dY X.outer
def FZ(sc:Scope)(x:Str):Prop:=sc.names.lookup x=some .local∨sc.names.lookup x=some .cell∨sc.names.lookup x=some .free
def Loc(sc:Scope)(x:Str):Prop:=sc.names.lookup x=some .local∨sc.names.lookup x=some .cell
def Look(env:Env)(h:Heap)(m:Str→Option Value)(x:Str)(u:Value):Prop :=
 (env.kindOf x=some .local∧m x=some u)∨((env.kindOf x=some .cell∨env.kindOf x=some .free)∧∃c,env.cells.lookup x=some c∧h.IsCell c (some u))
structure Cx.Ok(X:Cx):Prop where
 mod:Mod X.K X.mg X.base
 kind:X.env.scope.kind = .function
 glob:X.env.globals=mainGlobals
 blt:X.env.builtins=builtinsNs
 above:X.s₀.heap.objs.size≤X.env.locals
 inj:∀x y c,X.env.cells.lookup x=some c→X.env.cells.lookup y=some c→x=y
 has:∀x,(X.env.kindOf x=some .cell∨X.env.kindOf x=some .free)→∃c,X.env.cells.lookup x=some c
 uN:∀x c,X.fn x=true→X.env.cells.lookup x=some c→X.s₀.heap.objs.size≤c
 hd:X.calm=true→X.A.handled=none
 frames:X.A.frames=some X.stack
 mL:X.stack=X.outer∨(X.stack=X.env::X.outer∧X.env.frame=some X.env.locals)
 uK:∀b∈X.ex,b≠X.env.locals∧∀x c,X.env.cells.lookup x=some c→c≠b
 bs:∀b o,X.base.get? b=some o→X.s₀.heap.get? b=some o∧X.H₀ b=none
 mB:X.base.objs.size≤X.s₀.heap.objs.size
 pO:∀b o,X.base.get? b=some o→b∉X.ex
 rX:∀b∈X.ex,b∉X.fs
 jH:X.s₀.heap.FunFrames X.base X.outer
 nN:∀b∈X.fs,X.H₀ b=none
structure Inv(X:Cx)(pins:List (Addr×Obj))(σ:List (Option V))(H:Hp)(s:Shared):Prop where
 ok:X.Ok
 os:s.os=X.s₀.os
 bare:AllBare s.gens
 base:Un X.fs X.ex X.H₀ H X.s₀.heap s.heap
 loc:∃m,s.heap.Ns X.env.locals m∧∀(i:Nat) (x:Str) (v:V),X.N[i]? = some x→σ[i]? = some (some v)→FZ X.env.scope x→∃u,RelV v u∧Look X.env s.heap m x u
 cell:∀x c,X.env.cells.lookup x=some c→∃v,s.heap.IsCell c v
 free:H X.env.locals=none
 mX:∀x c,X.env.cells.lookup x=some c→H c=none
 pin:∀p∈X.pn++pins,s.heap.get? p.1=some p.2∧H p.1=none∧p.1≠X.env.locals∧p.1∉X.fs∧∀v,p.2.data ≠ .cell v
 aK:eL X.prog X.w H s.heap
 len:σ.length=X.N.length
section
variable{X:Cx}{pins:List (Addr×Obj)}{σ:List (Option V)}{H H':Hp}{s:Shared}{h':Heap}
theorem Cx.Ok.Rk(ok:X.Ok){b:Addr}{o:Obj}(e:X.base.get? b=some o):b∉X.fs:=fun hb=>by
 have:=(ok.jH.mem hb).1;rw [e]at this;cases this
theorem Inv.bs(I:Inv X pins σ H s):∀b o,X.base.get? b=some o→s.heap.get? b=some o∧H b=none:=fun b o e =>
 ⟨I.base.keep b o (I.ok.bs b o e).1 (I.ok.bs b o e).2 (I.ok.Rk e) (I.ok.pO b o e),I.base.free b o (I.ok.bs b o e).1 (I.ok.bs b o e).2 (I.ok.pO b o e)⟩
theorem Inv.bk(I:Inv X pins σ H s):∀b o,X.base.get? b=some o→s.heap.get? b=some o:=fun b o e=>(I.bs b o e).1
theorem Inv.mod(I:Inv X pins σ H s):Mod X.K X.mg X.base:=I.ok.mod
theorem Inv.gT(I:Inv X pins σ H s):X.K.In s.heap:=I.ok.mod.EC.keeps I.bk
theorem Inv.nolimit(I:Inv X pins σ H s):s.heap.NoLimit:=I.ok.mod.nolimit.keeps I.bk
theorem Inv.lt(I:Inv X pins σ H s):X.env.locals<s.heap.objs.size:=let ⟨_,hn,_⟩:=I.loc;hn.lt
theorem Inv.sz(I:Inv X pins σ H s):X.s₀.heap.objs.size≤s.heap.objs.size:=qI I.ok.above (Nat.le_of_lt I.lt)
theorem Inv.Ri(I:Inv X pins σ H s){a:Addr}(h:s.heap.objs.size≤a):a∉X.fs:=fun hb=>by
 obtain⟨_,o,ho,_⟩:=I.ok.jH.mem hb;exact absurd (jL (cX ho) (qI I.sz h)) (Nat.lt_irrefl _)
theorem Inv.uM(I:Inv X pins σ H s):∀x c,X.env.cells.lookup x=some c→c≠X.env.locals:=fun x c e z=>by
 obtain⟨v,o,ho,hd⟩:=I.cell x c e;obtain⟨m,⟨o',es,ep,mT,Wo,_⟩,_⟩:=I.loc;rw [z,mT]at ho;cases ho;rw [Wo]at hd;cases hd
theorem Inv.jH(I:Inv X pins σ H s):s.heap.FunFrames X.base X.outer:=by
 have all:∀(l:List Env),(∀b∈dY l,b∈X.fs)→X.s₀.heap.FunFrames X.base l→s.heap.FunFrames X.base l:=by
  intro l
  induction l with
  | nil=>intro _ _;trivial
  | cons env r ih =>
   intro hs hl;obtain⟨hk,⟨L,o,hf,hn,ho,hd⟩,hr⟩:=hl;have hL:L∈X.fs:=hs L (by unfold dY;rw [List.filterMap_cons,hf];exact List.mem_cons_self);obtain⟨sl,e⟩:=I.base.slot L o ho (I.ok.nN L hL) hL fun z=>I.ok.rX L z hL;exact⟨hk,⟨L,_,hf,hn,e,hd⟩,ih (fun b hb=>hs b (by unfold dY;rw [List.filterMap_cons,hf];exact List.mem_cons_of_mem _ hb)) hr⟩
 exact all X.outer (fun _ hb=>hb) I.ok.jH
theorem Inv.stack(I:Inv X pins σ H s):s.heap.FunFrames X.base X.stack:=by
 rcases I.ok.mL with e | ⟨e,hf⟩
 ·rw [e];exact I.jH
 ·rw [e];obtain⟨m,hn,_⟩:=I.loc;refine .cons (by rw [I.ok.kind];decide) hf hn ?_ I.jH;exact Heap.get?_none_of_le (qI I.ok.mB I.ok.above)
theorem Inv.yJ(I:Inv X pins σ H s):∀b∈dY X.stack,b∈X.env.locals::X.fs:=fun b hb=>by
 rcases I.ok.mL with e | ⟨e,hf⟩
 ·rw [e]at hb;exact fC _ hb
 ·rw [e]at hb;unfold dY at hb;rw [Ej,hf]at hb;exact hb
theorem Inv.IB(I:Inv X pins σ H s):∀b∈dY X.stack,H b=none:=fun b hb=>by
 rcases gD.mp (I.yJ b hb)with e | hb
 ·rw [e];exact I.free
 ·obtain⟨_,o,ho,_⟩:=I.ok.jH.mem hb;exact I.base.free b o ho (I.ok.nN b hb) fun z=>I.ok.rX b z hb
theorem Inv.step{g':Array GenState}{t':Nat}{d':Drawn}{ch:List Addr}(I:Inv X pins σ H s)
  (jZ:∀b∈ch,(b∈X.ex∨X.s₀.heap.objs.size≤b)∧b≠X.env.locals∧(∀x c,X.env.cells.lookup x=some c→c≠b)∧∀p∈X.pn++pins,p.1≠b)
  (keep:∀b o,b≠X.env.locals→b∉X.fs→b∉ch→s.heap.get? b=some o→H b=none→h'.get? b=some o)
  (slot:∀b o,b≠X.env.locals→b∈X.fs→b∉ch→s.heap.get? b=some o→H b=none→∃sl,h'.get? b=some { o with slots:=sl }) (free:∀b o,b∉ch→s.heap.get? b=some o→H b=none→H' b=none)
  (there:∀b o,b∉ch→s.heap.get? b=some o→∃o',h'.get? b=some o')
  (kM:∀b xs,H b=some (.tup xs)→H' b=some (.tup xs)) (kC:∀b o u,H b=some (.fP o u)→H' b=some (.fP o u)) (kN:∀b ps,H b=some (.pG ps)→∃more,H' b=some (.pG (ps++more)))
  (ns:∀m,s.heap.Ns X.env.locals m→h'.Ns X.env.locals m) (aK:eL X.prog X.w H' h') (hg:AllBare g') :
  Inv X pins σ H' { s with heap:=h',gens:=g',drawn:=d',toks:=t' }:=by
 have XB:∀b o,X.s₀.heap.get? b=some o→b≠X.env.locals:=fun b o e=>fU (jL (cX e) I.ok.above);have rB:∀b o,X.s₀.heap.get? b=some o→b∉X.ex→b∉ch:=fun b o e hx hb=>by
  rcases(jZ b hb).1 with z | z
  ·exact hx z
  ·exact absurd (jL (cX e) z) (Nat.lt_irrefl _)
 have cellK:∀x c,X.env.cells.lookup x=some c→∀v,s.heap.IsCell c v→h'.IsCell c v:=fun x c e v ⟨o,ho,hd⟩=>by
  have yV:c∉ch:=fun z=>(jZ c z).2.2.1 x c e rfl
  by_cases hc:c∈X.fs
  ·obtain⟨sl,q⟩:=slot c o (I.uM x c e) hc yV ho (I.mX x c e);exact⟨_,q,hd⟩
  ·exact⟨o,keep c o (I.uM x c e) hc yV ho (I.mX x c e),hd⟩
 refine⟨I.ok,I.os,hg,⟨fun b o e n hb hx=>?_,fun b o e n hb hx=>?_,fun b o e n hx=>?_,fun b o e hx=>?_,fun b xs e=>kM b xs (I.base.kM b xs e),fun b o xs e=>kC b o xs (I.base.kC b o xs e),fun b ps e=>?_⟩,?_,fun x c e=>?_,?_,fun x c e=>?_,fun p hp=>?_,aK,I.len⟩
 ·exact keep b o (XB b o e) hb (rB b o e hx) (I.base.keep b o e n hb hx) (I.base.free b o e n hx)
 ·obtain⟨sl,e1⟩:=I.base.slot b o e n hb hx;obtain⟨yM,e2⟩:=slot b _ (XB b o e) hb (rB b o e hx) e1 (I.base.free b o e n hx);exact⟨yM,e2⟩
 ·obtain⟨o',e1⟩:=I.base.there b o e hx;exact free b o' (rB b o e hx) e1 (I.base.free b o e n hx)
 ·obtain⟨o',e1⟩:=I.base.there b o e hx;exact there b o' (rB b o e hx) e1
 ·obtain⟨m1,e1⟩:=I.base.kN b ps e;obtain⟨m2,e2⟩:=kN b _ e1;exact⟨m1++m2,by rw [e2,Array.append_assoc]⟩
 ·obtain⟨m,hn,hl⟩:=I.loc;refine⟨m,ns m hn,fun i x v e1 e2 e3=>?_⟩;obtain⟨u,r,l⟩:=hl i x v e1 e2 e3;refine⟨u,r,?_⟩
  rcases l with l | ⟨k,c,e,z⟩
  ·exact .inl l
  ·exact .inr ⟨k,c,e,cellK x c e _ z⟩
 ·obtain⟨v,z⟩:=I.cell x c e;exact⟨v,cellK x c e v z⟩
 ·obtain⟨m,⟨o,_,_,ho,_⟩,_⟩:=I.loc;exact free _ o (fun z=>(jZ _ z).2.1 rfl) ho I.free
 ·obtain⟨v,o,ho,hd⟩:=I.cell x c e;exact free c o (fun z=>(jZ c z).2.2.1 x c e rfl) ho (I.mX x c e)
 ·obtain⟨e,n,ne,nf,d⟩:=I.pin p hp;have yV:p.1∉ch:=fun z=>(jZ p.1 z).2.2.2 p hp rfl;exact⟨keep p.1 p.2 ne nf yV e n,free p.1 p.2 yV e n,ne,nf,d⟩
theorem Inv.un{t':Nat}(I:Inv X pins σ H s)(u:Un X.fs [] H H' s.heap h')(aK:eL X.prog X.w H' h'):Inv X pins σ H' { s with heap:=h',toks:=t' }:=by
 obtain⟨m,⟨o,es,ep,ho,r⟩,_⟩:=id I.loc;obtain⟨sl,hL⟩:=u.any ho I.free (by simp);exact I.step (g':=s.gens) (d':=s.drawn) (ch:=[]) (fun _ z=>nomatch z) (fun b o _ hb _ e n=>u.keep b o e n hb (by simp)) (fun b o _ hb _ e n=>u.slot b o e n hb (by simp)) (fun b o _ e n=>u.free b o e n (by simp)) (fun b o _ e=>u.there b o e (by simp)) u.kM u.kC u.kN (fun m' hm=>by
  obtain⟨o',iJ,wM,mT,r'⟩:=hm;rw [ho]at mT;cases mT;exact⟨_,iJ,wM,hL,r'⟩) aK I.bare
theorem Inv.call{g':Array GenState}{t':Nat}{d':Drawn}{ch:List Addr}(I:Inv X pins σ H s)(u:Un (dY X.stack) ch H H' s.heap h')(aK:eL X.prog X.w H' h')(hg:AllBare g')
  (jZ:∀b∈ch,(b∈X.ex∨X.s₀.heap.objs.size≤b)∧b≠X.env.locals∧(∀x c,X.env.cells.lookup x=some c→c≠b)∧∀p∈X.pn++pins,p.1≠b) :
  Inv X pins σ H' { s with heap:=h',gens:=g',drawn:=d',toks:=t' }:=by
 obtain⟨m,⟨o,es,ep,ho,r⟩,_⟩:=id I.loc;obtain⟨sl,hL⟩:=u.any ho I.free fun z=>(jZ _ z).2.1 rfl;exact I.step (ch:=ch) jZ (fun b o hL hb hc e n=>u.keep b o e n (fun z=>(gD.mp (I.yJ b z)).elim hL hb) hc) (fun b o _ _ hc e n=>u.any e n hc) (fun b o hc e n=>u.free b o e n hc) (fun b o hc e=>u.there b o e hc) u.kM u.kC u.kN (fun m' hm=>by
  obtain⟨o',iJ,wM,mT,r'⟩:=hm;rw [ho]at mT;cases mT;exact⟨_,iJ,wM,hL,r'⟩) aK hg
theorem Inv.turned{t':Nat}{it:Addr}(I:Inv X pins σ H s)(k:∀b o,b≠it→s.heap.get? b=some o→h'.get? b=some o)(hn:H it=none)(hL:it≠X.env.locals)
  (h1:it∈X.ex∨X.s₀.heap.objs.size≤it) (h2:∀x c,X.env.cells.lookup x=some c→c≠it) (h3:∀p∈X.pn++pins,p.1≠it):Inv X pins σ H { s with heap:=h',toks:=t' }:=by
 have WZ:∀b u,H b=some u→b≠it:=fun b u e z=>by rw [z,hn]at e;cases e
 refine I.step (g':=s.gens) (d':=s.drawn) (ch:=[it]) (fun b hb=>?_) (fun b o _ _ hc e _=>k b o (fun z=>hc (by simp [z])) e) (fun b o _ _ hc e _=>⟨o.slots,k b o (fun z=>hc (by simp [z])) e⟩) (fun _ _ _ _ n=>n)
  (fun b o hc e=>⟨o,k b o (fun z=>hc (by simp [z])) e⟩) (fun _ _ e=>e) (fun _ _ _ e=>e) (fun b ps e=>⟨#[],by rw [e];simp⟩) (fun m hm=>?_) (fun b u e=>?_) I.bare
 ·have e:b=it:=by simpa using hb
  subst e;exact⟨h1,hL,h2,h3⟩
 ·obtain⟨o,es,ep,ho,r⟩:=hm;exact⟨o,es,ep,k _ o (fT hL) ho,r⟩
 ·refine(I.aK b u e).sY (fun c v hc q=>k c v ?_ q) (fun _ q=>q) fun _ _ q=>q
  rcases hc with z | z
  ·rw [z];exact WZ b u e
  ·exact WZ c _ z
theorem Inv.tok(I:Inv X pins σ H s)(t:Nat):Inv X pins σ H { s with toks:=t }:=I.un (h':=s.heap) (t':=t) Un.refl I.aK
theorem Inv.kept{t':Nat}(I:Inv X pins σ H s)(k:∀b u,s.heap.get? b=some u→h'.get? b=some u):Inv X pins σ H { s with heap:=h',toks:=t' }:=I.un (Un.kept k) (I.aK.kept k)
theorem Inv.laid{a:Addr}{o:HO}{t':Nat}(I:Inv X pins σ H s)(k:∀b u,s.heap.get? b=some u→h'.get? b=some u)(hp:s.heap.objs.size≤a)(new:fS X.prog X.w (upd H a o) h' a o) :
  Inv X pins σ (upd H a o) { s with heap:=h',toks:=t' }:=I.un (Un.laid k hp (I.aK.fresh hp)) (I.aK.laid k hp new)
theorem Inv.write{x e:Addr}{o:HO}{t':Nat}(I:Inv X pins σ H s)(mu:GH (H x))(he:e=x∨H e=some (.own x))(k:∀b u,b≠e→s.heap.get? b=some u→h'.get? b=some u)(wF:∃u,h'.get? e=some u)
  (new:fS X.prog X.w (upd H x o) h' x o):Inv X pins σ (upd H x o) { s with heap:=h',toks:=t' }:=I.un (Un.write mu he k wF) (I.aK.write mu he k wF new)
theorem Inv.JK{WN:List (Addr×Obj)}(I:Inv X pins σ H s)(h:∀p∈WN,s.heap.get? p.1=some p.2∧H p.1=none∧p.1≠X.env.locals∧p.1∉X.fs∧∀v,p.2.data ≠ .cell v):Inv X WN σ H s :=
 ⟨I.ok,I.os,I.bare,I.base,I.loc,I.cell,I.free,I.mX,fun p hp=>(eK.mp hp).elim (fun z=>I.pin p (jM _ z)) (h p),I.aK,I.len⟩
theorem WY{N:List Str}(hN:N.Nodup){i j:Nat}{x:Str}(a:N[i]? = some x)(b:N[j]? = some x):i=j:=by
 obtain⟨h1,e1⟩:=eA.mp a;obtain⟨h2,e2⟩:=eA.mp b;exact(List.getElem_inj hN).mp (e1.trans e2.symm)
theorem Lr{M:Model}{A:Around}{E:Value→Shared→Prop}{i:Nat}{x:Str}{v:V}{u:Value}{Q:Unit→Shared→Prop}(I:Inv X pins σ H s)(hN:X.N.Nodup)(hi:X.N[i]? = some x)(hx:Loc X.env.scope x)(r:RelV v u)
  (h:∀s',Inv X pins (σ.set i (some v)) H s'→(∃a,Heap.SameBut a s.heap s'.heap∧(a=X.env.locals∨X.env.cells.lookup x=some a))→Q () s') (hf:X.fn x=true∨X.env.scope.names.lookup x=some .local:=by first | exact .inl rfl | exact .inr rfl | assumption):wpAny M A (storeName X.env x u) Q E s:=by
 obtain⟨m,hn,hl⟩:=id I.loc;have Ws:(X.env.scope.kind == .class||(X.env.scope.kind == .module&&X.env.locals != X.env.globals))=false:=by rw [I.ok.kind];rfl
 have ZA:i<σ.length:=by rw [I.len];exact(eA.mp hi).1
 have uM:=I.uM;have tracked:∀{a:Addr} {h':Heap},(∃o,s.heap.get? a=some o∧H a=none)→Heap.SameBut a s.heap h'→eL X.prog X.w H h':=fun{a h'} ha hs b ob e=>by
  obtain⟨_,_,zT⟩:=ha;refine(I.aK b ob e).sY (fun c w' hc q=>(hs.2 c ?_).trans q) (fun _ q=>q) fun _ _ q=>q;rintro rfl
  rcases hc with rfl | hc
  ·rw [zT]at e;cases e
  ·rw [zT]at hc;cases hc
 rcases hx with hk | hk
 ·refine wpAny_storeName_local hk hn (fun h' Vq hs=>?_) Ws;obtain⟨oL,_,_,EH,_⟩:=id hn;refine h _ ⟨I.ok,I.os,I.bare,⟨fun b o e n hb hx=>?_,fun b o e n hb hx=>?_,I.base.free,fun b o e hx=>?_,I.base.kM,I.base.kC,I.base.kN⟩,⟨_,Vq,fun j y v' e1 e2 e3=>?_⟩,fun y c e=>?_,I.free,I.mX,fun p hp=>?_,tracked ⟨oL,EH,I.free⟩ hs,by simpa using I.len⟩ ⟨_,hs,.inl rfl⟩
  ·exact(hs.2 b (fU (jL (cX e) I.ok.above))).trans (I.base.keep b o e n hb hx)
  ·obtain⟨sl,e1⟩:=I.base.slot b o e n hb hx;exact⟨sl,(hs.2 b (fU (jL (cX e) I.ok.above))).trans e1⟩
  ·obtain⟨o',e1⟩:=I.base.there b o e hx;exact⟨o',(hs.2 b (fU (jL (cX e) I.ok.above))).trans e1⟩
  ·by_cases hj:j=i
   ·subst hj;rw [hi]at e1;cases e1;rw [nQ ZA]at e2;cases e2;exact⟨u,r,.inl ⟨hk,by simp⟩⟩
   ·rw [pA (fT hj)]at e2;obtain⟨u',r',q⟩:=hl j y v' e1 e2 e3;refine⟨u',r',?_⟩
    rcases q with⟨k,e⟩ | ⟨k,c,e,z⟩
    ·refine .inl ⟨k,?_⟩;have:y≠x:=fun e=>hj (WY hN e1 (e ▸ hi));simp [this,e]
    ·exact .inr ⟨k,c,e,z.sameBut hs (uM y c e)⟩
  ·obtain⟨w',z⟩:=I.cell y c e;exact⟨w',z.sameBut hs (uM y c e)⟩
  ·obtain⟨e,n,ne,nf,d⟩:=I.pin p hp;exact⟨(hs.2 p.1 ne).trans e,n,ne,nf,d⟩
 ·have NH:X.fn x=true:=by
   rcases hf with z | z
   ·exact z
   ·rw [z]at hk;cases hk
  obtain⟨c,hc⟩:=I.ok.has x (.inl hk);obtain⟨w',z⟩:=I.cell x c hc;refine wpAny_storeName_cell I.ok.kind hk hc z (fun h' rO hs=>?_);obtain⟨oc,YU,Vk⟩:=id z;refine h { s with heap:=h' } ⟨I.ok,I.os,I.bare,⟨fun b o e n hb hx=>?_,fun b o e n hb hx=>?_,I.base.free,fun b o e hx=>?_,I.base.kM,I.base.kC,I.base.kN⟩,⟨m,hn.sameBut hs (fT (uM x c hc)),fun j y v' e1 e2 e3=>?_⟩,fun y c' e=>?_,I.free,I.mX,fun p hp=>?_,tracked ⟨oc,YU,I.mX x c hc⟩ hs,by simpa using I.len⟩ ⟨c,hs,.inr hc⟩
  ·exact(hs.2 b (fU (jL (cX e) (I.ok.uN x c NH hc)))).trans (I.base.keep b o e n hb hx)
  ·obtain⟨sl,e1⟩:=I.base.slot b o e n hb hx;exact⟨sl,(hs.2 b (fU (jL (cX e) (I.ok.uN x c NH hc)))).trans e1⟩
  ·obtain⟨o',e1⟩:=I.base.there b o e hx;exact⟨o',(hs.2 b (fU (jL (cX e) (I.ok.uN x c NH hc)))).trans e1⟩
  ·by_cases hj:j=i
   ·subst hj;rw [hi]at e1;cases e1;rw [nQ ZA]at e2;cases e2;exact⟨u,r,.inr ⟨.inl hk,c,hc,rO⟩⟩
   ·rw [pA (fT hj)]at e2;obtain⟨u',r',q⟩:=hl j y v' e1 e2 e3;refine⟨u',r',?_⟩
    rcases q with q | ⟨k,c',e,z'⟩
    ·exact .inl q
    ·refine .inr ⟨k,c',e,z'.sameBut hs ?_⟩;rintro rfl;exact hj (WY hN e1 (I.ok.inj _ _ _ e hc ▸ hi))
  ·by_cases ZO:c'=c
   ·subst ZO;exact⟨_,rO⟩
   ·obtain⟨w2,z2⟩:=I.cell y c' e;exact⟨w2,z2.sameBut hs ZO⟩
  ·obtain⟨e,n,ne,nf,d⟩:=I.pin p hp;refine⟨(hs.2 p.1 ?_).trans e,n,ne,nf,d⟩;intro q;rw [q,YU]at e;have q':oc=p.2:=iL e;exact d w' (by rw [← q'];exact Vk)
theorem US{M:Model}{A:Around}{E:Value→Shared→Prop}{i:Nat}{x:Str}{v:V}{u:Value}{Q:Unit→Shared→Prop}(I:Inv X pins σ H s)(hN:X.N.Nodup)(hi:X.N[i]? = some x)(hx:Loc X.env.scope x)(r:RelV v u)
  (h:∀s',Inv X pins (σ.set i (some v)) H s'→Q () s') (hf:X.fn x=true∨X.env.scope.names.lookup x=some .local:=by first | exact .inl rfl | exact .inr rfl | assumption):wpAny M A (storeName X.env x u) Q E s :=
 Lr I hN hi hx r (fun s' I' _=>h s' I') hf
theorem Inv.PX{s':Shared}{ch:List Addr}(I:Inv X pins σ H s)(ho:s'.os=s.os)(u:Un (dY X.stack) ch H H' s.heap s'.heap)(aK:eL X.prog X.w H' s'.heap)(hg:AllBare s'.gens)
  (jZ:∀b∈ch,(b∈X.ex∨X.s₀.heap.objs.size≤b)∧b≠X.env.locals∧(∀x c,X.env.cells.lookup x=some c→c≠b)∧∀p∈X.pn++pins,p.1≠b):Inv X pins σ H' s':=by
 obtain⟨h',g',d',t',o'⟩:=s';have e:o'=s.os:=ho;subst e;exact I.call (g':=g') (t':=t') (d':=d') u aK hg jZ
end
abbrev XK:=Value→Option Addr→Hp→Prop
abbrev St:=List (Option V)
abbrev VK:=V→Hp→Prop
abbrev TE:=St→Hp→VK→Prop
abbrev TT:=St→Hp→(Bool→Hp→Prop)→Prop
abbrev TA:=St→Hp→(List V→Hp→Prop)→Prop
structure Ends where
 nx:St→Hp→Prop
 rt:VK
 bk:St→Hp→Prop:=fun _ _=>False
 ct:St→Hp→Prop:=fun _ _=>False
abbrev TS:=Ends→St→Hp→Prop
def EP(X:Cx)(pins:List (Addr×Obj))(σ:St)(Q:VK)(u:Value)(s':Shared):Prop:=∃v H',Inv X pins σ H' s'∧RelV v u∧Q v H'
def TP(X:Cx)(pins:List (Addr×Obj))(σ:St)(Q:Bool→Hp→Prop)(b:Bool)(s':Shared):Prop:=∃H',Inv X pins σ H' s'∧Q b H'
def AP(X:Cx)(pins:List (Addr×Obj))(σ:St)(Q:List V→Hp→Prop)(us:List Value)(s':Shared):Prop:=∃vs H',Inv X pins σ H' s'∧Vals vs us∧Q vs H'
def SP(X:Cx)(pins:List (Addr×Obj))(D:Ends)(f:Flow)(s':Shared):Prop :=
 match f with
 | .next=>∃σ' H',Inv X pins σ' H' s'∧D.nx σ' H'
 | .brk=>∃σ' H',Inv X pins σ' H' s'∧D.bk σ' H'
 | .cont=>∃σ' H',Inv X pins σ' H' s'∧D.ct σ' H'
 | .ret u=>∃v σ' H',Inv X pins σ' H' s'∧RelV v u∧D.rt v H'
def PE(X:Cx)(e:Expr)(t:TE):Prop :=
 ∀(pins:List (Addr×Obj)) (s:Shared) (σ:St) (H:Hp) (Q:VK),Inv X pins σ H s→t σ H Q→wpAny (model X.prog X.w) X.A (eval e X.env) (EP X pins σ Q) X.xe s
def PT(X:Cx)(e:Expr)(t:TT):Prop :=
 ∀(pins:List (Addr×Obj)) (s:Shared) (σ:St) (H:Hp) (Q:Bool→Hp→Prop),Inv X pins σ H s→t σ H Q→wpAny (model X.prog X.w) X.A (isTrue e X.env (eval e X.env)) (TP X pins σ Q) X.xe s
def PW(X:Cx)(e:Expr)(t:TT):Prop :=
 ∀(whole:Sem Value) (pins:List (Addr×Obj)) (s:Shared) (σ:St) (H:Hp) (Q:Bool→Hp→Prop),Inv X pins σ H s→t σ H Q→wpAny (model X.prog X.w) X.A (isTrue e X.env whole) (TP X pins σ Q) X.xe s
theorem PW.pt{X:Cx}{e:Expr}{t:TT}(h:PW X e t):PT X e t:=h _
def PA(X:Cx)(es:List Expr)(t:TA):Prop :=
 ∀(pos:Pos) (pins:List (Addr×Obj)) (s:Shared) (σ:St) (H:Hp) (Q:List V→Hp→Prop),Inv X pins σ H s→t σ H Q→wpAny (model X.prog X.w) X.A (spliced (backTo pos (starEach es X.env))) (AP X pins σ Q) X.xe s
def PS(X:Cx)(st:Stmt)(t:TS):Prop :=
 ∀(pins:List (Addr×Obj)) (s:Shared) (σ:St) (H:Hp) (D:Ends),Inv X pins σ H s→t D σ H→wpAny (model X.prog X.w) X.A (exec st X.env) (SP X pins D) X.xe s
def gL(X:Cx)(st:List Stmt)(t:TS):Prop :=
 ∀(pins:List (Addr×Obj)) (s:Shared) (σ:St) (H:Hp) (D:Ends),Inv X pins σ H s→t D σ H→wpAny (model X.prog X.w) X.A (execs st X.env) (SP X pins D) X.xe s
theorem bE{α:Type}{t:Sem α}{Q Q':α→Shared→Prop}{M:Model}{A:Around}{E:Value→Shared→Prop}{s:Shared}(h:wpAny M A t Q E s)(hQ:∀a s,Q a s→Q' a s):wpAny M A t Q' E s:=lH h hQ fun _ _ x=>x
section
variable{X:Cx}
theorem bin{a b:Expr}{ta tb:TE}(ha:PE X a ta)(hb:PE X b tb){pins:List (Addr×Obj)}{s:Shared}{σ:St}{H:Hp}{R:V→V→Hp→Prop}(I:Inv X pins σ H s)(h:ta σ H fun x H1=>tb σ H1 fun y H2=>R x y H2)
  {α:Type} {Q:α→Shared→Prop} {f:Value→Value→Sem α}
  (hf:∀v u s2 x y H2,Inv X pins σ H2 s2→RelV x v→RelV y u→R x y H2→wpAny (model X.prog X.w) X.A (f v u) Q X.xe s2) :
  wpAny (model X.prog X.w) X.A (eval a X.env) (fun v s₁=>wpAny (model X.prog X.w) X.A (eval b X.env) (fun u s₂=>wpAny (model X.prog X.w) X.A (f v u) Q X.xe s₂) X.xe s₁) X.xe s:=by
 refine bE (ha pins s σ H _ I h) fun v s1 ⟨x,H1,I1,r1,q1⟩=>?_;refine bE (hb pins s1 σ H1 _ I1 q1) fun u s2 ⟨y,H2,I2,r2,q2⟩=>?_;exact hf v u s2 x y H2 I2 r1 r2 q2
def HX(i:Nat):TE:=fun σ H Q=>∃v,σ[i]? = some (some v)∧Q v H
def tC(v:V):TE:=fun _ H Q=>Q v H
theorem WO{i:Nat}{x:Str}{pos:Pos}(hN:X.N[i]? = some x)(hv:FZ X.env.scope x)(hd:(x == ("__debug__" : Str))=false:=by decide)(gW:(x == ("__classdict__" : Str))=false:=by decide):PE X (.Name x pos) (HX i):=by
 intro pins s σ H Q I h;obtain⟨v,e,h⟩:=h;obtain⟨m,hn,hl⟩:=I.loc;obtain⟨u,r,l⟩:=hl i x v hN e hv;have fin:EP X pins σ Q u s:=⟨v,H,I,r,h⟩
 rcases l with⟨hk,hm⟩ | ⟨hk,c,hc,tY⟩
 ·exact wpAny_Name (wpAny_loadName_local I.ok.kind hk hn hm fin) hd
 ·rcases hk with hk | hk
  ·exact wpAny_Name (wpAny_loadName_cell I.ok.kind hk hc tY fin) hd
  ·exact wpAny_Name (wpAny_loadName_free I.ok.kind hk hc tY fin gW) hd
theorem Pp{i j pos}:PE X (.Constant (.int i) j pos) (tC (.int i)):=fun _ _ _ H _ I h=>wpAny_Constant_int ⟨.int i,H,I.tok _,⟨_,rfl⟩,h⟩
theorem Qb{b j pos}:PE X (.Constant (.bool b) j pos) (tC (.bl b)):=fun _ _ _ H _ I h=>Constant_bool ⟨.bl b,H,I,rfl,h⟩
def Gl(X:Cx)(x:Str):Prop:=X.env.kindOf x=some .globalImplicit
theorem YC{E:Value→Shared→Prop}{pins:List (Addr×Obj)}{s:Shared}{σ:St}{H:Hp}{x:Str}{u:Value}{pos:Pos}{Q:Value→Shared→Prop}(I:Inv X pins σ H s)(hg:Gl X x)(hm:X.mg x=some u)(h:Q u s)
  (hd:(x == ("__debug__" : Str))=false:=by decide):wpAny (model X.prog X.w) X.A (eval (.Name x pos) X.env) Q E s :=
 Calls.Name_function_global I.ok.kind hg (Calls.loadGlobal_global (by rw [I.ok.glob];exact I.mod.glob.keeps I.bk) hm h) hd
theorem zG{E:Value→Shared→Prop}{pins:List (Addr×Obj)}{s:Shared}{σ:St}{H:Hp}{x:Str}{u:Value}{pos:Pos}{Q:Value→Shared→Prop}(I:Inv X pins σ H s)(hg:Gl X x)(hm:X.mg x=none)(hv:bootBuiltins x=some u)(h:Q u s)
  (hn:x ≠ "__name__":=by decide) (hd:(x == ("__debug__" : Str))=false:=by decide):wpAny (model X.prog X.w) X.A (eval (.Name x pos) X.env) Q E s:=by
 obtain⟨mb,h1,h2⟩:=I.mod.blt;exact Calls.Name_function_global I.ok.kind hg (Calls.loadGlobal_builtin (by rw [I.ok.glob];exact I.mod.glob.keeps I.bk) hm (by rw [I.ok.blt];exact h1.keeps I.bk) ((h2 x hn).trans hv) h) hd
theorem Qa{x:Str}{v:V}{u:Value}{pos:Pos}(hg:Gl X x)(hm:X.mg x=none)(hv:bootBuiltins x=some u)(r:RelV v u)(hn:x ≠ "__name__":=by decide)(hd:(x == ("__debug__" : Str))=false:=by decide):PE X (.Name x pos) (tC v) :=
 fun _ _ _ H _ I h=>zG I hg hm hv ⟨v,H,I,r,h⟩ hn hd
variable{a b:Expr}{ta tb:TE}{pos:Pos}
def tB(t:TE):TT:=fun σ H Q=>t σ H fun x H1=>∃c,x = .bl c∧Q c H1
theorem Nx{e:Expr}{t:TE}(h:PE X e t)(he:∀whole,isTrue e X.env whole=(do let v ← whole;standAt e.pos;holding [v] (truthy v)):=by intro _;rfl):PT X e (tB t):=by
 intro pins s σ H Q I hw;refine isTrue_plain (bE (h pins s σ H _ I hw) fun v s1 ⟨x,H1,I1,r1,q1⟩=>?_) (he _);obtain⟨d,rfl,q⟩:=q1;cases r1;exact HB ⟨H1,I1,q⟩
variable{tA CM:TT}{rest:List Expr}
def Ip(t u:TT):TT:=fun σ H Q=>t σ H fun c H1=>if c=true then u σ H1 Q else Q false H1
def Hz(t u:TT):TT:=fun σ H Q=>t σ H fun c H1=>if c=true then Q true H1 else u σ H1 Q
def Ib(t:TT):TT:=fun σ H Q=>t σ H fun c H1=>Q (!c) H1
theorem pw_and1(ha:PT X a tA):PW X (.BoolOp .And [a] pos) tA:=by
 intro wh pins s σ H Q I h;refine isTrue_and (bE (ha pins s σ H Q I h) fun c s1 e=>?_);cases c with
 | true=>exact isTrue_and_nil e
 | false=>exact e
theorem pw_or1(ha:PT X a tA):PW X (.BoolOp .Or [a] pos) tA:=by
 intro wh pins s σ H Q I h;refine isTrue_or (bE (ha pins s σ H Q I h) fun c s1 e=>?_);cases c with
 | false=>exact isTrue_or_nil e
 | true=>exact e
theorem pw_and(ha:PT X a tA)(hb:PW X (.BoolOp .And (b::rest) pos) CM):PW X (.BoolOp .And (a::b::rest) pos) (Ip tA CM):=by
 intro wh pins s σ H Q I h;refine isTrue_and (bE (ha pins s σ H _ I h) fun c s1 ⟨H1,I1,q1⟩=>?_);cases c with
 | true=>exact hb wh pins s1 σ H1 Q I1 q1
 | false=>exact⟨H1,I1,q1⟩
theorem pw_or(ha:PT X a tA)(hb:PW X (.BoolOp .Or (b::rest) pos) CM):PW X (.BoolOp .Or (a::b::rest) pos) (Hz tA CM):=by
 intro wh pins s σ H Q I h;refine isTrue_or (bE (ha pins s σ H _ I h) fun c s1 ⟨H1,I1,q1⟩=>?_);cases c with
 | true=>exact⟨H1,I1,q1⟩
 | false=>exact hb wh pins s1 σ H1 Q I1 q1
theorem Ny(ha:PT X a tA):PT X (.UnaryOp .Not a pos) (Ib tA):=by
 intro pins s σ H Q I h;exact isTrue_not (ha pins s σ H (fun c H1=>Q (!c) H1) I h)
def Io(ta tb:TE):TE:=fun σ H Q=>ta σ H fun x H1=>∃c,x = .bl c∧if c=true then tb σ H1 Q else Q (.bl false) H1
def Hy(ta tb:TE):TE:=fun σ H Q=>ta σ H fun x H1=>∃c,x = .bl c∧if c=true then Q (.bl true) H1 else tb σ H1 Q
theorem Pk{op}{t:TE}(h:PE X a t):PE X (.BoolOp op [a] pos) t:=fun pins s σ H Q I hw=>BoolOp_one (h pins s σ H Q I hw)
theorem Qc(ha:PE X a ta)(hb:PE X (.BoolOp .And (b::rest) pos) tb):PE X (.BoolOp .And (a::b::rest) pos) (Io ta tb):=by
 intro pins s σ H Q I h;refine BoolOp_and (bE (ha pins s σ H _ I h) fun v s1 ⟨x,H1,I1,r1,q1⟩=>?_);obtain⟨c,rfl,q1⟩:=q1;cases r1;refine HB ?_;cases c with
 | true=>exact hb pins s1 σ H1 Q I1 q1
 | false=>exact⟨.bl false,H1,I1,rfl,q1⟩
theorem Ph(ha:PE X a ta)(hb:PE X (.BoolOp .Or (b::rest) pos) tb):PE X (.BoolOp .Or (a::b::rest) pos) (Hy ta tb):=by
 intro pins s σ H Q I h;refine BoolOp_or (bE (ha pins s σ H _ I h) fun v s1 ⟨x,H1,I1,r1,q1⟩=>?_);obtain⟨c,rfl,q1⟩:=q1;cases r1;refine HB ?_;cases c with
 | false=>exact hb pins s1 σ H1 Q I1 q1
 | true=>exact⟨.bl true,H1,I1,rfl,q1⟩
def Ii(t:TT)(ta tb:TE):TE:=fun σ H Q=>t σ H fun c H1=>if c=true then ta σ H1 Q else tb σ H1 Q
theorem Pq{c:Expr}(hc:PT X c tA)(ha:PE X a ta)(hb:PE X b tb):PE X (.IfExp c a b pos) (Ii tA ta tb):=by
 intro pins s σ H Q I h;refine wpAny_IfExp (bE (hc pins s σ H _ I h) fun d s1 ⟨H1,I1,q1⟩=>?_);cases d with
 | true=>exact ha pins s1 σ H1 Q I1 q1
 | false=>exact hb pins s1 σ H1 Q I1 q1
end
def dO(K:Frag)(H:Hp)(a:Addr)(xs:List V):Prop :=
 Rd H a (.lst xs) ∨
  ∃(o:Obj) (aI:Array Value) (n:Nat),K.lookup a=some o∧o.cls = .type "list"∧o.dict=none∧o.data = .seq aI n∧aI.size≤sizeLine∧Vals xs aI.toList
def dF(K:Frag)(H:Hp)(a:Addr)(xs:List V):Prop :=
 Rd H a (.tup xs) ∨
  ∃(o:Obj) (aI:Array Value) (n:Nat),K.lookup a=some o∧o.cls = .type "tuple"∧o.data = .seq aI n∧aI.size≤sizeLine∧Vals xs aI.toList
def abM:Value→Option V
 | .none=>some .bS
 | .bool b=>some (.bl b)
 | .int i _=>some (.int i)
 | .str x _=>some (.str x)
 | .bytes b _=>some (.QA b)
 | .float b _=>some (.wJ b)
 | .ref a=>some (.ref a)
 | .type n=>some (.ty n)
 | _=>none
theorem RelV.abs{x:V}{u:Value}(r:RelV x u):abM u=some x:=by
 cases x with
 | bS=>cases r;rfl
 | bl _=>cases r;rfl
 | int _=>obtain⟨t,rfl⟩:=r;rfl
 | str _=>obtain⟨t,rfl⟩:=r;rfl
 | QA _=>obtain⟨t,rfl⟩:=r;rfl
 | wJ _=>obtain⟨t,rfl⟩:=r;rfl
 | ref _=>cases r;rfl
 | ty _=>cases r;rfl
theorem RelV.inj{x y:V}{u:Value}(r:RelV x u)(q:RelV y u):x=y:=iL (r.abs.symm.trans q.abs)
theorem Vals.inj:∀{xs ys:List V} {us:List Value},Vals xs us→Vals ys us→xs=ys
 | _,_,_,.nil,.nil=>rfl
 | _,_,_,.cons r t,.cons r' t'=>by rw [r.inj r',Vals.inj t t']
section
variable{X:Cx}{pins:List (Addr×Obj)}{σ:St}{H:Hp}{s:Shared}{a:Addr}{xs ys:List V}
theorem dO.of{K:Frag}(h:H a=some (.lst xs)):dO K H a xs := .inl (.inl h)
theorem dF.of{K:Frag}(h:H a=some (.tup xs)):dF K H a xs := .inl (.inl h)
theorem Inv.list(I:Inv X pins σ H s)(h:dO X.K H a xs):∃aI:List Value,Vals xs aI∧PlainL s.heap a aI.toArray∧xs.length≤sizeLine:=by
 rcases h with h | ⟨o,aI,n,hk,hc,hd,hs,hz,r⟩
 ·obtain⟨z,aI,n,r,e⟩:=h.ok I.aK;exact⟨aI,r,⟨_,n,e,rfl,rfl,rfl⟩,z⟩
 ·refine⟨aI.toList,r,⟨o,n,I.gT a o hk,hc,hd,by simpa using hs⟩,?_⟩;have e:=r.length;simp only [eE]at e;omega
theorem Inv.tuple(I:Inv X pins σ H s)(h:dF X.K H a xs):∃aI:List Value,Vals xs aI∧IsTup s.heap a aI.toArray∧xs.length≤sizeLine:=by
 rcases h with h | ⟨o,aI,n,hk,hc,hs,hz,r⟩
 ·obtain⟨z,aI,r,p⟩:=h.ok I.aK;exact⟨aI,r,p,z⟩
 ·refine⟨aI.toList,r,⟨o,I.gT a o hk,hc,n,by simpa using hs⟩,?_⟩;have e:=r.length;simp only [eE]at e;omega
theorem Inv.Sx(I:Inv X pins σ H s)(h:dO X.K H a xs)(h':dO X.K H a ys):xs=ys:=by
 obtain⟨aI,r,⟨o,n,e,_,_,d⟩,_⟩:=I.list h;obtain⟨its',r',⟨o',n',e',_,_,d'⟩,_⟩:=I.list h';rw [e]at e';cases e';rw [d]at d';injection d' with d1 _;have:aI=its':=by simpa using congrArg Array.toList d1
 subst this;exact r.inj r'
theorem Inv.He(I:Inv X pins σ H s)(h:dF X.K H a xs)(h':dF X.K H a ys):xs=ys:=by
 obtain⟨aI,r,⟨o,e,_,n,d⟩,_⟩:=I.tuple h;obtain⟨its',r',⟨o',e',_,n',d'⟩,_⟩:=I.tuple h';rw [e]at e';cases e';rw [d]at d';injection d' with d1 _;have:aI=its':=by simpa using congrArg Array.toList d1
 subst this;exact r.inj r'
end
abbrev Cx.jB(X:Cx)(E:Value→Shared→Prop):Cx:={ X with xe:=E }
abbrev Cx.lP(X:Cx):Cx:=X.jB fun _ _=>False
theorem Cx.Ok.jB{X:Cx}(ok:X.Ok)(E:Value→Shared→Prop):(X.jB E).Ok :=
 ⟨ok.mod,ok.kind,ok.glob,ok.blt,ok.above,ok.inj,ok.has,ok.uN,ok.hd,ok.frames,ok.mL,ok.uK,ok.bs,ok.mB,ok.pO,ok.rX,ok.jH,ok.nN⟩
theorem Cx.Ok.lM{X:Cx}{E:Value→Shared→Prop}(ok:(X.jB E).Ok):X.Ok :=
 ⟨ok.mod,ok.kind,ok.glob,ok.blt,ok.above,ok.inj,ok.has,ok.uN,ok.hd,ok.frames,ok.mL,ok.uK,ok.bs,ok.mB,ok.pO,ok.rX,ok.jH,ok.nN⟩
section
variable{X:Cx}{pins:List (Addr×Obj)}{σ:St}{H:Hp}{s:Shared}{E:Value→Shared→Prop}
theorem Inv.jB(I:Inv X pins σ H s)(E:Value→Shared→Prop):Inv (X.jB E) pins σ H s:=⟨I.ok.jB E,I.os,I.bare,I.base,I.loc,I.cell,I.free,I.mX,I.pin,I.aK,I.len⟩
theorem Inv.lM(I:Inv (X.jB E) pins σ H s):Inv X pins σ H s:=⟨I.ok.lM,I.os,I.bare,I.base,I.loc,I.cell,I.free,I.mX,I.pin,I.aK,I.len⟩
theorem SP.lM{D:Ends}{f:Flow}{s':Shared}(h:SP (X.jB E) pins D f s'):SP X pins D f s':=by
 cases f with
 | next=>obtain⟨σ',H',I,q⟩:=h;exact⟨σ',H',I.lM,q⟩
 | brk=>obtain⟨σ',H',I,q⟩:=h;exact⟨σ',H',I.lM,q⟩
 | cont=>obtain⟨σ',H',I,q⟩:=h;exact⟨σ',H',I.lM,q⟩
 | ret u=>obtain⟨v,σ',H',I,r,q⟩:=h;exact⟨v,σ',H',I.lM,r,q⟩
theorem PE.lP{e:Expr}{t:TE}(h:PE X.lP e t):PE X e t:=fun pins s σ H Q I hw =>
 lH (h pins s σ H Q (I.jB _) hw) (fun _ _ ⟨v,H',I',r,q⟩=>⟨v,H',I'.lM,r,q⟩) fun _ _ z=>False.elim z
theorem PT.lP{e:Expr}{t:TT}(h:PT X.lP e t):PT X e t:=fun pins s σ H Q I hw =>
 lH (h pins s σ H Q (I.jB _) hw) (fun _ _ ⟨H',I',q⟩=>⟨H',I'.lM,q⟩) fun _ _ z=>False.elim z
theorem gL.lP{st:List Stmt}{t:TS}(h:gL X.lP st t):gL X st t:=fun pins s σ H D I hw =>
 lH (h pins s σ H D (I.jB _) hw) (fun _ _ q=>q.lM) fun _ _ z=>False.elim z
end
section
variable{X:Cx}{st:Stmt}{rest:List Stmt}{t u:TS}{e:Expr}{te:TE}{pos:Pos}
def Ie:TS:=fun D σ H=>D.nx σ H
def UL(t u:TS):TS:=fun D σ H=>t { D with nx:=u D } σ H
theorem Ob:gL X [] Ie:=fun _ _ σ H _ I h=>HC ⟨σ,H,I,h⟩
theorem Oc(h1:PS X st t)(h2:gL X rest u):gL X (st::rest) (UL t u):=by
 intro pins s σ H D I h;refine wpAny_execs_cons (bE (h1 pins s σ H { D with nx:=u D } I h) fun f s1 q=>?_);cases f with
 | next =>
  obtain⟨σ',H',I',q⟩:=q;exact h2 pins s1 σ' H' D I' q
 | ret v=>exact q
 | brk=>exact q
 | cont=>exact q
theorem Oa(h1:PS X st t):gL X [st] t:=by
 intro pins s σ H D I h;refine wpAny_execs_cons (bE (h1 pins s σ H D I h) fun f s1 q=>?_);cases f with
 | next=>exact HC q
 | ret v=>exact q
 | brk=>exact q
 | cont=>exact q
theorem Inv.quiet{pins:List (Addr×Obj)}{σ:St}{H:Hp}{s:Shared}(I:Inv X pins σ H s):interactive X.env=false:=by simp [interactive,I.ok.kind]
def Ij(te:TE):TS:=fun D σ H=>te σ H fun _ H1=>D.nx σ H1
theorem Oi(he:PE X e te)(hs:swapsWith e none pos.line X.env=pure false:=by rfl):PS X (.Expr e pos) (Ij te):=by
 intro pins s σ H D I h;exact wpAny_Expr_any (bE (he pins s σ H _ I h) fun v s1 ⟨x,H1,I1,r1,q1⟩=>⟨σ,H1,I1,q1⟩) I.quiet hs
def Hw(te:TE):TS:=fun D σ H=>te σ H D.rt
theorem Of(he:PE X e te):PS X (.Return (some e) pos) (Hw te):=by
 intro pins s σ H D I h;exact wpAny_Return_some (bE (he pins s σ H _ I h) fun v s1 ⟨x,H1,I1,r1,q1⟩=>⟨x,σ,H1,I1,r1,q1⟩)
def Ih(c:TT)(t u:TS):TS:=fun D σ H=>c σ H fun b H1=>if b=true then t D σ H1 else u D σ H1
theorem Og{c:Expr}{a b:List Stmt}{tc:TT}(hc:PT X c tc)(ha:gL X a t)(hb:gL X b u):PS X (.If c a b pos) (Ih tc t u):=by
 intro pins s σ H D I h;refine wpAny_If (bE (hc pins s σ H _ I h) fun d s1 ⟨H1,I1,q1⟩=>?_);cases d with
 | true=>exact ha pins s1 σ H1 D I1 q1
 | false=>exact hb pins s1 σ H1 D I1 q1
end
abbrev TG:=V→St→Hp→(St→Hp→Prop)→Prop
abbrev sF:=List V→St→Hp→(St→Hp→Prop)→Prop
def PG(X:Cx)(target:Expr)(t:TG):Prop :=
 ∀(pins:List (Addr×Obj)) (s:Shared) (σ:St) (H:Hp) (v:V) (u:Value) (Q:St→Hp→Prop),Inv X pins σ H s→RelV v u→t v σ H Q →
  wpAny (model X.prog X.w) X.A (assign target X.env u) (fun _ s'=>∃σ' H',Inv X pins σ' H' s'∧Q σ' H') X.xe s
def AU(X:Cx)(ts:List Expr)(t:sF):Prop :=
 ∀(pins:List (Addr×Obj)) (s:Shared) (σ:St) (H:Hp) (vs:List V) (us:List Value) (Q:St→Hp→Prop),Inv X pins σ H s→Vals vs us→t vs σ H Q →
  wpAny (model X.prog X.w) X.A (assignInOrder ((assignEach ts X.env).map (·.2)) us) (fun _ s'=>∃σ' H',Inv X pins σ' H' s'∧Q σ' H') X.xe s
abbrev QP:=V→V→V→Hp→(Hp→Prop)→Prop
def Dq(X:Cx)(t:QP):Prop :=
 ∀(pins:List (Addr×Obj)) (s:Shared) (σ:St) (H:Hp) (o i v:V) (ov iv u:Value) (Q:Hp→Prop),Inv X pins σ H s→RelV o ov→RelV i iv→RelV v u→t o i v H Q →
  wpAny (model X.prog X.w) X.A (setItem ov iv u) (fun _ s'=>∃H',Inv X pins σ H' s'∧Q H') X.xe s
section
variable{X:Cx}{pos:Pos}
def Ai(i:Nat):TG:=fun v σ H Q=>Q (σ.set i (some v)) H
theorem Pd{i:Nat}{x:Str}(hN:X.N.Nodup)(hi:X.N[i]? = some x)(hx:Loc X.env.scope x)(hf:X.fn x=true∨X.env.scope.names.lookup x=some .local:=by first | exact .inl rfl | exact .inr rfl | assumption):PG X (.Name x pos) (Ai i):=by
 intro pins s σ H v u Q I r h;exact wpAny_assign_Name (US I hN hi hx r (fun s' I'=>⟨_,H,I',h⟩) hf)
def Yu:sF:=fun vs σ H Q=>vs=[]∧Q σ H
def Yy(t:TG)(u:sF):sF:=fun vs σ H Q=>∃v r,vs=v::r∧t v σ H fun σ' H'=>u r σ' H' Q
theorem Oz:AU X [] Yu:=by
 intro pins s σ H vs us Q I r h;obtain⟨e,h⟩:=h;subst e;cases r;exact assignInOrder_nil ⟨σ,H,I,h⟩
theorem Pa{e:Expr}{es:List Expr}{t:TG}{u:sF}(h1:PG X e t)(h2:AU X es u)
  (hs:(assignEach (e::es) X.env).map (·.2)=assign e X.env::(assignEach es X.env).map (·.2):=by rfl):AU X (e::es) (Yy t u):=by
 intro pins s σ H vs us Q I r h;obtain⟨v,vr,e1,h⟩:=h;subst e1;cases r with
 | cons r rr =>
  rw [hs];refine assignInOrder_cons (bE (h1 pins s σ H _ _ _ I r h) fun _ s1 ⟨σ1,H1,I1,q1⟩=>?_);exact h2 pins s1 σ1 H1 _ _ Q I1 rr q1
def Yt(K:Frag)(n:Nat)(t:sF):TG:=fun v σ H Q=>∃a xs,v = .ref a∧dF K H a xs∧xs.length=n∧t xs σ H Q
theorem Pb{es:List Expr}{k:Nat}{t:sF}{n:Nat}(hc:X.calm=true)(h:AU X es t)
  (hn:(assignEach es X.env).length=n:=by rfl) (tQ:(assignEach es X.env).findIdx? (·.1)=none:=by rfl):PG X (.Tuple es k pos) (Yt X.K n t):=by
 intro pins s σ H v u Q I r hw;obtain⟨a,xs,e1,hq,hl,hw⟩:=hw;subst e1;cases r;obtain⟨aI,rv,ht,hz⟩:=I.tuple hq;refine assign_Tuple_tuple (I.ok.hd hc) ht (by simp [hn,← hl,rv.length]) tQ fun h' hx=>?_;have I1:Inv X pins σ H { s with heap:=h' }:=I.kept (t':=s.toks) fun b o e=>hx b o (fU (cX e)) e;exact h pins _ σ H xs _ Q I1 (by simpa using rv) hw
def jG(to ti:TE)(t:QP):TG:=fun v σ H Q=>to σ H fun o H1=>ti σ H1 fun i H2=>t o i v H2 fun H3=>Q σ H3
theorem Pc{o i:Expr}{to ti:TE}{t:QP}(ho:PE X o to)(hi:PE X i ti)(hs:Dq X t)
  (ha:∀v,assign (.Subscript o i pos) X.env v=(do
   let ov ← holding [v] (eval o X.env)
   let iv ← holding [v,ov] (eval i X.env)
   standAt pos
   holding [v,ov,iv] (setItem ov iv v)
   release [v,ov,iv] []):=by intro _;rfl):PG X (.Subscript o i pos) (jG to ti t):=by
 intro pins s σ H v u Q I r h;rw [ha];refine bI (xV (bE (ho pins s σ H _ I h) fun ov s1 ⟨x,H1,I1,r1,q1⟩=>?_));refine bI (xV (bE (hi pins s1 σ H1 _ I1 q1) fun iv s2 ⟨y,H2,I2,r2,q2⟩=>?_));refine bI (wpAny_standAt (bI (xV (bE (hs pins s2 σ H2 x y v ov iv u _ I2 r1 r2 r q2) fun _ s3 ⟨H3,I3,q3⟩=>?_))));exact wpAny_release ⟨σ,H3,I3,q3⟩
def IA(te:TE)(g:TG):TS:=fun D σ H=>te σ H fun x H1=>g x σ H1 D.nx
theorem Oj{tg e:Expr}{te:TE}{g:TG}(he:PE X e te)(hg:PG X tg g)(hs:swapsWithSole [tg] e pos.line X.env=pure false:=by rfl)(hw:swappedStores [tg] e X.env=pure none:=by rfl)
  (h1:(assignEach [tg] X.env).map (·.2)=[assign tg X.env]:=by rfl):PS X (.Assign [tg] e pos) (IA te g):=by
 intro pins s σ H D I h;refine wpAny_Assign_stores (bE (he pins s σ H _ I h) fun v s1 ⟨x,H1,I1,r1,q1⟩=>?_) hs hw;rw [h1];exact bE (hg pins s1 σ H1 x v _ I1 r1 q1) fun _ s2 q=>q
theorem Oe{i:Nat}{x:Str}{e:Expr}{te:TE}{pos':Pos}(hN:X.N.Nodup)(hi:X.N[i]? = some x)(hx:Loc X.env.scope x)(he:PE X e te)(hs:swapsWith e (some (.Name x pos')) pos.line X.env=pure false:=by rfl)(hf:X.fn x=true∨X.env.scope.names.lookup x=some .local:=by first | exact .inl rfl | exact .inr rfl | assumption) :
  PS X (.Assign [.Name x pos'] e pos) (IA te (Ai i)):=by
 intro pins s σ H D I h;refine wpAny_Assign_Name (bE (he pins s σ H _ I h) fun v s1 ⟨y,H1,I1,r1,q1⟩=>?_) hs;exact US I1 hN hi hx r1 (fun s2 I2=>⟨_,H1,I2,q1⟩) hf
def UJ(c:TT)(tb:TS):TS:=fun D σ H=>∃W:Nat→St→Hp→Prop,(∃m,W m σ H)∧∀m σ H,W m σ H →
 c σ H fun b H1=>if b=true then ∃N:St→Hp→Prop,(∀σ' H',N σ' H'→∃m',m'<m∧W m' σ' H')∧tb { D with nx:=N,ct:=N,bk:=D.nx } σ H1 else D.nx σ H1
theorem Od{c:Expr}{body:List Stmt}{tc:TT}{tb:TS}(hp:PassesOwn (model X.prog X.w) X.A X.env X.xe)(hc:PT X c tc)(hb:gL X body tb):PS X (.While c body [] pos) (UJ tc tb):=by
 intro pins s σ H D I h;obtain⟨W,⟨m0,w0⟩,turn⟩:=h;refine wpAny_While (codeAny_whileLoop (fun n s'=>∃σ' H',Inv X pins σ' H' s'∧W n σ' H') ?_ m0 ⟨σ,H,I,w0⟩);rintro n s1 ⟨σ1,H1,I1,w1⟩;refine vL hp (bE (hc pins s1 σ1 H1 _ I1 (turn n σ1 H1 w1)) fun b s2 ⟨H2,I2,q2⟩=>?_);cases b with
 | true =>
  obtain⟨N,hN,q2⟩:=q2;rw [if_pos rfl];refine vL hp (bE (hb pins s2 σ1 H2 _ I2 q2) fun f s3 q3=>?_);cases f with
  | next =>
   obtain⟨σ3,H3,I3,n3⟩:=q3;obtain⟨m',hm,w3⟩:=hN σ3 H3 n3;exact⟨m',hm,σ3,H3,I3,w3⟩
  | cont =>
   obtain⟨σ3,H3,I3,n3⟩:=q3;obtain⟨m',hm,w3⟩:=hN σ3 H3 n3;exact⟨m',hm,σ3,H3,I3,w3⟩
  | brk=>exact q3
  | ret v=>exact q3
 | false =>
  rw [if_neg Bool.false_ne_true];exact HC ⟨σ1,H2,I2,q2⟩
end
structure It where
 go:Nat→Hp→Prop
 qQ:Nat→Hp→V→Hp→Prop
 stop:Nat→Hp→Prop
def vD(X:Cx)(pins:List (Addr×Obj))(H:Hp)(b:Addr):Prop :=
 H b=none∧b≠X.env.locals∧b∉X.fs∧(b∈X.ex∨X.s₀.heap.objs.size≤b)∧(∀x c,X.env.cells.lookup x=some c→c≠b)∧∀p∈X.pn++pins,p.1≠b
theorem Inv.OU{X:Cx}{pins:List (Addr×Obj)}{σ:St}{H H':Hp}{s:Shared}{b:Addr}(I:Inv X pins σ H s)(hb:s.heap.objs.size≤b)(hn:H' b=none):vD X pins H' b:=by
 refine⟨hn,Nat.ne_of_gt (jL I.lt hb),I.Ri hb,.inr (qI I.sz hb),fun x c e z=>?_,fun p hp z=>?_⟩
 ·obtain⟨v,q⟩:=I.cell x c e;exact absurd (jL q.lt (by rw [z];exact hb)) (Nat.lt_irrefl _)
 ·exact absurd (jL (cX (I.pin p hp).1) (by rw [z];exact hb)) (Nat.lt_irrefl _)
structure Turn(P:Program)(w:World)(K:Frag)(tg:Expr)(J:It)(fp:List Addr)(it:Addr)(tn:Nat→Heap→Prop):Prop where
 mem:it∈fp
 obj:∀i h,tn i h→∀b∈fp,∃o,h.get? b=some o∧∀v,o.data ≠ .cell v
 keep:∀i h h',tn i h→(∀b∈fp,∀o,h.get? b=some o→h'.get? b=some o)→tn i h'
 item:∀(X:Cx),X.prog=P→X.w=w→X.K=K→X.calm=true→∀(i:Nat) (pins:List (Addr×Obj)) (s:Shared) (σ:St) (H:Hp) (E:Value→Shared→Prop),Inv X pins σ H s→(∀b∈fp,vD X pins H b)→tn i s.heap→J.go i H →
  wpAny (model P w) X.A (pyNext (.ref it)) (fun r s1=>∃u,r=some u ∧
   wpAny (model P w) X.A (letOwnedTupleGo tg (.ref it) u) (fun _ s2=>∃x H',Inv X pins σ H' s2∧RelV x u∧J.qQ i H x H'∧tn (i+1) s2.heap∧∀b∈fp,H' b=none) E s1) E s
 done:∀(X:Cx),X.prog=P→X.w=w→X.K=K→X.calm=true→∀(i:Nat) (pins:List (Addr×Obj)) (s:Shared) (σ:St) (H:Hp) (E:Value→Shared→Prop),Inv X pins σ H s→(∀b∈fp,vD X pins H b)→tn i s.heap→J.stop i H →
  wpAny (model P w) X.A (pyNext (.ref it)) (fun r s1=>r=none∧Inv X pins σ H s1) E s
 self:∀(A:Around) (i:Nat) (s:Shared) (Q:Value→Shared→Prop) (E:Value→Shared→Prop),tn i s.heap→Q (.ref it) s→wpAny (model P w) A (pyIter (.ref it)) Q E s
abbrev TI:=St→Hp→(It→Hp→Prop)→Prop
def Ds(X:Cx)(pins:List (Addr×Obj))(σ:St)(tg:Expr)(R:It→Hp→Prop)(MC:Value)(s2:Shared):Prop :=
 ∃(it:Addr) (fp:List Addr) (tn:Nat→Heap→Prop) (J:It) (H':Hp),MC = .ref it∧Inv X pins σ H' s2∧Turn X.prog X.w X.K tg J fp it tn∧tn 0 s2.heap∧(∀b∈fp,vD X pins H' b)∧R J H'
def PI(X:Cx)(tg iter:Expr)(wi:TI):Prop :=
 ∀(pins:List (Addr×Obj)) (s:Shared) (σ:St) (H:Hp) (R:It→Hp→Prop),Inv X pins σ H s→wi σ H R →
  wpAny (model X.prog X.w) X.A (eval iter X.env) (fun v s1=>wpAny (model X.prog X.w) X.A (pyIter v) (Ds X pins σ tg R) X.xe s1) X.xe s
theorem OJ{M:Model}{A:Around}{E:Value→Shared→Prop}{s:Shared}{tg:Expr}{it:Addr}{u:Value}{o:Obj}{n:String}{vs:Array Value}{Q:Unit→Shared→Prop}(ho:s.heap.get? it=some o)(hc:o.cls = .type n)(hd:o.data = .fields vs)
  (hn:["enumerate", "zip", "dict_itemiterator", "dict_reverseitemiterator", "odict_iterator", "itertools.zip_longest", "itertools.pairwise"].contains n=false) (hQ:Q () s):wpAny M A (letOwnedTupleGo tg (.ref it) u) Q E s:=by
 unfold letOwnedTupleGo;cases tg <;> first
  | exact dQ hQ
  | (cases u <;> first
    | exact dQ hQ
    | (refine bI (wpAny_load ho ?_)
       rw [hc,hd];show wpAny M A (if(["enumerate", "zip", "dict_itemiterator", "dict_reverseitemiterator", "odict_iterator", "itertools.zip_longest", "itertools.pairwise"].contains n&&vs[0]? == some (rawInt _))=true then _ else _) Q E s;rw [if_neg (by intro h;rw [hn,Bool.false_and]at h;cases h)];exact dQ hQ))
def RL(K:Frag)(a:Addr):It :=
 ⟨fun i H=>∃xs x,dO K H a xs∧xs[i]? = some x,fun i H x H'=>H'=H∧∀xs,dO K H a xs→xs[i]? = some x,fun i H=>∃xs,dO K H a xs∧xs.length≤i⟩
def RK(K:Frag)(a:Addr):It :=
 ⟨fun i H=>∃xs x,dF K H a xs∧xs[i]? = some x,fun i H x H'=>H'=H∧∀xs,dF K H a xs→xs[i]? = some x,fun i H=>∃xs,dF K H a xs∧xs.length≤i⟩
def BF(lo:Int)(n:Nat):It:=⟨fun i _=>i<n,fun i H x H'=>H'=H∧x = .int (lo+i),fun i _=>n≤i⟩
theorem Gz{P:Program}{w:World}{K:Frag}{tg:Expr}(a it:Addr):Turn P w K tg (RL K a) [it] it (fun i h=>h.IsListIter it a i)where
 mem:=by simp
 obj:=fun i h st b hb=>by
  have e:b=it:=by simpa using hb
  subst e;obtain⟨o,e,c,d⟩:=st;exact⟨o,e,fun v z=>by rw [d]at z;cases z⟩
 keep:=fun i h h' st k=>st.at fun o e=>k it (by simp) o e
 item:=by
  intro X hP hw hK hc i pins s σ H E I hf st hg;subst hP hw hK;obtain⟨xs,x,hq,hx⟩:=hg;obtain⟨aI,rv,p,hz⟩:=I.list hq;obtain⟨u,hu,ru⟩:=rv.get hx;obtain⟨f0,f1,f2,f3,f4,f5⟩:=hf it (by simp);refine wpAny_pyNext_list_item st p.isList (x:=u) (by simpa using hu) fun h' aE sb=>?_;have I1:Inv X pins σ H { s with heap:=h' }:=I.turned (t':=s.toks) (fun b o hb e=>(sb.2 b hb).trans e) f0 f1 f3 f4 f5;obtain⟨o,e,c,d⟩:=id aE;exact⟨u,rfl,OJ (s:={ s with heap:=h' }) e c d (by decide) ⟨x,H,I1,ru,⟨rfl,fun ys hy=>by rw [I.Sx hy hq];exact hx⟩,aE,fun b hb=>(hf b hb).1⟩⟩
 done:=by
  intro X hP hw hK hc i pins s σ H E I hf st hg;subst hP hw hK;obtain⟨xs,hq,hx⟩:=hg;obtain⟨aI,rv,p,hz⟩:=I.list hq;obtain⟨f0,f1,f2,f3,f4,f5⟩:=hf it (by simp);have hl:=rv.length;exact wpAny_pyNext_list_end (I.ok.hd hc) st p.isList (by simp;omega) fun h' eb=>⟨rfl,I.turned (t':=s.toks) (fun b o hb e=>eb b o hb e) f0 f1 f3 f4 f5⟩
 self:=fun _ _ _ _ _ st h=>wpAny_pyIter_listiter st h
theorem Gx{P:Program}{w:World}{K:Frag}{tg:Expr}(a it:Addr):Turn P w K tg (RK K a) [it] it (fun i h=>h.IsTupleIter it a i)where
 mem:=by simp
 obj:=fun i h st b hb=>by
  have e:b=it:=by simpa using hb
  subst e;obtain⟨o,e,c,d⟩:=st;exact⟨o,e,fun v z=>by rw [d]at z;cases z⟩
 keep:=fun i h h' st k=>st.at fun o e=>k it (by simp) o e
 item:=by
  intro X hP hw hK hc i pins s σ H E I hf st hg;subst hP hw hK;obtain⟨xs,x,hq,hx⟩:=hg;obtain⟨aI,rv,p,hz⟩:=I.tuple hq;obtain⟨u,hu,ru⟩:=rv.get hx;obtain⟨f0,f1,f2,f3,f4,f5⟩:=hf it (by simp);refine wpAny_pyNext_tuple_item st (show s.heap.IsTuple a aI.toArray from p) (x:=u) (by simpa using hu) fun h' aE sb=>?_;have I1:Inv X pins σ H { s with heap:=h' }:=I.turned (t':=s.toks) (fun b o hb e=>(sb.2 b hb).trans e) f0 f1 f3 f4 f5;obtain⟨o,e,c,d⟩:=id aE;exact⟨u,rfl,OJ (s:={ s with heap:=h' }) e c d (by decide) ⟨x,H,I1,ru,⟨rfl,fun ys hy=>by rw [I.He hy hq];exact hx⟩,aE,fun b hb=>(hf b hb).1⟩⟩
 done:=by
  intro X hP hw hK hc i pins s σ H E I hf st hg;subst hP hw hK;obtain⟨xs,hq,hx⟩:=hg;obtain⟨aI,rv,p,hz⟩:=I.tuple hq;obtain⟨f0,f1,f2,f3,f4,f5⟩:=hf it (by simp);have hl:=rv.length;exact wpAny_pyNext_tuple_end (I.ok.hd hc) st (show s.heap.IsTuple a aI.toArray from p) (by simp;omega) fun h' eb=>⟨rfl,I.turned (t':=s.toks) (fun b o hb e=>eb b o hb e) f0 f1 f3 f4 f5⟩
 self:=fun _ _ _ _ _ st h=>wpAny_pyIter_tupleiter st h
theorem Gy{P:Program}{w:World}{K:Frag}{tg:Expr}(it:Addr)(lo:Int)(n:Nat):Turn P w K tg (BF lo n) [it] it (fun i h=>IsRangeIter h it (lo+(i:Nat)*1) ((n:Int) - (i:Nat)) 1)where
 mem:=by simp
 obj:=fun i h st b hb=>by
  have e:b=it:=by simpa using hb
  subst e;exact⟨_,st,fun v z=>by
   have z':Data.fields _=Data.cell v:=z;cases z'⟩
 keep:=fun i h h' st k=>k it (by simp) _ st
 item:=by
  intro X hP hw hK hc i pins s σ H E I hf st hg;subst hP hw hK;obtain⟨f0,f1,f2,f3,f4,f5⟩:=hf it (by simp);have W:=Walks.range (prog:=X.prog) (w:=X.w) (I.ok.hd hc) it lo 1 n;refine W.item i s _ _ hg st fun v h' tk hv aE kk=>?_;obtain⟨t,rfl⟩:=hv;have I1:Inv X pins σ H { s with heap:=h',toks:=tk }:=I.turned (fun b o hb e=>kk b o (by simpa using hb) e) f0 f1 f3 f4 f5;refine⟨_,rfl,OJ (s:={ s with heap:=h',toks:=tk }) (n := "range_iterator") aE rfl rfl (by decide) ⟨.int (lo+i),H,I1,⟨t,?_⟩,⟨rfl,rfl⟩,aE,fun b hb=>(hf b hb).1⟩⟩;rw [Int.mul_one]
 done:=by
  intro X hP hw hK hc i pins s σ H E I hf st hg;subst hP hw hK;obtain⟨f0,f1,f2,f3,f4,f5⟩:=hf it (by simp);exact wpAny_pyNext_range_end (I.ok.hd hc) st (by have:n≤i:=hg;omega) fun h' eb=>⟨rfl,I.turned (t':=s.toks) (fun b o hb e=>eb b o hb e) f0 f1 f3 f4 f5⟩
 self:=fun _ _ _ _ _ st h=>wpAny_pyIter_rangeiter st h
section
variable{X:Cx}{tg:Expr}
theorem WB{pins:List (Addr×Obj)}{σ:St}{H:Hp}{s:Shared}{R:It→Hp→Prop}{E:Value→Shared→Prop}{lo hi:Int}{t u v:Tok}{tk:Nat}(I:Inv X pins σ H s)(h1 : -(2 ^ 62)≤lo)(h2:lo<2 ^ 62)(h3 : -(2 ^ 62)≤hi)(h4:hi<2 ^ 62)
  (q:R (BF lo (hi - lo).toNat) H):wpAny (model X.prog X.w) X.A (pyIter (.ref s.heap.objs.size)) (Ds X pins σ tg R) E { s with heap:=s.heap.push { cls := .type "range",data := .fields #[.int lo t,.int hi u,.int 1 v] },toks:=tk }:=by
 refine wpAny_pyIter_range (IsRange.new ..) (small_one h1 h2 h3 h4) ?_;have I1:Inv X pins σ H { s with heap:=s.heap.push { cls := .type "range",data := .fields #[.int lo t,.int hi u,.int 1 v] },toks:=tk }:=I.kept fun b o e=>iZ _ e;refine⟨(s.heap.push { cls := .type "range",data := .fields #[.int lo t,.int hi u,.int 1 v] }).objs.size,[(s.heap.push { cls := .type "range",data := .fields #[.int lo t,.int hi u,.int 1 v] }).objs.size],_,_,H,rfl,
  I1.kept (t':=tk) fun b o e=>iZ _ e,Gy _ lo (hi - lo).toNat,?_,fun b hb=>?_,q⟩
 ·have e1:lo+((0:Nat):Int)*1=lo:=by simp
  have e2:(((hi - lo).toNat:Nat):Int) - ((0:Nat):Int)=Builtin.Range.rangeSize lo hi 1:=by rw [rangeSize_one];split <;> omega
  show IsRangeIter _ _ (lo+((0:Nat):Int)*1) ((((hi - lo).toNat:Nat):Int) - ((0:Nat):Int)) 1;rw [e1,e2];exact nS _ rfl
 ·have e:b=(s.heap.push { cls := .type "range",data := .fields #[.int lo t,.int hi u,.int 1 v] }).objs.size:=by simpa using hb
  subst e;exact I1.OU cP (I1.aK.fresh cP)
def Us(ta:TA):TI:=fun σ H R=>ta σ H fun vs H1=>∃j:Int,vs=[.int j]∧-(2 ^ 62)≤j∧j<2 ^ 62∧R (BF 0 j.toNat) H1
def Ur(ta:TA):TI:=fun σ H R=>ta σ H fun vs H1=>∃i j:Int,vs=[.int i,.int j]∧(-(2 ^ 62)≤i∧i<2 ^ 62∧-(2 ^ 62)≤j∧j<2 ^ 62)∧R (BF i (j - i).toNat) H1
theorem Oy{a:Expr}{ta:TA}{p pos:Pos}(hg:Gl X "range")(hm:X.mg "range" = none)(ha:PA X [a] ta)(hs:starEach [a] X.env=[(false,eval a X.env)]:=by rfl):PI X tg (.Call (.Name "range" p) [a] [] pos) (Us ta):=by
 intro pins s σ H R I h;refine Call_ (zG I hg hm boot_range (Dm (bE (ha pos pins s σ H _ I h) fun us s1 ⟨vs,H1,I1,r1,q1⟩=>?_) hs rfl));obtain⟨j,e,q1,q2,q⟩:=q1;subst e;cases r1 with
 | cons r rr =>
  cases rr;obtain⟨t,rfl⟩:=r;exact call_range_1 (WB I1 (by omega) (by omega) q1 q2 (by simpa using q))
theorem Ox{a b:Expr}{ta:TA}{p pos:Pos}(hg:Gl X "range")(hm:X.mg "range" = none)(ha:PA X [a,b] ta)(hs:starEach [a,b] X.env=[(false,eval a X.env),(false,eval b X.env)]:=by rfl)(tR:starEach [b] X.env=[(false,eval b X.env)]:=by rfl) :
  PI X tg (.Call (.Name "range" p) [a,b] [] pos) (Ur ta):=by
 intro pins s σ H R I h;refine Call_ (zG I hg hm boot_range (Dm (bE (ha pos pins s σ H _ I h) fun us s1 ⟨vs,H1,I1,r1,q1⟩=>?_) (by rw [hs,tR]) (by rw [tR];rfl)));obtain⟨i,j,e,⟨q1,q2,q3,q4⟩,q⟩:=q1;subst e;cases r1 with
 | cons r rr =>
  cases rr with
  | cons r' rr =>
   cases rr;obtain⟨t,rfl⟩:=r;obtain⟨t',rfl⟩:=r';exact call_range_2 (WB I1 q1 q2 q3 q4 q)
def UO(wi:TI)(g:TG)(tb:TS):TS:=fun D σ H=>wi σ H fun J H1=>∃W:Nat→Nat→St→Hp→Prop,(∃m,W 0 m σ H1)∧∀i m σ H,W i m σ H →
 (J.stop i H∧D.nx σ H)∨(J.go i H∧∃N:St→Hp→Prop,(∀σ' H',N σ' H'→∃m',m'<m∧W (i+1) m' σ' H')∧∀x H',J.qQ i H x H'→g x σ H' fun σ2 H2=>tb { D with nx:=N,ct:=N,bk:=D.nx } σ2 H2)
def yR(fp:List Addr)(h:Heap):List (Addr×Obj):=fp.filterMap fun b=>(h.get? b).map fun o=>(b,o)
theorem DS{fp:List Addr}{h:Heap}{b:Addr}{o:Obj}(hb:b∈fp)(e:h.get? b=some o):(b,o)∈yR fp h:=List.mem_filterMap.mpr ⟨b,hb,by rw [e];rfl⟩
theorem Rb{fp:List Addr}{h:Heap}{p:Addr×Obj}(hp:p∈yR fp h):p.1∈fp∧h.get? p.1=some p.2:=by
 obtain⟨b,hb,e⟩:=List.mem_filterMap.mp hp;cases q:h.get? b with
 | none=>rw [q]at e;cases e
 | some o =>
  rw [q]at e;have e':(b,o)=p:=iL e;subst e';exact⟨hb,q⟩
theorem Inv.pinned{pins:List (Addr×Obj)}{σ:St}{H:Hp}{s:Shared}{fp:List Addr}(I:Inv X pins σ H s)(hf:∀b∈fp,vD X pins H b)(ho:∀b∈fp,∃o,s.heap.get? b=some o∧∀v,o.data ≠ .cell v):Inv X (pins++yR fp s.heap) σ H s :=
 I.JK fun p hp=>(eK.mp hp).elim (fun z=>I.pin p (iN _ z)) fun z=>by
  obtain⟨hb,e⟩:=Rb z;obtain⟨f0,f1,f2,_⟩:=hf p.1 hb;obtain⟨o,e',d⟩:=ho p.1 hb;rw [e]at e';cases e';exact⟨e,f0,f1,f2,d⟩
theorem Inv.CG{pins pl:List (Addr×Obj)}{σ:St}{H:Hp}{s:Shared}(I:Inv X (pins++pl) σ H s):Inv X pins σ H s:=I.JK fun p hp=>I.pin p (iN _ (jM _ hp))
theorem Oh{iter:Expr}{body:List Stmt}{wi:TI}{g:TG}{tb:TS}{pos:Pos}(hp:PassesOwn (model X.prog X.w) X.A X.env X.xe)(hc:X.calm=true)(hi:PI X tg iter wi)(hg:PG X tg g)(hb:gL X body tb)
  (hs:∀x,foldedSetIterable iter X.env x=pure x:=by intro _;rfl):PS X (.For tg iter body [] pos) (UO wi g tb):=by
 intro pins s σ H D I h;refine wpAny_For (bE (hi pins s σ H _ I h) fun v s1 h1=>bE h1 fun MC s2 h2=>?_) hs;obtain⟨it,fp,tn,J,H2,e,I2,T,eM,f2,W,⟨m0,w0⟩,turn⟩:=h2;subst e;have ID:∀{H':Hp},(∀b∈fp,H' b=none)→∀b∈fp,vD X pins H' b:=fun hn b hb=>⟨hn b hb,(f2 b hb).2⟩
 refine codeAny_forLoop_any (fun n s'=>∃i σ' H',Inv X pins σ' H' s'∧tn i s'.heap∧(∀b∈fp,H' b=none)∧W i n σ' H') ?_ m0 ⟨0,σ,H2,I2,eM,fun b hb=>(f2 b hb).1,w0⟩;rintro n s3 ⟨i,σ3,H3,I3,jC,Am,w3⟩
 rcases turn i n σ3 H3 w3 with⟨stop,qn⟩ | ⟨go,N,hN,step⟩
 ·refine vL hp (bE (T.done X rfl rfl rfl hc i pins s3 σ3 H3 X.xe I3 (ID Am) jC stop) fun r s4 ⟨hr,I4⟩=>?_);subst hr;exact HC ⟨σ3,H3,I4,qn⟩
 ·refine vL hp (bE (T.item X rfl rfl rfl hc i pins s3 σ3 H3 X.xe I3 (ID Am) jC go) fun r s4 ⟨u,hr,h4⟩=>?_);subst hr;refine vL hp (bE h4 fun _ s5 ⟨x,H5,I5,r5,y5,sZ,EW⟩=>?_);have I5':=I5.pinned (ID EW) (T.obj _ _ sZ);refine vL hp (bE (hg _ s5 σ3 H5 x u _ I5' r5 (step x H5 y5)) fun _ s6 ⟨σ6,H6,I6,q6⟩=>?_);refine vL hp (bE (hb _ s6 σ6 H6 _ I6 q6) fun f s7 q7=>?_);have again:∀{σ7:St} {H7:Hp},Inv X (pins++yR fp s5.heap) σ7 H7 s7→N σ7 H7→∃m,m<n∧∃i σ' H',Inv X pins σ' H' s7∧tn i s7.heap∧(∀b∈fp,H' b=none)∧W i m σ' H':=fun{σ7 H7} I7 n7=>by
   obtain⟨m',hm,w7⟩:=hN σ7 H7 n7;refine⟨m',hm,i+1,σ7,H7,I7.CG,T.keep _ _ _ sZ fun b hb o e=>(I7.pin (b,o) (iN _ (iN _ (DS hb e)))).1,fun b hb=>?_,w7⟩;obtain⟨o,e,d⟩:=T.obj _ _ sZ b hb;exact(I7.pin (b,o) (iN _ (iN _ (DS hb e)))).2.1
  cases f with
  | next=>obtain⟨σ7,H7,I7,n7⟩:=q7;exact again I7 n7
  | cont=>obtain⟨σ7,H7,I7,n7⟩:=q7;exact again I7 n7
  | brk=>obtain⟨σ7,H7,I7,q7⟩:=q7;exact⟨σ7,H7,I7.CG,q7⟩
  | ret v=>obtain⟨x7,σ7,H7,I7,r7,q7⟩:=q7;exact⟨x7,σ7,H7,I7.CG,r7,q7⟩
end
abbrev R2:=V→V→Hp→VK→Prop
def eT(X:Cx)(f:Value→Value→Sem Value)(r:R2):Prop :=
 ∀(pins:List (Addr×Obj)) (s:Shared) (σ:St) (H:Hp) (x y:V) (v u:Value) (Q:VK),Inv X pins σ H s→RelV x v→RelV y u→r x y H Q →
  wpAny (model X.prog X.w) X.A (f v u) (EP X pins σ Q) X.xe s
def QL(X:Cx)(f:Value→Sem Value)(r:V→Hp→VK→Prop):Prop :=
 ∀(pins:List (Addr×Obj)) (s:Shared) (σ:St) (H:Hp) (x:V) (v:Value) (Q:VK),Inv X pins σ H s→RelV x v→r x H Q →
  wpAny (model X.prog X.w) X.A (f v) (EP X pins σ Q) X.xe s
def lF(X:Cx)(f:Value)(r:List V→Hp→VK→Prop):Prop :=
 ∀(pins:List (Addr×Obj)) (s:Shared) (σ:St) (H:Hp) (xs:List V) (us:List Value) (Q:VK),Inv X pins σ H s→Vals xs us→r xs H Q →
  wpAny (model X.prog X.w) X.A (call f us) (EP X pins σ Q) X.xe s
def yI(r:R2)(ta tb:TE):TE:=fun σ H Q=>ta σ H fun x H1=>tb σ H1 fun y H2=>r x y H2 Q
def Hs(r:V→Hp→VK→Prop)(ta:TE):TE:=fun σ H Q=>ta σ H fun x H1=>r x H1 Q
def rI(C:Int→Int→Prop)(g:Int→Int→V):R2:=fun x y H Q=>∃i j,x = .int i∧y = .int j∧C i j∧Q (g i j) H
def pM(g:Int→Int→V):R2:=fun x y H Q=>∃i j,x = .int i∧y = .int j∧Q (g i j) H
def rU(g:Int→V):V→Hp→VK→Prop:=fun x H Q=>∃i,x = .int i∧Q (g i) H
section
variable{X:Cx}{a b c:Expr}{ta tb tc:TE}{pos:Pos}
theorem QB(ha:PE X a ta)(hb:PE X b tb){pins:List (Addr×Obj)}{s:Shared}{σ:St}{H:Hp}{R:V→V→Hp→Prop}(I:Inv X pins σ H s)
  (h:ta σ H fun x H1=>tb σ H1 fun y H2=>R x y H2) {Q:Value→Shared→Prop} {f:Value→Value→Sem Value}
  (hf:∀v u s2 x y H2,Inv X pins σ H2 s2→RelV x v→RelV y u→R x y H2→wpAny (model X.prog X.w) X.A (f v u) Q X.xe s2) :
  wpAny (model X.prog X.w) X.A (eval a X.env) (fun v s₁=>wpAny (model X.prog X.w) X.A (eval b X.env) (fun u s₂=>wpAny (model X.prog X.w) X.A (f v u) Q X.xe s₂) X.xe s₁) X.xe s:=by
 refine bE (ha pins s σ H _ I h) fun v s1 ⟨x,H1,I1,r1,q1⟩=>?_;refine bE (hb pins s1 σ H1 _ I1 q1) fun u s2 ⟨y,H2,I2,r2,q2⟩=>?_;exact hf v u s2 x y H2 I2 r1 r2 q2
theorem Pj{op:Operator}{r:R2}(ho:eT X (binaryOp op) r)(ha:PE X a ta)(hb:PE X b tb):PE X (.BinOp a op b pos) (yI r ta tb):=by
 intro pins s σ H Q I h;exact wpAny_BinOp (QB ha hb I h fun v u s2 x y H2 I2 rx ry q=>ho pins s2 σ H2 x y v u Q I2 rx ry q)
theorem Pe{op:UnaryOp}{r:V→Hp→VK→Prop}(ho:QL X (unaryOp op) r)(ha:PE X a ta):PE X (.UnaryOp op a pos) (Hs r ta):=by
 intro pins s σ H Q I h;exact UnaryOp_ (bE (ha pins s σ H _ I h) fun v s1 ⟨x,H1,I1,r1,q1⟩=>ho pins s1 σ H1 x v Q I1 r1 q1)
theorem DK{f:Value→Value→Sem Value}{C:Int→Int→Prop}{g:Int→Int→Int}
  (rule:∀(i j:Int) (t u:Tok) (s:Shared) (Q:Value→Shared→Prop) (E:Value→Shared→Prop),C i j→Q (.int (g i j) s.toks) { s with toks:=s.toks+1 }→wpAny (model X.prog X.w) X.A (f (.int i t) (.int j u)) Q E s) :
  eT X f (rI C fun i j => .int (g i j)):=by
 intro pins s σ H x y v u Q I rx ry h;obtain⟨i,j,rfl,rfl,hc,q⟩:=h;obtain⟨t,rfl⟩:=rx;obtain⟨t',rfl⟩:=ry;exact rule i j t t' s _ _ hc ⟨.int (g i j),H,I.tok _,⟨_,rfl⟩,q⟩
theorem WS{f:Value→Value→Sem Value}{g:Int→Int→Int}
  (rule:∀(i j:Int) (t u:Tok) (s:Shared) (Q:Value→Shared→Prop) (E:Value→Shared→Prop),Q (.int (g i j) s.toks) { s with toks:=s.toks+1 }→wpAny (model X.prog X.w) X.A (f (.int i t) (.int j u)) Q E s) :
  eT X f (pM fun i j => .int (g i j)):=by
 intro pins s σ H x y v u Q I rx ry h;obtain⟨i,j,rfl,rfl,q⟩:=h;obtain⟨t,rfl⟩:=rx;obtain⟨t',rfl⟩:=ry;exact rule i j t t' s _ _ ⟨.int (g i j),H,I.tok _,⟨_,rfl⟩,q⟩
theorem DL{f:Value→Value→Sem Value}{g:Int→Int→Bool}
  (rule:∀(i j:Int) (t u:Tok) (s:Shared) (Q:Value→Shared→Prop) (E:Value→Shared→Prop),Q (.bool (g i j)) s→wpAny (model X.prog X.w) X.A (f (.int i t) (.int j u)) Q E s) :
  eT X f (pM fun i j => .bl (g i j)):=by
 intro pins s σ H x y v u Q I rx ry h;obtain⟨i,j,rfl,rfl,q⟩:=h;obtain⟨t,rfl⟩:=rx;obtain⟨t',rfl⟩:=ry;exact rule i j t t' s _ _ ⟨.bl (g i j),H,I,rfl,q⟩
def nW(i j:Int):Prop:=0<j∧j<1073741824
def xQ(i j:Int):Prop:=0≤j∧j≤1000000∧i.natAbs<2 ^ 64
def kJ(i j:Int):Prop:=(-(2 ^ 64)<i∧i<2 ^ 64)∨(-(2 ^ 64)<j∧j<2 ^ 64)
theorem kJ.ok{i j:Int}(h:kJ i j):IntMulOk i j:=by
 rcases h with⟨h1,h2⟩ | ⟨h1,h2⟩
 ·exact .of_left (intBits_le_64 h1 h2)
 ·exact .of_right (intBits_le_64 h1 h2)
theorem Qy:eT X (binaryOp .Add) (pM fun i j => .int (i+j)):=WS fun _ _ _ _ _ _ _ q=>add_int q
theorem Ql:eT X (binaryOp .Sub) (pM fun i j => .int (i - j)):=WS fun _ _ _ _ _ _ _ q=>sub_int q
theorem Qo:eT X (binaryOp .Mult) (rI kJ fun i j => .int (i*j)):=DK fun _ _ _ _ _ _ _ hc q=>mul_int q hc.ok
theorem Qu:eT X (binaryOp .FloorDiv) (rI nW fun i j => .int (i/j)):=DK fun i j _ _ _ _ _ hc q=>by
 have h1:(0:Int)<j:=hc.1;have h2:j<1073741824:=hc.2;exact floordiv_int (by omega) (by rw [Int.fdiv_eq_ediv_of_nonneg i (by omega)];exact q) (.inl (PyProof.noPylong_small (by omega)))
theorem Qp:eT X (binaryOp .Mod) (rI (fun _ j=>0<j) fun i j => .int (i%j)):=DK fun i j _ _ _ _ _ hc q=>by
 have h1:(0:Int)<j:=hc;exact mod_int' (by omega) (by rw [Int.fmod_eq_emod_of_nonneg i (by omega)];exact q)
theorem Qm:eT X (binaryOp .Pow) (rI xQ fun i j => .int (i ^ j.toNat)):=DK fun _ _ _ _ _ _ _ hc q=>pow_int_small hc.1 hc.2.1 hc.2.2 q
theorem Gr{f:Value→Sem Value}{g:Int→Int}
  (rule:∀(i:Int) (t:Tok) (s:Shared) (Q:Value→Shared→Prop) (E:Value→Shared→Prop),Q (.int (g i) s.toks) { s with toks:=s.toks+1 }→wpAny (model X.prog X.w) X.A (f (.int i t)) Q E s) :
  QL X f (rU fun i => .int (g i)):=by
 intro pins s σ H x v Q I rx h;obtain⟨i,rfl,q⟩:=h;obtain⟨t,rfl⟩:=rx;exact rule i t s _ _ ⟨.int (g i),H,I.tok _,⟨_,rfl⟩,q⟩
theorem Gq:QL X (unaryOp .USub) (rU fun i => .int (-i)):=Gr fun _ _ _ _ _ q=>neg_int q
theorem Qq:eT X (compareOp .Lt) (pM fun i j => .bl (decide (i<j))):=DL fun _ _ _ _ _ _ _ q=>lt_int q
theorem Qr:eT X (compareOp .LtE) (pM fun i j => .bl (decide (i≤j))):=DL fun _ _ _ _ _ _ _ q=>le_int q
theorem Qs:eT X (compareOp .Gt) (pM fun i j => .bl (decide (j<i))):=DL fun _ _ _ _ _ _ _ q=>gt_int q
theorem Qt:eT X (compareOp .GtE) (pM fun i j => .bl (decide (j≤i))):=DL fun _ _ _ _ _ _ _ q=>ge_int q
theorem eT.or{f:Value→Value→Sem Value}{r r':R2}(h:eT X f r)(h':eT X f r'):eT X f (fun x y H Q=>r x y H Q∨r' x y H Q):=by
 intro pins s σ H x y v u Q I rx ry q
 rcases q with q | q
 ·exact h pins s σ H x y v u Q I rx ry q
 ·exact h' pins s σ H x y v u Q I rx ry q
theorem dH(b:Expr){op:CmpOp}(h:op ≠ .In:=by decide)(h2:op ≠ .NotIn:=by decide):behindInMarks op b=false:=by
 have e1:(op == CmpOp.In)=false:=by cases op <;> first | rfl | exact absurd rfl h
 have e2:(op == CmpOp.NotIn)=false:=by cases op <;> first | rfl | exact absurd rfl h2
 cases b <;> simp [behindInMarks,e1,e2]
theorem Pu{op:CmpOp}{r:R2}(ho:eT X (compareOp op) r)(ha:PE X a ta)(hb:PE X b tb)(hm:behindInMarks op b=false):PE X (.Compare a [op] [b] pos) (yI r ta tb):=by
 intro pins s σ H Q I h;exact wpAny_Compare1 (QB ha hb I h fun v u s2 x y H2 I2 rx ry q=>ho pins s2 σ H2 x y v u Q I2 rx ry q) hm
def UK(t:TE):TT:=fun σ H Q=>t σ H fun x H'=>∃k,x = .bl k∧Q k H'
theorem Nz{op:CmpOp}{r:R2}(ho:eT X (compareOp op) r)(ha:PE X a ta)(hb:PE X b tb)(hm:behindInMarks op b=false):PT X (.Compare a [op] [b] pos) (UK (yI r ta tb)):=by
 intro pins s σ H Q I h;refine wpAny_isTrue_Compare1 (bE (ha pins s σ H _ I h) fun v s1 ⟨x,H1,I1,r1,q1⟩=>bE (hb pins s1 σ H1 _ I1 q1) fun u s2 ⟨y,H2,I2,r2,q2⟩ =>
  bE (ho pins s2 σ H2 x y v u _ I2 r1 r2 q2) fun c s3 ⟨z,H3,I3,r3,k,e,q3⟩=>?_) hm
 subst e;cases r3;exact HB ⟨H3,I3,q3⟩
theorem zE:(sizeLine:Nat)<2 ^ 63:=by rw [jS];decide
theorem vals1{x:V}{us:List Value}(r:Vals [x] us):∃u,us=[u]∧RelV x u:=by
 cases r with
 | cons r1 r2=>cases r2;exact⟨_,rfl,r1⟩
theorem vals2{x y:V}{us:List Value}(r:Vals [x,y] us):∃u w',us=[u,w']∧RelV x u∧RelV y w':=by
 cases r with
 | cons r1 r2 =>
  cases r2 with
  | cons r3 r4=>cases r4;exact⟨_,_,rfl,r1,r3⟩
theorem aa1(hc:X.calm=true):lF X (.builtin "max") (fun xs H Q=>∃i j,xs=[.int i,.int j]∧Q (.int (if j>i then j else i)) H):=by
 intro pins s σ H xs us Q I r h;obtain⟨i,j,rfl,q⟩:=h;obtain⟨u,w',rfl,⟨t,rfl⟩,⟨t',rfl⟩⟩:=vals2 r;refine max_two_ints (I.ok.hd hc) fun h' tk k=>⟨_,H,I.kept k,?_,q⟩
 by_cases hj:j>i
 ·rw [if_pos hj,if_pos hj];exact⟨_,rfl⟩
 ·rw [if_neg hj,if_neg hj];exact⟨_,rfl⟩
theorem aaZ(hc:X.calm=true):lF X (.builtin "min") (fun xs H Q=>∃i j,xs=[.int i,.int j]∧Q (.int (if j<i then j else i)) H):=by
 intro pins s σ H xs us Q I r h;obtain⟨i,j,rfl,q⟩:=h;obtain⟨u,w',rfl,⟨t,rfl⟩,⟨t',rfl⟩⟩:=vals2 r;refine min_two_ints (I.ok.hd hc) fun h' tk k=>⟨_,H,I.kept k,?_,q⟩
 by_cases hj:j<i
 ·rw [if_pos hj,if_pos hj];exact⟨_,rfl⟩
 ·rw [if_neg hj,if_neg hj];exact⟨_,rfl⟩
end
structure QT(h:Heap)(x dx C:Addr)(mA:Str→Option Value):Prop where
 obj:h.get? x=some (instObj C dx)
 ns:h.Ns1 dx mA
 ne:dx≠x
theorem Ss{h:Heap}{dx:Addr}{mA:Str→Option Value}(n:h.Ns1 dx mA):∃od,h.get? dx=some od∧∀name,lookIn name od=some (mA name):=by
 obtain⟨o,es,ep,ho,hd,hk,_,hm⟩:=n;refine⟨o,ho,fun name=>?_⟩;have e:=hm name;unfold nsFind findBy at e;rw [← Array.find?_toList]at e;unfold lookIn;rw [hd];dsimp only;split
 ·rename_i y q;rw [q]at e;exact congrArg some e
 ·rename_i q;rw [q]at e;have a:es.toList.any (·.refKey)=false:=by
   rw [List.any_eq_false];intro y hy;obtain⟨z,t,mU⟩:=hk y (Array.mem_toList_iff.mp hy);simp [DictEntry.refKey,mU]
  have a':¬es.toList.any (·.refKey)=true:=by rw [a];exact Bool.false_ne_true
  rw [if_neg a'];exact congrArg some e
theorem QT.look{h:Heap}{x dx C:Addr}{mA:Str→Option Value}(I:QT h x dx C mA):∃od,PySem.W.InstAt h x (instObj C dx) C (some od)∧∀name,lookIn name od=some (mA name) :=
 let ⟨od,ho,hl⟩:=Ss I.ns
 ⟨od,⟨I.obj,rfl,rfl,ho⟩,hl⟩
section
variable{P:Program}{w:World}{H H':Hp}{h h':Heap}{a C dx:Addr}{fs fO:List (Str×V)}
theorem Uk(aK:eL P w H h)(e:H a=some (.ins C dx fs)):∃mA,QT h a dx C mA∧(∀f,uW (fs.lookup f) (mA f))∧PySem.Within mA (fs.map (·.1))∧fs.length≤1000∧H dx=some (.own a):=by
 obtain⟨d,z,ne,ob,mA,n,r,q⟩:=(show fS P w H h a (.ins C dx fs)from aK a _ e);exact⟨mA,⟨ob,n,ne⟩,r,q,z,d⟩
end
structure sP(K:Frag)(C:Addr):Prop where
 pg:PySem.W.plainGet K C Str.empty=true
 hd:PySem.W.hasDictIn K C=true
 po:PySem.W.plainOver K C=true
 sa:findIn K (.ref C) "__setattr__" = some (some (.builtin "object.__setattr__"))
theorem sP.get{K:Frag}{C:Addr}(c:sP K C)(f:Str):PySem.W.plainGet K C f=true:=c.pg
structure Con(K:Frag)(C:Addr)(f:Str)(v:V)(u:Value):Prop where
 at_:findIn K (.ref C) f=some (some u)
 rel:RelV v u
 get:specialIn K u "__get__" = some none
 cp:PySem.W.copiedNames.contains f=false
structure Meth(K:Frag)(C:Addr)(m:Str)(f:Addr):Prop where
 at_:findIn K (.ref C) m=some (some (.ref f))
 fn:PySem.W.isFn K (.ref f)=true
 kp:keepIn K (.ref f)=true
section
variable{X:Cx}{pins:List (Addr×Obj)}{σ:St}{H:Hp}{s:Shared}{a C dx:Addr}{fs:List (Str×V)}{f:Str}{v:V}{A:Around}{E:Value→Shared→Prop}
theorem Inv.made(I:Inv X pins σ H s):Inv X pins σ (upd (upd H s.heap.objs.size (.own (s.heap.objs.size+1))) (s.heap.objs.size+1) (.ins C s.heap.objs.size []))
  { s with heap:=(s.heap.push emptyDict).push (instObj C s.heap.objs.size) }:=by
 have e1:(s.heap.push emptyDict).get? s.heap.objs.size=some emptyDict:=nS s.heap rfl;have e2:((s.heap.push emptyDict).push (instObj C s.heap.objs.size)).get? (s.heap.objs.size+1)=some (instObj C s.heap.objs.size):=by
  have:=nS (s.heap.push emptyDict) (o:=instObj C s.heap.objs.size) rfl;rwa [Heap.size_push]at this
 have e3:(s.heap.push emptyDict).Ns s.heap.objs.size (fun _=>none):=⟨emptyDict,#[],_,e1,rfl,(fun e he=>absurd he (by simp)),fun _=>rfl⟩;have I1:=I.laid (a:=s.heap.objs.size) (o := .own (s.heap.objs.size+1)) (h':=s.heap.push emptyDict) (t':=s.toks) (fun b u q=>iZ _ q) cP ⟨_,e1⟩;refine I1.laid (a:=s.heap.objs.size+1) (o := .ins C s.heap.objs.size []) (t':=s.toks) (fun b u q=>iZ _ q) (Nat.le_of_eq (Heap.size_push _ _)) ?_;have ne:s.heap.objs.size≠s.heap.objs.size+1:=fU (Nat.lt_succ_self _);refine⟨by rw [cO ne,gR],xB _,ne,e2,fun _=>none,(Heap.Ns1.of_empty e3).at fun o q=>iZ _ q,fun _=>True.intro,fun y hy=>absurd rfl hy⟩
end
section
variable{X:Cx}{pins:List (Addr×Obj)}{σ:St}{H:Hp}{s:Shared}{A:Around}{E:Value→Shared→Prop}{Q:Value→Shared→Prop}{c:Value}{b:Bool}
inductive kW(K:Frag)(H:Hp):V→Value→Prop where
 | bS:kW K H .bS (.type "NoneType")
 | bl (x:Bool):kW K H (.bl x) (.type "bool")
 | int (i:Int):kW K H (.int i) (.type "int")
 | str (x:Str):kW K H (.str x) (.type "str")
 | wJ (x:UInt64):kW K H (.wJ x) (.type "float")
 | lst {a:Addr} {xs:List V} (e:H a=some (.lst xs)):kW K H (.ref a) (.type "list")
 | fP {a:Addr} {o:Obj} {xs:List V} (e:H a=some (.fP o (.lst xs))):kW K H (.ref a) (.type "list")
 | tup {a:Addr} {xs:List V} (e:H a=some (.tup xs)):kW K H (.ref a) (.type "tuple")
 | dK {a:Addr} {aL:List (Key×V)} (e:H a=some (.dK aL)):kW K H (.ref a) (.type "dict")
 | dT {a:Addr} {aL:List (List Key×V)} (e:H a=some (.dT aL)):kW K H (.ref a) (.type "dict")
 | ins {a C dx:Addr} {fs:List (Str×V)} (e:H a=some (.ins C dx fs)) (cl:sP K C) (ha:findIn K (.ref C) "__class__" = some (some (.builtin "object.__class__")))
   (hn:specialIn K (.builtin "object.__class__") "__get__" = some (some (.builtin "getset_descriptor.__get__"))) (YO:PySem.W.takesIn K (.builtin "object.__class__")=some true)
   (hm:mroIn K C (.type "object")=some true):kW K H (.ref a) (.ref C)
theorem Ue{x:V}{u t:Value}(I:Inv X pins σ H s)(rx:RelV x u)(ty:kW X.K H x t)(e:kitOne X.K t c=some b)(h:∀tk,Q (.bool b) { s with toks:=tk }) :
  wpAny (model X.prog X.w) A (call (.builtin "isinstance") [u,c]) Q E s:=by
 cases ty with
 | bS=>cases(show u=Value.none from rx);exact kia_one PySem.W.kitx_none I.gT True.intro e (fun z=>nomatch z) h
 | bl y=>cases(show u=Value.bool y from rx);exact kia_one PySem.W.kitx_bool I.gT True.intro e (fun z=>nomatch z) h
 | int i=>obtain⟨t,q⟩:=(show ∃t,u=Value.int i t from rx);cases q;exact kia_one PySem.W.kitx_int I.gT True.intro e (fun z=>nomatch z) h
 | str y=>obtain⟨t,q⟩:=(show ∃t,u=Value.str y t from rx);cases q;exact kia_one PySem.W.kitx_str I.gT True.intro e (fun z=>nomatch z) h
 | wJ y=>obtain⟨t,q⟩:=(show ∃t,u=Value.float y t from rx);cases q;exact kia_one PySem.W.kitx_float I.gT True.intro e (fun z=>nomatch z) h
 | @lst a xs ea =>
  cases(show u=Value.ref a from rx);obtain⟨_,_,n,_,h1⟩:=(show fS X.prog X.w H s.heap a (.lst xs)from I.aK a _ ea);exact kia_one PySem.W.kitx_list I.gT ⟨_,h1,rfl⟩ e (fun z=>nomatch z) h
 | @fP a ob xs ea =>
  cases(show u=Value.ref a from rx);obtain⟨_,_,_,n,_,h1⟩:=(show fS X.prog X.w H s.heap a (.fP ob (.lst xs))from I.aK a _ ea);exact kia_one PySem.W.kitx_list I.gT ⟨_,h1,rfl⟩ e (fun z=>nomatch z) h
 | @tup a xs ea =>
  cases(show u=Value.ref a from rx);obtain⟨_,_,_,p⟩:=(show fS X.prog X.w H s.heap a (.tup xs)from I.aK a _ ea);obtain⟨o,h1,h2,_⟩:=p;exact kia_one PySem.W.kitx_tuple I.gT ⟨o,h1,h2⟩ e (fun z=>nomatch z) h
 | @dK a aL ea =>
  cases(show u=Value.ref a from rx);obtain⟨_,_,vs,_,p⟩:=(show fS X.prog X.w H s.heap a (.dK aL)from I.aK a _ ea);obtain⟨o,es,ep,h1,h2,_⟩:=p;exact kia_one PySem.W.kitx_dict I.gT ⟨o,h1,h2.1⟩ e (fun z=>nomatch z) h
 | @dT a aL ea =>
  cases(show u=Value.ref a from rx);obtain⟨_,_,xs,_,o,es,ep,h1,h2,_⟩:=(show fS X.prog X.w H s.heap a (.dT aL)from I.aK a _ ea);exact kia_one PySem.W.kitx_dict I.gT ⟨o,h1,h2.1⟩ e (fun z=>nomatch z) h
 | @ins a C dx fs ea cl ha hn YO hm =>
  cases(show u=Value.ref a from rx);obtain⟨mA,O,_⟩:=Uk I.aK ea;obtain⟨od,J,_⟩:=O.look;exact kia_one (PySem.W.kitx_own (cl.get _) cl.hd ha hn YO hm) I.gT J e (fun z=>nomatch z) h
end
structure cW(k:Nat)(A:Around):Prop where
 hd:A.handled=none
 dp:A.depth+3*k+5<recursionLimit
 un:A.units+16*k+200<cLine
theorem cW.mono{j k:Nat}{A:Around}(r:cW k A)(h:j≤k):cW j A:=⟨r.hd,by have:=r.dp;omega,by have:=r.un;omega⟩
theorem cW.deeper{k:Nat}{A:Around}(r:cW (k+1) A)(env:Env):cW k (A.deeper env) :=
 ⟨r.hd,by have:=r.dp;show A.depth+1+3*k+5<_;omega,by have:=r.un;show A.units+3+16*k+200<_;omega⟩
theorem Sl{A:Around}{C:Addr}{us:List Value}{kw:List (Str×Value)}:(A.under (.builtin "type.__call__" ⟨.ref C::us,kw⟩)).depth=A.depth+1:=by
 first | rfl | simp [Around.under,Code.weight,Code.isCreation,Code.isGuard,Code.isCaller,Code.frames,Code.isFrame,guardIds]
theorem Sk{A:Around}{C:Addr}{us:List Value}{kw:List (Str×Value)}:(A.under (.builtin "type.__call__" ⟨.ref C::us,kw⟩)).units=A.units+1:=by
 first | rfl | simp [Around.under,Code.cUnits,Code.frames,Code.isFrame]
theorem cW.make{k:Nat}{A:Around}(r:cW (k+1) A)(C:Addr)(us:List Value)(kw:List (Str×Value)):cW k (A.under (.builtin "type.__call__" ⟨.ref C::us,kw⟩)) :=
 ⟨r.hd,by have:=r.dp;rw [Sl];omega,by have:=r.un;rw [Sk];omega⟩
theorem cW.depth{k:Nat}{A:Around}(r:cW k A):A.depth<recursionLimit:=by have:=r.dp;omega
theorem cW.units{k:Nat}{A:Around}(r:cW k A):A.units+64<cLine:=by have:=r.un;omega
def UM:TA:=fun _ H Q=>Q [] H
def Ik(ta:TE)(tr:TA):TA:=fun σ H Q=>ta σ H fun x H1=>tr σ H1 fun xs H2=>Q (x::xs) H2
section
variable{X:Cx}{e:Expr}{es:List Expr}{te:TE}{t:TA}{pos:Pos}
theorem Qe:PA X [] UM:=fun _ _ _ _ H Q I h=>Calls.spliced_nil ⟨[],H,I,.nil,h⟩
theorem Qf(ha:PE X e te)(hr:PA X es t)(hs:starEach (e::es) X.env=(false,eval e X.env)::starEach es X.env:=by rfl):PA X (e::es) (Ik te t):=by
 intro pos pins s σ H Q I h;rw [hs];show wpAny _ _ (spliced ((false,eval e X.env)::backTo pos (starEach es X.env))) _ _ s;refine Calls.spliced_cons (bE (ha pins s σ H _ I h) fun u s1 ⟨x,H1,I1,r1,q1⟩=>?_);exact bE (hr pos pins s1 σ H1 _ I1 q1) fun us s2 ⟨xs,H2,I2,r2,q2⟩=>⟨x::xs,H2,I2,.cons r1 r2,q2⟩
def Ht(t:TA):TE:=fun σ H Q=>t σ H fun xs H1=>xs.length≤sizeLine∧∀p,H1 p=none→Q (.ref p) (upd H1 p (.tup xs))
def Ig(t:TA):TE:=fun σ H Q=>t σ H fun xs H1=>xs.length≤sizeLine∧∀p,H1 p=none→Q (.ref p) (upd H1 p (.lst xs))
theorem Pf{x1}(h:PA X es t):PE X (.Tuple es x1 pos) (Ht t):=by
 intro pins s σ H Q I hq;refine wpAny_Tuple_spliced (bE (h pos pins s σ H _ I hq) fun us s1 ⟨xs,H1,I1,r,z,q⟩=>⟨by rw [← r.length];exact z,?_⟩);have hf:H1 s1.heap.objs.size=none:=I1.aK.fresh cP;refine⟨.ref s1.heap.objs.size,upd H1 s1.heap.objs.size (.tup xs),I1.laid (t':=s1.toks) (fun b u e=>iZ _ e) cP ?_,rfl,q _ hf⟩;exact⟨z,us,r,⟨_,nS _ rfl,rfl,_,rfl⟩⟩
theorem Pl(h:PA X es t):PE X (.List es pos) (Ig t):=by
 intro pins s σ H Q I hq;refine wpAny_List_spliced (bE (h pos pins s σ H _ I hq) fun us s1 ⟨xs,H1,I1,r,z,q⟩=>⟨by rw [← r.length];exact z,?_⟩);have hf:H1 s1.heap.objs.size=none:=I1.aK.fresh cP;refine⟨.ref s1.heap.objs.size,upd H1 s1.heap.objs.size (.lst xs),I1.laid (t':=s1.toks) (fun b u e=>iZ _ e) cP ?_,rfl,q _ hf⟩;exact⟨z,us,0,r,nS _ rfl⟩
end
abbrev Sp:=List V→Hp→VK→XK→Prop
abbrev lG:=List Env→Hp→Shared→XK→Value→Shared→Prop
structure vH(P:Program)(w:World)(K:Frag)(mg:Str→Option Value)(base:Heap)(A:Around)(outer:List Env)(s:Shared)(H:Hp):Prop where
 frames:A.frames=some outer
 mod:Mod K mg base
 bs:∀b o,base.get? b=some o→s.heap.get? b=some o∧H b=none
 mB:base.objs.size≤s.heap.objs.size
 jH:s.heap.FunFrames base outer
 nN:∀b∈dY outer,H b=none
 aK:eL P w H s.heap
 bare:AllBare s.gens
def CE(outer:List Env)(P:Program)(w:World)(H:Hp)(s:Shared)(Q:VK)(u:Value)(s':Shared):Prop :=
 ∃v H',s'.os=s.os∧AllBare s'.gens∧Un (dY outer) [] H H' s.heap s'.heap∧eL P w H' s'.heap∧RelV v u∧Q v H'
def CR(CX:lG)(outer:List Env)(P:Program)(w:World)(H:Hp)(s:Shared)(Q:VK)(E:XK)(r:Result)(s':Shared):Prop :=
 match r with
 | .ok (.ret u)=>CE outer P w H s Q u s'
 | .ok _=>False
 | .error e=>CX outer H s E e s'
structure fD(P:Program)(w:World)(K:Frag)(mg:Str→Option Value)(base:Heap)(CX:lG)(k:Nat)(f:Addr)(fd:FuncData)(ps:List Str)(sp:Sp):Prop where
 len:∀vs H Q E,sp vs H Q E→vs.length=ps.length
 run:∀(A:Around) (outer:List Env) (s:Shared) (H:Hp) (args:Args) (us:List Value) (vs:List V) (Q:VK) (E:XK),cW k A→vH P w K mg base A outer s H→BindsTo s fd args (ps.zip us)→Vals vs us→sp vs H Q E →
  codeAny (model P w) A (.call (.ref f) args) (CR CX outer P w H s Q E) s
theorem fD.mono{P:Program}{w:World}{K:Frag}{mg:Str→Option Value}{base:Heap}{CX:lG}{j k:Nat}{f:Addr}{fd:FuncData}{ps:List Str}{sp:Sp}(F:fD P w K mg base CX j f fd ps sp)(h:j≤k) :
  fD P w K mg base CX k f fd ps sp:=⟨F.len,fun A outer s H args us vs Q E hr=>F.run A outer s H args us vs Q E (hr.mono h)⟩
theorem fD.imp{P:Program}{w:World}{K:Frag}{mg:Str→Option Value}{base:Heap}{CX:lG}{k:Nat}{f:Addr}{fd:FuncData}{ps:List Str}{sp UW:Sp}(F:fD P w K mg base CX k f fd ps sp)
  (h:∀vs H Q E,UW vs H Q E→sp vs H Q E):fD P w K mg base CX k f fd ps UW :=
 ⟨fun vs H Q E q=>F.len vs H Q E (h _ _ _ _ q),fun A outer s H args us vs Q E hr he hb hv hs=>F.run A outer s H args us vs Q E hr he hb hv (h _ _ _ _ hs)⟩
theorem vH.make{P:Program}{w:World}{K:Frag}{mg:Str→Option Value}{base:Heap}{A:Around}{outer:List Env}{s:Shared}{H:Hp}(e:vH P w K mg base A outer s H)(C:Addr)(us:List Value)(kw:List (Str×Value)) :
  vH P w K mg base (A.under (.builtin "type.__call__" ⟨.ref C::us,kw⟩)) outer s H:=⟨by first | exact e.frames | (simpa [Around.under,Code.envs,Code.isFrame,pushEnvs]using e.frames),e.mod,e.bs,e.mB,e.jH,e.nN,e.aK,e.bare⟩
section
variable{X:Cx}{pins:List (Addr×Obj)}{σ:St}{H:Hp}{s s':Shared}
theorem Inv.Az(I:Inv X pins σ H s):vH X.prog X.w X.K X.mg X.base X.A X.stack s H :=
 ⟨I.ok.frames,I.ok.mod,I.bs,qI I.ok.mB I.sz,I.stack,I.IB,I.aK,I.bare⟩
theorem Inv.after{Q:VK}{u:Value}(I:Inv X pins σ H s)(h:CE X.stack X.prog X.w H s Q u s'):EP X pins σ Q u s':=by
 obtain⟨v,H',os,bare,un,aK,r,q⟩:=h;obtain⟨hh,g,d,t,Qj⟩:=s';obtain rfl:Qj=s.os:=os;exact⟨v,H',I.call (h':=hh) (g':=g) (d':=d) (t':=t) (ch:=[]) un aK bare (fun b z=>absurd z (by simp)),r,q⟩
end
def Binds(K:Frag)(fd:FuncData)(ps:List Str)(ds:List Value):Prop :=
 ∀(s:Shared) (us:List Value),K.In s.heap→(us++ds).length=ps.length→BindsTo s fd ⟨us,[]⟩ (ps.zip (us++ds))
theorem Binds.all{K:Frag}{fd:FuncData}{ps:List Str}(h:∀us:List Value,us.length=ps.length→bindArgs fd ⟨us,[]⟩=pure (ps.zip us)):Binds K fd ps []:=fun s us _ hl=>by
 rw [nR]at hl ⊢;exact .of_eq (h us hl)
section
variable{X:Cx}{CX:lG}{k:Nat}{f C:Addr}{fd:FuncData}{ps:List Str}{sp:Sp}{FE:List V}{ds:List Value}{E:XK}{x m:Str}{p pos apos:Pos}{e o:Expr}{es:List Expr}{ta:TE}{t:TA}
structure Mk(K:Frag)(C f:Addr):Prop where
 makes:PySem.W.makesIn K C=true
 init:findIn K (.ref C) "__init__" = some (some (.ref f))
 fn:PySem.W.isFn K (.ref f)=true
 kp:keepIn K (.ref C)=true
end
section
variable{X:Cx}{CX:lG}{k:Nat}{f C:Addr}{fd:FuncData}{ps ks:List Str}{sp:Sp}{E:XK}{x m:Str}{p pos apos adW:Pos}{e o:Expr}{es:List Expr}{kws:List Keyword}{te ta:TE}{t tk:TA}{nm:Option Str}
structure aeX(K:Frag)(fd:FuncData)(ps ks:List Str)(g:List Value→List Value→List Value)(gV:List V→List V→List V):Prop where
 to:∀(s:Shared) (us ws:List Value),K.In s.heap→(g us ws).length=ps.length→BindsTo s fd ⟨us,ks.zip ws⟩ (ps.zip (g us ws))
 rel:∀{vs:List V} {us:List Value} {zs:List V} {ws:List Value},Vals vs us→Vals zs ws→Vals (gV vs zs) (g us ws)
variable{g:List Value→List Value→List Value}{gV:List V→List V→List V}
end
structure dM(N P:List Str)(sc:Scope):Prop where
 kind:sc.kind = .function
 co:sc.isCoroutine=false
 gen:sc.isGenerator=false
 nd:N.Nodup
 pre:N.take P.length=P
 par:∀x∈P,sc.names.lookup x=some .local∨sc.names.lookup x=some .cell
 Rj:∀y∈sc.names,y.2 ≠ .free
theorem By{kindOf:Str→Option NameKind}{x:Str}:∀{binds:List (Str×Value)} {m:Str→Option Value},(∀v,(x,v)∉binds)→bindL kindOf binds m x=m x
 | [],_,_=>rfl
 | (n,v)::r,m,h=>by
  unfold bindL;rw [By fun w hw=>h w (fC _ hw)];split
  ·have:x≠n:=by rintro rfl;exact h v List.mem_cons_self
   simp [this]
  ·rfl
theorem Ca{kindOf:Str→Option NameKind}{x:Str}:∀{binds:List (Str×Value)} {m:Str→Option Value},(∀v,(x,v)∉binds)→bindC kindOf binds m x=m x
 | [],_,_=>rfl
 | (n,v)::r,m,h=>by
  unfold bindC;rw [Ca fun w hw=>h w (fC _ hw)];split
  ·rfl
  ·have:x≠n:=by rintro rfl;exact h v List.mem_cons_self
   simp [this]
theorem Bz{kindOf:Str→Option NameKind}{x:Str}{v:Value}:∀{P:List Str} {vs:List Value} {i:Nat} {m:Str→Option Value},P.Nodup→P[i]? = some x→vs[i]? = some v→kindOf x=some .local →
  bindL kindOf (P.zip vs) m x=some v
 | [],_,_,_,_,h,_,_=>by simp at h
 | _::_,[],_,_,_,_,h,_=>by simp at h
 | p::P,w::vs,0,m,nd,h1,h2,hk=>by
  simp at h1 h2;subst h1;subst h2;show bindL kindOf ((p,w)::P.zip vs) m p=_;unfold bindL;rw [By fun v hv=>(xG.mp nd).1 (List.of_mem_zip hv).1,if_pos hk];simp
 | p::P,w::vs,i+1,m,nd,h1,h2,hk=>by
  show bindL kindOf ((p,w)::P.zip vs) m x=_;unfold bindL;exact Bz (i:=i) (xG.mp nd).2 (by simpa using h1) (by simpa using h2) hk
theorem Cb{kindOf:Str→Option NameKind}{x:Str}{v:Value}:∀{P:List Str} {vs:List Value} {i:Nat} {m:Str→Option Value},P.Nodup→P[i]? = some x→vs[i]? = some v→kindOf x≠some .local →
  bindC kindOf (P.zip vs) m x=some v
 | [],_,_,_,_,h,_,_=>by simp at h
 | _::_,[],_,_,_,_,h,_=>by simp at h
 | p::P,w::vs,0,m,nd,h1,h2,hk=>by
  simp at h1 h2;subst h1;subst h2;show bindC kindOf ((p,w)::P.zip vs) m p=_;unfold bindC;rw [Ca fun v hv=>(xG.mp nd).1 (List.of_mem_zip hv).1,if_neg hk];simp
 | p::P,w::vs,i+1,m,nd,h1,h2,hk=>by
  show bindC kindOf ((p,w)::P.zip vs) m x=_;unfold bindC;exact Cb (i:=i) (xG.mp nd).2 (by simpa using h1) (by simpa using h2) hk
def start(N:List Str)(vs:List V):St:=vs.map some++List.replicate (N.length - vs.length) none
def nP(CX:lG)(P:Program)(w:World)(K:Frag)(mg:Str→Option Value)(base:Heap)(N:List Str)(qual:Str)(scope:Scope)(f:Addr)(cd:Value)(A:Around)(outer:List Env)(s:Shared)(H:Hp)(E:XK):Cx where
 prog:=P
 w:=w
 K:=K
 mg:=mg
 base:=base
 A:=A.deeper (envOfC qual scope s.heap.objs.size f cd)
 N:=N
 s₀:=s
 H₀:=H
 env:=envOfC qual scope s.heap.objs.size f cd
 outer:=outer
 stack:=envOfC qual scope s.heap.objs.size f cd::outer
 ex:=[]
 calm:=true
 fn:=fun _=>true
 pn:=[]
 xe:=fun e s'=>wpAny (model P w) (A.deeper (envOfC qual scope s.heap.objs.size f cd)) (leaving (envOfC qual scope s.heap.objs.size f cd) e) (fun _ yO=>CX outer H s E e yO) (fun e' yO=>CX outer H s E e' yO) s'
theorem Br{sc:Scope}{n:Nat}{x:Str}(h:sc.names.lookup x=some .cell):∃c,(cellsFrom n sc.names []).lookup x=some c:=by
 have q:=PySem.W.cellsFrom_some sc.names n [] (.inl h);exact Option.isSome_iff_exists.mp q
theorem Ui{CX:lG}{P:Program}{w:World}{K:Frag}{mg:Str→Option Value}{base:Heap}{N ps:List Str}{qual:Str}{scope:Scope}{f:Addr}{cd:Value}{A:Around}{outer:List Env}{s s1:Shared}{H:Hp}{E:XK}{us:List Value}{vs:List V}
  (S:dM N ps scope) (hd:A.handled=none) (e0:vH P w K mg base A outer s H) (hl:vs.length=ps.length) (r:Vals vs us)
  (x:InCallC s s.heap.objs.size (bindL (envOfC qual scope s.heap.objs.size f cd).kindOf (ps.zip us) fun _=>none) (cellsFrom (s.heap.objs.size+1) scope.names []) (bindC (envOfC qual scope s.heap.objs.size f cd).kindOf (ps.zip us) fun _=>none) s1) :
  Inv (nP CX P w K mg base N qual scope f cd A outer s H E) [] (start N vs) H s1:=by
 have jF:ps.length≤N.length:=by have:=congrArg List.length S.pre;rw [qK]at this;omega
 obtain⟨h1,tk,rfl,hk⟩:=x.done;have yU:∀b:Addr,b∉(nP CX P w K mg base N qual scope f cd A outer s H E).ex:=fun b z=>absurd (show b∈([]:List Addr)from z) (by simp);refine⟨⟨e0.mod,S.kind,rfl,rfl,iM _,fun y z c h1 h2=>?_,fun y hy=>?_,fun y c _ h=>?_,fun _=>hd,Around.frames_deeper e0.frames,.inr ⟨rfl,rfl⟩,fun b z=>absurd z (yU b),e0.bs,e0.mB,fun b _ _=>yU b,fun b z=>absurd z (yU b),e0.jH,e0.nN⟩,
  rfl,e0.bare,Un.kept hk,⟨_,x.toInCall.ns,fun i y v h1 h2 h3=>?_⟩,fun y c h=>⟨_,x.cell y c h⟩,e0.aK.fresh cP,fun y c h=>?_,fun p hp=>absurd (show p∈([]:List (Addr×Obj))from hp) (by simp),e0.aK.kept hk,?_⟩
 ·exact name_of_addr x.apart (PySem.mem_of_lookup h1) (PySem.mem_of_lookup h2)
 ·have hy:scope.names.lookup y=some .cell∨scope.names.lookup y=some .free:=hy
  rcases hy with hy | hy
  ·exact Br hy
  ·exact absurd rfl (S.Rj _ (PySem.mem_of_lookup hy))
 ·exact Nat.le_of_lt (x.above y c (PySem.mem_of_lookup h))
 ·have hi:i<vs.length:=by
   unfold start at h2
   by_cases hi:i<vs.length
   ·exact hi
   ·rw [kY (by simpa using hi)]at h2;rw [List.getElem?_replicate]at h2;split at h2 <;> cases h2
  have ha:vs[i]? = some v:=by
   unfold start at h2;rw [gO (by simpa using hi),pB]at h2;cases e:vs[i]? with
   | none=>rw [e]at h2;cases h2
   | some a=>rw [e]at h2;cases h2;rfl
  obtain⟨u,hu,rv⟩:=r.get ha;have hp:ps[i]? = some y:=by
   rw [← S.pre,List.getElem?_take_of_lt (by omega)];exact h1
  have XD:ps.Nodup:=by rw [← S.pre];exact S.nd.sublist (QY _ _)
  refine⟨u,rv,?_⟩
  rcases S.par y (kI hp)with k | k
  ·exact .inl ⟨k,Bz XD hp hu k⟩
  ·obtain⟨c,e⟩:=Br (n:=s.heap.objs.size+1) k;refine .inr ⟨.inl k,c,e,?_⟩;have q:=x.cell y c e;rw [Cb XD hp hu (by show scope.names.lookup y≠_;rw [k];decide)]at q;exact q
 ·exact e0.aK.fresh (Nat.le_of_lt (x.above y c (PySem.mem_of_lookup h)))
 ·unfold start;show _=N.length;rw [fG,hJ,List.length_replicate];omega
theorem EY{CX:lG}{P:Program}{w:World}{K:Frag}{mg:Str→Option Value}{base:Heap}{k:Nat}{f:Addr}{name qual:Str}{params:Arguments}{body:List Stmt}{scope:Scope}{dV kV doc pm aV ct oc:Value}{an od:Option Addr}
  {jU:Array (Option Value)} {N ps:List Str} {sp:Sp} (lk:K.lookup f=some ⟨oc,od,.func (fnOf name qual params body scope dV kV doc pm an aV ct),jU⟩) (gW:codeIn K aV qual=true) (S:dM N ps scope)
  (len:∀vs H Q E,sp vs H Q E→vs.length=ps.length)
  (gX:∀(A:Around) (outer:List Env) (s:Shared) (H:Hp) (vs:List V) (Q:VK) (E:XK),cW k (A.deeper (envOfC qual scope s.heap.objs.size f aV))→sp vs H Q E →
   ∃t,gL (nP CX P w K mg base N qual scope f aV A outer s H E) body t∧t { nx:=fun _ H'=>Q .bS H',rt:=Q } (start N vs) H) :
  fD P w K mg base CX (k+1) f (fnOf name qual params body scope dV kV doc pm an aV ct) ps sp:=by
 refine⟨len,fun A outer s H args us vs Q E hr e0 hb r iH=>?_⟩;have hl:=len _ _ _ _ iH;have KX:K.In s.heap:=e0.mod.EC.keeps fun b o e=>(e0.bs b o e).1;have lim:s.heap.NoLimit:=e0.mod.nolimit.keeps fun b o e=>(e0.bs b o e).1;have Vw:∀y∈ps.zip us,scope.names.lookup y.1=some .local∨(scope.names.lookup y.1=some .cell∧((cellsFrom (s.heap.objs.size+1) scope.names []).lookup y.1).isSome=true):=fun⟨n,v⟩ hy=>by
  rcases S.par n (List.of_mem_zip hy).1 with q | q
  ·exact .inl q
  ·exact .inr ⟨q,PySem.W.cellsFrom_some _ _ _ (.inl q)⟩
 refine codeAny_call_function hr.depth (KX _ _ lk) rfl S.co S.gen rfl (PySem.W.codeRec_of KX gW) (hb _ _ _ _ ?_);refine wpAny_newFunctionEnv_cells S.kind Vw fun env he s1 x=>?_;subst he;refine⟨lim.keeps x.toInCall.keep,codeAny_func ?_⟩;obtain⟨t,ht,hq⟩:=gX A outer s H vs Q E (hr.deeper _) iH;have I:Inv (nP CX P w K mg base N qual scope f aV A outer s H E) [] (start N vs) H s1:=Ui S hr.hd e0 hl r x;refine lH (ht [] s1 (start N vs) H _ I hq) (fun fl s' hs=>?_) fun e s' hs=>hs;have fin:∀{σ':St} {H':Hp} {v:V} {u:Value},Inv (nP CX P w K mg base N qual scope f aV A outer s H E) [] σ' H' s'→RelV v u→Q v H'→CE outer P w H s Q u s' :=
  fun{σ' H' v u} J rv q=>⟨v,H',J.os,J.bare,J.base,J.aK,rv,q⟩
 cases fl with
 | ret u =>
  obtain⟨v,σ',H',J,rv,q⟩:=hs;exact fin J rv q
 | next =>
  obtain⟨σ',H',J,q⟩:=hs;exact fin (v:=V.bS) (u:=Value.none) J rfl q
 | brk =>
  obtain⟨_,_,_,q⟩:=hs;exact False.elim q
 | cont =>
  obtain⟨_,_,_,q⟩:=hs;exact False.elim q
section
variable{X:Cx}{x:Str}{p pos:Pos}{e:Expr}{es:List Expr}{t:TA}{id T:String}{r:List V→Hp→VK→Prop}
def HZ(r:List V→Hp→VK→Prop)(t:TA):TE:=fun σ H Q=>t σ H fun vs H1=>r vs H1 Q
theorem Px(hc:lF X (.builtin id) r)(hg:Gl X x)(hm:X.mg x=none)(hv:bootBuiltins x=some (.builtin id))(ha:PA X (e::es) t)(hn:x ≠ "__name__":=by decide)(jY:(x == ("__debug__" : Str))=false:=by decide)
  (he:starEach (e::es) X.env=(false,eval e X.env)::starEach es X.env:=by rfl) (jF:(backTo pos (starEach es X.env)).any (·.1)=false:=by rfl):PE X (.Call (.Name x p) (e::es) [] pos) (HZ r t):=by
 intro pins s σ H Q I h;refine HE (zG I hg hm hv ?_ hn jY);exact PyProof.Rows.callWith_builtin1 (bE (ha pos pins s σ H _ I h) fun us s1 ⟨vs,H1,I1,r1,q1⟩=>hc pins s1 σ H1 vs us Q I1 r1 q1) he jF
theorem Pw(hc:lF X (.type T) r)(hg:Gl X x)(hm:X.mg x=none)(hv:bootBuiltins x=some (.type T))(ha:PA X (e::es) t)(hn:x ≠ "__name__":=by decide)(jY:(x == ("__debug__" : Str))=false:=by decide)
  (he:starEach (e::es) X.env=(false,eval e X.env)::starEach es X.env:=by rfl) (jF:(backTo pos (starEach es X.env)).any (·.1)=false:=by rfl):PE X (.Call (.Name x p) (e::es) [] pos) (HZ r t):=by
 intro pins s σ H Q I h;refine HE (zG I hg hm hv ?_ hn jY);exact Dm (bE (ha pos pins s σ H _ I h) fun us s1 ⟨vs,H1,I1,r1,q1⟩=>hc pins s1 σ H1 vs us Q I1 r1 q1) he jF
end
end L2
namespace HT
open PySem PyProof.Rows
section
variable{prog:Program}{w:World}{A:Around}{E:Value→Shared→Prop}{s:Shared}
theorem aaX{t b:Addr}{vs ws:List Value}{Q:Value→Shared→Prop}(ht:IsTup s.heap t vs.toArray)(hb:IsTup s.heap b ws.toArray)(hv:vs≠[])
  (h1:ws=[]→Q (.ref t) s) (h2:ws≠[]→Q (.ref s.heap.objs.size) { s with heap:=s.heap.push { cls := .type "tuple",data := .seq (vs++ws).toArray } })
  (cS:vs.length+ws.length≤sizeLine):wpAny (model prog w) A (binaryOp .Add (.ref t) (.ref b)) Q E s:=by
 obtain⟨⟨cls,dd,data,sl⟩,ho,hc,n,hd⟩:=id ht;obtain⟨⟨aeP,Bi,data2,UZ⟩,EJ,ZP,n2,hd2⟩:=id hb;simp only at hc hd ZP hd2;subst hc hd ZP hd2;have e:vs.toArray++ws.toArray=(vs++ws).toArray:=by simp
 by_cases hw:ws=[]
 ·exact concat_meets ⟨_,ho,rfl⟩ ⟨_,EJ,rfl⟩ noFill_tuple_add seq_tuple_add PySem.F.slot_tuple_add PySem.F.entry_tuple_add (PySem.F.args_tuple_add_2 _ _)
   (tuple_addW1 t b vs.toArray ws.toArray n n2 dd Bi sl UZ (by simpa using hv) (by simp [hw])) ⟨ho,EJ,h1 hw⟩
 ·refine concat_meets ⟨_,ho,rfl⟩ ⟨_,EJ,rfl⟩ noFill_tuple_add seq_tuple_add PySem.F.slot_tuple_add PySem.F.entry_tuple_add (PySem.F.args_tuple_add_2 _ _)
   (tuple_addW2 t b vs.toArray ws.toArray n n2 dd Bi sl UZ (by simpa using hv) (by simpa using hw) (by rw [dS,dS];exact cS)) ⟨ho,EJ,?_⟩
  rw [e];exact h2 hw
def bC(n d:Nat):Option Int→Nat
 | none=>d
 | some v=>if v<0 then(v+(n:Int)).toNat else min v.toNat n
theorem Nb(n d:Nat)(hd:d≤n)(o:Option Int):bC n d o≤n:=by
 cases o with
 | none=>exact hd
 | some v =>
  show(if v<0 then(v+(n:Int)).toNat else min v.toNat n)≤n
  by_cases hv:v<0
  ·rw [if_pos hv];omega
  ·rw [if_neg hv];exact Nat.min_le_right _ _
theorem Bm(v:Int)(n d:Nat):(if v<0 then max (v+(n:Int)) 0 else min v (n:Int))=((bC n d (some v):Nat):Int):=by
 show(if v<0 then max (v+(n:Int)) 0 else min v (n:Int))=(((if v<0 then(v+(n:Int)).toNat else min v.toNat n):Nat):Int)
 by_cases hv:v<0
 ·simp only [if_pos hv];omega
 ·simp only [if_neg hv];omega
theorem abL(lo hi:Option Int)(n:Nat):Builtin.Slice.sliceAdjust lo hi 1 (n:Int)=(((bC n 0 lo:Nat):Int),((bC n n hi:Nat):Int)):=by
 have h1:¬((1:Int)<0):=by omega
 unfold Builtin.Slice.sliceAdjust;simp only [h1,cK];refine Prod.ext ?_ ?_
 ·cases lo with
  | none=>rfl
  | some v=>exact Bm v n 0
 ·cases hi with
  | none=>rfl
  | some v=>exact Bm v n n
theorem Ot(i j:Nat):Builtin.Slice.slicePlaces (i:Int) (j:Int) 1=j - i:=by
 unfold Builtin.Slice.slicePlaces;have h1:(1:Int)>0:=by omega
 simp only [h1,cR,Int.ediv_one];split <;> omega
theorem UY{v:Value}{o:Option Int}{Q:Option Int→Shared→Prop}(p:IsPart v o)(h:Q o s):wpAny (model prog w) A (Builtin.Slice.slicePartIndex v) Q E s:=by
 cases p with
 | none=>exact slicePart_none h
 | int i t=>exact slicePart_int h
theorem Mb{sl:Addr}{vl vu:Value}{lo hi:Option Int}{n:Nat}{Q:Int×Int×Nat→Shared→Prop}(hs:s.heap.IsSliceOf sl vl vu .none)(pl:IsPart vl lo)(pu:IsPart vu hi)
  (h:Q (((bC n 0 lo:Nat):Int),1,bC n n hi - bC n 0 lo) s):wpAny (model prog w) A (Builtin.Slice.sliceApplied (.ref sl) (pure (n:Int))) Q E s:=by
 obtain⟨os,zM,zZ,EO⟩:=id hs;unfold Builtin.Slice.sliceApplied Builtin.Slice.sliceFields;refine bI (bI (sQ zM EO (x:=vl) rfl (bI (sQ zM EO (x:=vu) rfl (bI (sQ zM EO (x := .none) rfl (dQ ?_)))))));refine bI (slicePart_none ?_);show wpAny _ _ (if((1:Int) == 0)=true then _ else _) _ _ s;rw [if_neg (by decide)];refine bI (UY pl (bI (UY pu (bI (dQ ?_)))));show wpAny _ _ (match Builtin.Slice.sliceAdjust lo hi 1 (n:Int)with | (lo,hi)=>pure (lo,(1:Int),Builtin.Slice.slicePlaces lo hi 1)) _ _ s;rw [abL lo hi n];show wpAny _ _ (pure (((bC n 0 lo:Nat):Int),(1:Int),Builtin.Slice.slicePlaces ((bC n 0 lo:Nat):Int) ((bC n n hi:Nat):Int) 1)) _ _ s;rw [Ot];exact dQ h
theorem Ov(xs:Array Value)(i k:Nat):((List.range k).filterMap fun(m:Nat)=>xs[((i:Int)+(m:Int)*1).toNat]?).toArray=((xs.toList.drop i).take k).toArray:=by
 have e:(fun(m:Nat)=>xs[((i:Int)+(m:Int)*1).toNat]?)=fun m=>xs[i+m]?:=by
  funext m;have:((i:Int)+(m:Int)*1).toNat=i+m:=by omega
  rw [this]
 rw [e];have:=pick_run xs i k;rw [List.filterMap_map]at this;have e2:((fun x=>xs[x]?) ∘ fun x=>i+x)=fun m=>xs[i+m]?:=rfl;rw [e2]at this;rw [this]
theorem Yq{t sl:Addr}{items:Array Value}{vl vu:Value}{lo hi:Option Int}{Q:Value→Shared→Prop}(ht:IsTup s.heap t items)(hs:s.heap.IsSliceOf sl vl vu .none)(pl:IsPart vl lo)(pu:IsPart vu hi)
  (hw:¬(bC items.size 0 lo=0∧bC items.size items.size hi=items.size))
  (h:Q (.ref s.heap.objs.size) { s with heap:=s.heap.push { cls := .type "tuple",data := .seq ((items.toList.drop (bC items.size 0 lo)).take (bC items.size items.size hi - bC items.size 0 lo)).toArray } })
  (cS:items.size≤sizeLine):wpAny (model prog w) A (getItem (.ref t) (.ref sl)) Q E s:=by
 have ED:sizeOk (.seq ((items.toList.drop (bC items.size 0 lo)).take (bC items.size items.size hi - bC items.size 0 lo)).toArray):=by
  show((items.toList.drop (bC items.size 0 lo)).take (bC items.size items.size hi - bC items.size 0 lo)).toArray.size≤sizeLine;rw [dS,qK,uZ,eE];omega
 have hj:bC items.size items.size hi≤items.size:=Nb _ _ cP hi;obtain⟨os,zM,zZ,EO⟩:=id hs;have Xx:s.TypeIs (.ref sl) "slice":=⟨os,zM,zZ⟩;unfold getItem
 try with_reducible refine xV ?_
 first | refine bI (dQ ?_) | skip
 refine bI (wpAny_sequenceKey ht.typeIs (by decide) ?_);refine bI (wpAny_callSpecial?_slot (name:=Str.ofString "__getitem__") ht.typeIs Dl
  (wpAny_call_entry Dl ht.typeIs entry_tuple_getitem ?_ (args_tuple_getitem _ _)))
 show wpAny _ _ (Builtin.Tuple.tupleItemsOf (.ref t) >>= _) _ _ s;refine bI (tupleItemsOf_ ht ?_);refine bI (wpAny_typeOf Xx ?_);rw [if_pos (by decide)];refine bI (Mb hs pl pu ?_);have zN:¬((((bC items.size 0 lo:Nat):Int) == 0&&(1:Int) == 1&&(bC items.size items.size hi - bC items.size 0 lo) == items.size)=true):=by
  intro q;rw [jP,jP]at q;have q1:((bC items.size 0 lo:Nat):Int)=0:=eq_of_beq q.1.1;have q2:bC items.size items.size hi - bC items.size 0 lo=items.size:=eq_of_beq q.2;exact hw ⟨by omega,by omega⟩
 show wpAny _ _ (if(((bC items.size 0 lo:Nat):Int) == 0&&(1:Int) == 1&&(bC items.size items.size hi - bC items.size 0 lo) == items.size)=true then _ else _) _ _ s;rw [if_neg zN,Ov]
 first
  | exact bI (m:=Builtin.Tuple.tupleExact _) (xU (dQ ⟨_,rfl,dQ h⟩) ED)
  | exact bI (m:=Builtin.Tuple.tupleExact _) (xU (bI (dQ (dQ ⟨_,rfl,dQ h⟩))) ED)
  | exact bI (bI (m:=Builtin.Tuple.tupleExact _) (xU (dQ (dQ ⟨_,rfl,dQ h⟩)) ED))
  | exact bI (bI (m:=Builtin.Tuple.tupleExact _) (xU (dQ ⟨_,rfl,dQ h⟩) ED))
end
end HT
namespace L2
open PySem PySem.Spec PyProof.Rows
abbrev TO:=St→Hp→(Option Int→Hp→Prop)→Prop
def PO(X:Cx)(e:Option Expr)(t:TO):Prop :=
 ∀(pins:List (Addr×Obj)) (s:Shared) (σ:St) (H:Hp) (Q:Option Int→Hp→Prop),Inv X pins σ H s→t σ H Q →
  wpAny (model X.prog X.w) X.A (evalPart e X.env) (fun u s'=>∃o H',Inv X pins σ H' s'∧IsPart u o∧Q o H') X.xe s
def Ic:TO:=fun _ H Q=>Q none H
def Hx(t:TE):TO:=fun σ H Q=>t σ H fun x H1=>∃i,x = .int i∧Q (some i) H1
theorem intsAre_of{ns:List Int}:∀{us:List Value},Vals (ns.map V.int) us→IntsAre us ns:=by
 induction ns with
 | nil=>intro us r;rw [qJ]at r;cases r;exact .nil
 | cons n ns ih =>
  intro us r;rw [gM]at r;cases r with
  | cons r1 r2 =>
   obtain⟨t,e⟩:=r1;subst e;exact .cons n t (ih r2)
section
variable{X:Cx}{e:Expr}{te:TE}{lo hi:Option Expr}{tl th:TO}{pos p2:Pos}
theorem Oo:PO X none Ic:=by
 intro pins s σ H Q I h;rw [evalPart_none];exact dQ ⟨none,H,I,.none,h⟩
theorem Om(h:PE X e te):PO X (some e) (Hx te):=by
 intro pins s σ H Q I hw;rw [evalPart_some];refine bE (h pins s σ H _ I hw) fun u s1 ⟨x,H1,I1,r1,q1⟩=>?_;obtain⟨i,rfl,q⟩:=q1;obtain⟨t,rfl⟩:=r1;exact⟨some i,H1,I1,.int i t,q⟩
def uV(X:Cx)(r:V→Option Int→Option Int→Hp→VK→Prop):Prop :=
 ∀(pins:List (Addr×Obj)) (s:Shared) (σ:St) (H:Hp) (x:V) (v vl vu:Value) (lo hi:Option Int) (sl:Addr) (Q:VK),Inv X pins σ H s→RelV x v→s.heap.IsSliceOf sl vl vu .none→IsPart vl lo→IsPart vu hi→r x lo hi H Q →
  ∃T id,typeLookup (.type T) "__getitem__" = pure (some (.builtin id))∧s.TypeIs v T∧wpAny (model X.prog X.w) X.A (getItem v (.ref sl)) (EP X pins σ Q) X.xe s
theorem uV.or{r r':V→Option Int→Option Int→Hp→VK→Prop}(h:uV X r)(h':uV X r'):uV X (fun x lo hi H Q=>r x lo hi H Q∨r' x lo hi H Q):=by
 intro pins s σ H x v vl vu lo hi sl Q I rx hs pl pu q
 rcases q with q | q
 ·exact h pins s σ H x v vl vu lo hi sl Q I rx hs pl pu q
 ·exact h' pins s σ H x v vl vu lo hi sl Q I rx hs pl pu q
def Hv(r:V→Option Int→Option Int→Hp→VK→Prop)(te:TE)(tl th:TO):TE:=fun σ H Q=>te σ H fun x H1=>tl σ H1 fun l H2=>th σ H2 fun u H3=>r x l u H3 Q
theorem Pg{r:V→Option Int→Option Int→Hp→VK→Prop}(hr:uV X r)(he:PE X e te)(hl:PO X lo tl)(hu:PO X hi th):PE X (.Subscript e (.Slice lo hi none p2) pos) (Hv r te tl th):=by
 intro pins s σ H Q I h;refine Subscript_ (bE (he pins s σ H _ I h) fun v s1 ⟨x,H1,I1,r1,q1⟩=>?_);refine wpAny_Slice (bE (hl pins s1 σ H1 _ I1 q1) fun vl s2 ⟨l,H2,I2,pl,q2⟩=>bE (hu pins s2 σ H2 _ I2 q2) fun vu s3 ⟨u,H3,I3,pu,q3⟩=>?_);rw [evalPart_none];refine dQ ?_;have I4:Inv X pins σ H3 { s3 with heap:=s3.heap.push { cls := .type "slice",data := .fields #[vl,vu,.none] } }:=I3.kept (t':=s3.toks) fun b ob q=>iZ _ q;obtain⟨T,id,hT,ht,hg⟩:=hr pins { s3 with heap:=s3.heap.push { cls := .type "slice",data := .fields #[vl,vu,.none] } } σ H3 x v vl vu l u s3.heap.objs.size Q I4 r1 (Heap.IsSliceOf.new ..) pl pu q3;show wpAny (model X.prog X.w) X.A (subscriptTail e (.Slice lo hi none p2) v (.ref s3.heap.objs.size)) (EP X pins σ Q) X.xe { s3 with heap:=s3.heap.push { cls := .type "slice",data := .fields #[vl,vu,.none] } };exact tail_any (ops:=[.ref s3.heap.objs.size,v]) ht hT hg (by with_unfolding_all rfl)
def rZ(xs:List V)(lo hi:Option Int):List V:=(xs.drop (HT.bC xs.length 0 lo)).take (HT.bC xs.length xs.length hi - HT.bC xs.length 0 lo)
theorem Bl(xs:List V)(lo hi:Option Int):(rZ xs lo hi).length≤xs.length:=by
 unfold rZ;rw [qK,uZ];omega
def Nq(K:Frag):V→Option Int→Option Int→Hp→VK→Prop:=fun x lo hi H Q=>∃a xs,x = .ref a∧dF K H a xs ∧
 ¬(HT.bC xs.length 0 lo=0∧HT.bC xs.length xs.length hi=xs.length)∧∀p,H p=none→Q (.ref p) (upd H p (.tup (rZ xs lo hi)))
theorem Mc:uV X (Nq X.K):=by
 intro pins s σ H x v vl vu lo hi sl Q I rx hs pl pu h;obtain⟨a,xs,rfl,hx,hw,q⟩:=h;cases rx;obtain⟨aI,r,ht,hz⟩:=I.tuple hx;have hlen:aI.toArray.size=xs.length:=by rw [dS];exact r.length.symm
 refine⟨"tuple",_,Dl.lookup,ht.typeIs,?_⟩;refine HT.Yq ht hs pl pu (by rw [hlen];exact hw) ?_ (by rw [hlen];exact hz);rw [hlen];refine⟨.ref s.heap.objs.size,_,I.laid (t':=s.toks) (o := .tup (rZ xs lo hi)) (fun b ob q=>iZ _ q) cP ?_,rfl,q _ (I.aK.fresh cP)⟩;exact⟨qI (Bl xs lo hi) hz,_,(r.drop (HT.bC xs.length 0 lo)).take (HT.bC xs.length xs.length hi - HT.bC xs.length 0 lo),IsTup.new _ _⟩
def Nv(K:Frag):R2:=fun x y H Q=>∃a b xs ys,x = .ref a∧y = .ref b∧dF K H a xs∧dF K H b ys∧xs≠[]∧xs.length+ys.length≤sizeLine ∧
 (ys=[]→Q (.ref a) H)∧(ys≠[]→∀p,H p=none→Q (.ref p) (upd H p (.tup (xs++ys))))
theorem Vals.JO{xs:List V}{us:List Value}(r:Vals xs us):us=[]↔xs=[]:=by
 cases r with
 | nil=>simp
 | cons _ _=>simp
theorem Qw:eT X (binaryOp .Add) (Nv X.K):=by
 intro pins s σ H x y v u Q I rx ry h;obtain⟨a,b,xs,ys,rfl,rfl,ha,hb,hx,hz,q1,q2⟩:=h;cases rx;cases ry;obtain⟨aI,r1,p1,_⟩:=I.tuple ha;obtain⟨MD,r2,p2,_⟩:=I.tuple hb;refine HT.aaX p1 p2 (fun z=>hx (r1.JO.mp z)) (fun z=>⟨.ref a,H,I,rfl,q1 (r2.JO.mp z)⟩) (fun z=>?_) (by rw [← r1.length,← r2.length];exact hz);refine⟨.ref s.heap.objs.size,_,I.laid (t':=s.toks) (o := .tup (xs++ys)) (fun b ob q=>iZ _ q) cP ?_,rfl,q2 (fun w=>z (r2.JO.mpr w)) _ (I.aK.fresh cP)⟩;exact⟨by rw [fG];exact hz,_,r1.append r2,IsTup.new _ _⟩
end
def jE(n:Nat)(i:Int):Option Nat:=if 0≤i then(if i<n then some i.toNat else none)else if -(n:Int)≤i then some (i+n).toNat else none
def bZ{α:Type}(xs:List α)(i:Int):Option α:=(jE xs.length i).bind fun j=>xs[j]?
theorem YG{n:Nat}{i:Int}{j:Nat}(h:jE n i=some j):seqIndex? i n=some j∧j<n∧-(n:Int)≤i∧i<n:=by
 unfold jE at h
 by_cases h0:0≤i
 ·rw [if_pos h0]at h
  by_cases h1:i<n
  ·rw [if_pos h1]at h;have e:i.toNat=j:=iL h;exact⟨by rw [seqIndex_of h0 h1,e],by omega,by omega,h1⟩
  ·rw [if_neg h1]at h;cases h
 ·rw [if_neg h0]at h
  by_cases h1 : -(n:Int)≤i
  ·rw [if_pos h1]at h;have e:(i+n).toNat=j:=iL h;exact⟨by rw [seqIndex_neg (by omega) h1,e],by omega,h1,by omega⟩
  ·rw [if_neg h1]at h;cases h
theorem QI{α:Type}{xs:List α}{i:Int}{v:α}(h:bZ xs i=some v):∃j,seqIndex? i xs.length=some j∧xs[j]? = some v∧j<xs.length∧-(xs.length:Int)≤i∧i<xs.length:=by
 unfold bZ at h;cases e:jE xs.length i with
 | none=>rw [e]at h;cases h
 | some j =>
  rw [e]at h;obtain⟨h1,h2,h3,h4⟩:=YG e;exact⟨j,h1,h,h2,h3,h4⟩
def Dp(b:Expr):Prop:=∀o i,subscripted b false o i=operate [o,i] (getItem o i)
def qL(X:Cx)(r:R2):Prop :=
 ∀(value slice:Expr) (pins:List (Addr×Obj)) (s:Shared) (σ:St) (H:Hp) (x y:V) (v u:Value) (Q:VK),Inv X pins σ H s→RelV x v→RelV y u→r x y H Q →
  subscripted slice false v u=operate [v,u] (getItem v u)→wpAny (model X.prog X.w) X.A (subscriptTail value slice v u) (EP X pins σ Q) X.xe s
def sH(X:Cx)(id:String)(r:V→List V→Hp→VK→Prop):Prop :=
 ∀(pins:List (Addr×Obj)) (s:Shared) (σ:St) (H:Hp) (x:V) (xs:List V) (v:Value) (us:List Value) (Q:VK),Inv X pins σ H s→RelV x v→Vals xs us→r x xs H Q →
  wpAny (model X.prog X.w) X.A (call (.builtin id) (v::us)) (EP X pins σ Q) X.xe s
section
variable{X:Cx}{a b:Expr}{ta tb:TE}{pos:Pos}
theorem qL.or{r r':R2}(h:qL X r)(h':qL X r'):qL X (fun x y H Q=>r x y H Q∨r' x y H Q):=by
 intro value slice pins s σ H x y v u Q I rx ry q hs
 rcases q with q | q
 ·exact h value slice pins s σ H x y v u Q I rx ry q hs
 ·exact h' value slice pins s σ H x y v u Q I rx ry q hs
theorem sH.or{id:String}{r r':V→List V→Hp→VK→Prop}(h:sH X id r)(h':sH X id r'):sH X id (fun x xs H Q=>r x xs H Q∨r' x xs H Q):=by
 intro pins s σ H x xs v us Q I rx rs q
 rcases q with q | q
 ·exact h pins s σ H x xs v us Q I rx rs q
 ·exact h' pins s σ H x xs v us Q I rx rs q
theorem Pn{r:R2}(hr:qL X r)(ha:PE X a ta)(hb:PE X b tb)(hs:Dp b):PE X (.Subscript a b pos) (yI r ta tb):=by
 intro pins s σ H Q I h;exact Subscript_ (QB ha hb I h fun v u s2 x y H2 I2 rx ry q=>hr a b pins s2 σ H2 x y v u Q I2 rx ry q (hs _ _))
def WG(K:Frag):R2:=fun x y H Q=>∃p xs i v,x = .ref p∧y = .int i∧dO K H p xs∧bZ xs i=some v∧Q v H
def WD(K:Frag):R2:=fun x y H Q=>∃p xs i v,x = .ref p∧y = .int i∧dF K H p xs∧bZ xs i=some v∧Q v H
def WE:R2:=fun x y H Q=>∃z i c,x = .str z∧y = .int i∧z.length≤sizeLine∧bZ z.cps.toList i=some c∧Q (.str ⟨#[c]⟩) H
theorem Ub:qL X (WG X.K):=by
 intro value slice pins s σ H x y v u Q I rx ry h hs;obtain⟨p,xs,i,z,rfl,rfl,hq,he,q⟩:=h;cases rx;obtain⟨t,rfl⟩:=ry;obtain⟨aI,r,pl,hz⟩:=I.list hq;obtain⟨j,h1,h2,h3,h4,h5⟩:=QI he;obtain⟨w,ew,JA⟩:=r.get h2;have hl:=r.length;have hn:=zE;have fin:EP X pins σ Q w s:=⟨z,H,I,JA,q⟩
 by_cases h0:0≤i
 ·have hj:i.toNat=j:=by
   rw [seqIndex_of h0 h5]at h1;exact iL h1
  exact item_listR pl.isList h0 (by omega) (by rw [hj];simpa using ew) fin hs
 ·have hj:(i+(aI.toArray.size:Int)).toNat=j:=by
   rw [seqIndex_neg (by omega) h4]at h1;rw [dS,← hl];exact iL h1
  exact subscriptTail_builtinR (x:=w) pl.isList.typeIs slot_list_getitem.lookup
   (wpAny_getItem_list_neg (Q:=fun r s'=>r=w∧EP X pins σ Q r s') pl.isList (by omega) (by rw [dS] <;> omega) (by omega) (by rw [hj];simpa using ew) ⟨rfl,fin⟩) hs
theorem Tw:qL X (WD X.K):=by
 intro value slice pins s σ H x y v u Q I rx ry h hs;obtain⟨p,xs,i,z,rfl,rfl,hq,he,q⟩:=h;cases rx;obtain⟨t,rfl⟩:=ry;obtain⟨aI,r,pl,hz⟩:=I.tuple hq;obtain⟨j,h1,h2,h3,h4,h5⟩:=QI he;obtain⟨w,ew,JA⟩:=r.get h2;have hl:=r.length;have hn:=zE;have fin:EP X pins σ Q w s:=⟨z,H,I,JA,q⟩;exact subscriptTail_builtinR (x:=w) pl.typeIs slot_tuple_getitem.lookup
  (getItem_tuple (j:=j) (Q:=fun r s'=>r=w∧EP X pins σ Q r s') pl (by omega) (by omega) (by rw [dS,← hl];exact h1) (by simpa using ew) ⟨rfl,fin⟩) hs
theorem Tz:qL X WE:=by
 intro value slice pins s σ H x y v u Q I rx ry h hs;obtain⟨z,i,c,rfl,rfl,hz,he,q⟩:=h;obtain⟨t,rfl⟩:=rx;obtain⟨t',rfl⟩:=ry;obtain⟨j,h1,h2,h3,h4,h5⟩:=QI he;have hl:z.cps.toList.length=z.length:=by simp [Str.length]
 rw [hl]at h1 h4 h5;have hn:=zE;exact tail_any (typeIs_str s z t) slot_str_getitem.lookup (getItem_str (c:=c) (by
  have e1:decide (i < -(2 ^ 63:Int))=false:=lX (by omega);have e2:decide (i≥2 ^ 63)=false:=lX (by omega);rw [e1,e2,Bool.or_false]) (by rw [h1];simpa using h2) ⟨.str ⟨#[c]⟩,H,I.tok _,⟨_,rfl⟩,q⟩) hs
def Nu(K:Frag):R2:=fun x y H Q=>WG K x y H Q∨WD K x y H Q∨WE x y H Q
theorem Ua:qL X (Nu X.K):=Ub.or (Tw.or Tz)
theorem Sj(aI:List Value)(n j:Nat)(u:Value):Obj.mapSeq (·.setIfInBounds j u) { cls := .type "list",data := .seq aI.toArray n } = { cls := .type "list",data := .seq (aI.set j u).toArray n }:=by
 simp [Obj.mapSeq]
theorem Inv.lst{pins:List (Addr×Obj)}{σ:St}{H:Hp}{s:Shared}{p:Addr}{xs:List V}(I:Inv X pins σ H s)(h:H p=some (.lst xs)) :
  ∃(aI:List Value) (n:Nat),Vals xs aI∧s.heap.get? p=some { cls := .type "list",data := .seq aI.toArray n }∧xs.length≤sizeLine:=by
 obtain⟨z,aI,n,r,e⟩:=I.aK p _ h;exact⟨aI,n,r,e,z⟩
theorem Inv.Sq{pins:List (Addr×Obj)}{σ:St}{H:Hp}{s:Shared}{p:Addr}{xs ys:List V}{aI its':List Value}{n n':Nat}{f:Obj→Obj}(I:Inv X pins σ H s)(h:H p=some (.lst xs))
  (ho:s.heap.get? p=some { cls := .type "list",data := .seq aI.toArray n }) (hf:f { cls := .type "list",data := .seq aI.toArray n } = { cls := .type "list",data := .seq its'.toArray n' }) (r:Vals ys its') (hz:ys.length≤sizeLine) (t:Nat) :
  Inv X pins σ (upd H p (.lst ys)) { s with heap:=s.heap.update p f,toks:=t }:=by
 have e:(s.heap.update p f).get? p=some { cls := .type "list",data := .seq its'.toArray n' }:=by
  rw [Ep f ho (by rw [hf] <;> rfl),hf]
 refine I.write (x:=p) (e:=p) (by rw [h];trivial) (.inl rfl) (fun b u hb q=>(BJ _ _ (fT hb)).trans q) ⟨_,e⟩ ?_;exact⟨hz,its',n',r,e⟩
def Nt:V→V→V→Hp→(Hp→Prop)→Prop:=fun o i v H Q=>∃p xs k j,o = .ref p∧i = .int k∧H p=some (.lst xs)∧jE xs.length k=some j∧Q (upd H p (.lst (xs.set j v)))
theorem set_list:Dq X Nt:=by
 intro pins s σ H o i v ov iv u Q I ro ri rv h;obtain⟨p,xs,k,j,rfl,rfl,hp,hj,q⟩:=h;cases ro;obtain⟨t,rfl⟩:=ri;obtain⟨aI,n,r,ho,hz⟩:=I.lst hp;obtain⟨h1,h2,h3,h4⟩:=YG hj;have hl:=r.length;have hn:=zE;have I':Inv X pins σ (upd H p (.lst (xs.set j v))) { s with heap:=s.heap.update p (Obj.mapSeq (·.setIfInBounds j u)) } :=
  I.Sq hp ho (Sj aI n j u) (r.set rv j) (by rw [AY];exact hz) s.toks
 by_cases h0:0≤k
 ·have hk:k.toNat=j:=by
   rw [seqIndex_of h0 h4]at h1;exact iL h1
  exact PySem.W.ki_setAt ho h0 (by omega) (by rw [dS,← hl];exact h4) (by rw [hk];exact⟨_,I',q⟩)
 ·have hk:(k+(aI.toArray.size:Int)).toNat=j:=by
   rw [seqIndex_neg (by omega) h3]at h1;rw [dS,← hl];exact iL h1
  exact PySem.W.ki_setBack ho (by omega) (by rw [dS,← hl];exact h3) (by omega) (by rw [hk];exact⟨_,I',q⟩)
theorem Lz(lo hi:Option Int)(n:Nat):(sliceBounds lo hi none n).1=((HT.bC n 0 lo:Nat):Int)∧(sliceBounds lo hi none n).2.1=((HT.bC n n hi:Nat):Int)∧(sliceBounds lo hi none n).2.2=1:=by
 refine⟨?_,?_,rfl⟩
 ·cases lo with
  | none=>simp [sliceBounds,HT.bC]
  | some i =>
   simp only [sliceBounds,HT.bC,Option.getD_none,show(1:Int)>0 by decide,cR]
   by_cases h:i<0
   ·simp only [h,cR] <;> omega
   ·simp only [h,cK] <;> omega
 ·cases hi with
  | none=>simp [sliceBounds,HT.bC]
  | some i =>
   simp only [sliceBounds,HT.bC,Option.getD_none,show(1:Int)>0 by decide,cR]
   by_cases h:i<0
   ·simp only [h,cR] <;> omega
   ·simp only [h,cK] <;> omega
theorem Ma(aI:List Value)(lo hi:Option Int):slicePick aI.toArray lo hi none=((aI.drop (HT.bC aI.length 0 lo)).take (HT.bC aI.length aI.length hi - HT.bC aI.length 0 lo)).toArray:=by
 obtain⟨h1,h2,h3⟩:=Lz lo hi aI.toArray.size;unfold slicePick;rw [h1,h2,h3];simp only [sliceRange_one,pick_run,dS] <;> rfl
def Nr(K:Frag):V→Option Int→Option Int→Hp→VK→Prop:=fun x lo hi H Q=>∃a xs,x = .ref a∧dO K H a xs∧∀p,H p=none→Q (.ref p) (upd H p (.lst (rZ xs lo hi)))
theorem Md:uV X (Nr X.K):=by
 intro pins s σ H x v vl vu lo hi sl Q I rx hs pl pu h;obtain⟨a,xs,rfl,hx,q⟩:=h;cases rx;obtain⟨aI,r,ht,hz⟩:=I.list hx;have hlen:=r.length;refine⟨"list",_,slot_list_getitem.lookup,ht.isList.typeIs,?_⟩;refine wpAny_getItem_list_slice ht.isList hs pl pu .none (by simp) ?_ (by rw [dS] <;> omega);rw [Ma,← hlen];refine⟨.ref s.heap.objs.size,_,I.laid (t':=s.toks) (o := .lst (rZ xs lo hi)) (fun b ob q=>iZ _ q) cP ?_,rfl,q _ (I.aK.fresh cP)⟩;exact⟨qI (Bl xs lo hi) hz,_,0,(r.drop (HT.bC xs.length 0 lo)).take (HT.bC xs.length xs.length hi - HT.bC xs.length 0 lo),nS _ rfl⟩
theorem aa3:lF X (.builtin "len") (fun xs H Q=>∃p ys,xs=[.ref p]∧(dO X.K H p ys∨dF X.K H p ys)∧Q (.int ys.length) H):=by
 intro pins s σ H xs us Q I r h;obtain⟨p,ys,rfl,hq,q⟩:=h;obtain⟨u,rfl,rx⟩:=vals1 r;cases rx;have hn:=zE
 rcases hq with hq | hq
 ·obtain⟨aI,r',pl,hz⟩:=I.list hq;have hlen:=r'.length;exact Calls.call_len_list pl.isList (by simp only [dS] <;> omega) ⟨.int ys.length,H,I.tok _,⟨s.toks+1,by rw [dS,hlen]⟩,q⟩
 ·obtain⟨aI,r',pl,hz⟩:=I.tuple hq;have hlen:=r'.length;exact len_tuple pl (by simp only [dS] <;> omega) ⟨.int ys.length,H,I.tok _,⟨s.toks+1,by rw [dS,hlen]⟩,q⟩
theorem lF.or{f:Value}{r r':List V→Hp→VK→Prop}(h:lF X f r)(h':lF X f r'):lF X f (fun xs H Q=>r xs H Q∨r' xs H Q):=by
 intro pins s σ H xs us Q I rs q
 rcases q with q | q
 ·exact h pins s σ H xs us Q I rs q
 ·exact h' pins s σ H xs us Q I rs q
theorem aa2:lF X (.type "list") (fun xs H Q=>∃p ys,xs=[.ref p]∧(dO X.K H p ys∨dF X.K H p ys)∧∀l,H l=none→Q (.ref l) (upd H l (.lst ys))):=by
 intro pins s σ H xs us Q I r h;obtain⟨p,ys,rfl,hq,q⟩:=h;obtain⟨u,rfl,rx⟩:=vals1 r;cases rx;have fin:∀(aI:List Value),Vals ys aI→ys.length≤sizeLine→∀(h':Heap) (c':Nat),(∀b o',s.heap.get? b=some o'→h'.get? b=some o') →
   h'.get? s.heap.objs.size=some { cls := .type "list",dict:=none,data := .seq aI.toArray c',slots:=#[] }→EP X pins σ Q (.ref s.heap.objs.size) { s with heap:=h' }:=fun aI r' hz h' c' kp e =>
  ⟨.ref s.heap.objs.size,_,I.laid (t':=s.toks) kp cP (show fS X.prog X.w _ h' _ (.lst ys)from⟨hz,aI,c',r',e⟩),rfl,q _ (I.aK.fresh cP)⟩
 rcases hq with hq | hq
 ·obtain⟨aI,r',pl,hz⟩:=I.list hq;have hlen:=r'.length;obtain⟨o,ho,hc,n,hd⟩:=pl.isList;exact call_list_seq p (.inl rfl) ho hc hd (fun h' c' kp e=>fin aI r' hz h' c' kp e) (by simp only [dS] <;> omega)
 ·obtain⟨aI,r',pl,hz⟩:=I.tuple hq;have hlen:=r'.length;obtain⟨o,ho,hc,n,hd⟩:=pl;exact call_list_seq p (.inr rfl) ho hc hd (fun h' c' kp e=>fin aI r' hz h' c' kp e) (by simp only [dS] <;> omega)
def CH(K:Frag)(T:String)(x:V)(H:Hp):Prop:=match x with
 | .str _=>T = "str"
 | .int _=>T = "int"
 | .ref p=>(T = "list"∧∃xs,dO K H p xs)∨(T = "tuple"∧∃o,K.lookup p=some o∧o.cls = .type "tuple"∧o.dict=none) ∨
   (T = "dict"∧((∃aL,H p=some (.dK aL))∨∃aL,H p=some (.dT aL)))∨(T = "set"∧∃S n,H p=some (.set S n))
 | _=>False
theorem TV{pins:List (Addr×Obj)}{σ:St}{H:Hp}{s:Shared}{T:String}{x:V}{v:Value}(I:Inv X pins σ H s)(r:RelV x v)(ty:CH X.K T x H) :
  s.TypeIs v T∧∀a,v = .ref a→∃ob,s.heap.get? a=some ob∧ob.dict=none:=by
 cases x with
 | str z =>
  obtain⟨t,rfl⟩:=r;cases(show T = "str" from ty);exact⟨typeIs_str s z t,fun _ e=>nomatch e⟩
 | int i =>
  obtain⟨t,rfl⟩:=r;cases(show T = "int" from ty);exact⟨typeIs_int s i t,fun _ e=>nomatch e⟩
 | ref p =>
  cases r
  rcases ty with⟨rfl,xs,hq⟩ | ⟨rfl,o,hk,hc,hd⟩ | ⟨rfl,hk⟩ | ⟨rfl,S,n,hk⟩
  ·obtain⟨aI,_,pl,_⟩:=I.list hq;refine⟨pl.isList.typeIs,fun a e=>?_⟩;cases e;obtain⟨o,n,e,c,hd,_⟩:=pl;exact⟨o,e,hd⟩
  ·refine⟨⟨o,I.gT p o hk,hc⟩,fun a e=>?_⟩;cases e;exact⟨o,I.gT _ o hk,hd⟩
  ·have z:∃o,s.heap.get? p=some o∧o.ExactDict:=by
    rcases hk with⟨aL,hk⟩ | ⟨aL,hk⟩
    ·obtain⟨_,_,_,_,o,_,_,e,ex,_⟩:=I.aK p _ hk;exact⟨o,e,ex⟩
    ·obtain⟨_,_,_,_,o,_,_,e,ex,_⟩:=I.aK p _ hk;exact⟨o,e,ex⟩
   obtain⟨o,e,ex⟩:=z;refine⟨⟨o,e,ex.1⟩,fun a e2=>?_⟩;cases e2;exact⟨o,e,ex.2.1⟩
  ·obtain⟨o,_,_,_,e,ex,_⟩:=I.aK p _ hk;refine⟨⟨o,e,ex.1⟩,fun a e2=>?_⟩;cases e2;exact⟨o,e,ex.2.1⟩
 | _=>exact False.elim ty
def Il(K:Frag)(T:String)(r:V→List V→Hp→VK→Prop)(to:TE):TE:=fun σ H Q=>to σ H fun x H1=>CH K T x H1∧r x [] H1 Q
def Im(K:Frag)(T:String)(r:V→List V→Hp→VK→Prop)(to:TE)(t:TA):TE:=fun σ H Q=>to σ H fun x H1=>CH K T x H1∧t σ H1 fun xs H2=>r x xs H2 Q
variable{o e:Expr}{es:List Expr}{to:TE}{t:TA}{name:Str}{apos gK:Pos}{T id:String}{r:V→List V→Hp→VK→Prop}
theorem Py(pa:PlainAttrs T)(slot:Slot T name id)(tP:typeOf (.builtin id)=pure (.type "method_descriptor"))(hm:sH X id r)(ho:PE X o to)
  (uB:attributeBase o name X.env (eval o X.env)=eval o X.env:=by rfl) (tV:(apos.endLine == gK.line)=true:=by rfl):PE X (.Call (.Attribute o name apos) [] [] gK) (Il X.K T r to):=by
 intro pins s σ H Q I h;refine wpAny_Call_method0_late uB tV (bE (ho pins s σ H _ I h) fun v s1 ⟨x,H1,I1,r1,ty,q1⟩=>?_);obtain⟨h1,h2⟩:=TV I1 r1 ty;exact⟨T,id,pa,slot,tP,h1,h2,Calls.callWith_builtin rfl (PySem.evalArgs_none (hm pins s1 σ H1 x [] v [] Q I1 r1 .nil q1))⟩
theorem Pz(pa:PlainAttrs T)(slot:Slot T name id)(tP:typeOf (.builtin id)=pure (.type "method_descriptor"))(hm:sH X id r)(ho:PE X o to)(ha:PA X (e::es) t)
  (uB:attributeBase o name X.env (eval o X.env)=eval o X.env:=by rfl)
  (NI:((backTo gK (starEach (e::es) X.env)).all (fun x=>!x.1)&&(backToKw gK (keywordEach [] X.env)).all (fun x=>x.1.isSome)
   && decide ((e::es).length+([]:List Keyword).length+(if([]:List Keyword).isEmpty then 0 else 1)<30))=true:=by rfl)
  (tV:(apos.endLine == gK.line)=true:=by rfl) (hs:starEach (e::es) X.env=(false,eval e X.env)::starEach es X.env:=by rfl) (MP:(backTo gK (starEach es X.env)).any (·.1)=false:=by rfl) :
  PE X (.Call (.Attribute o name apos) (e::es) [] gK) (Im X.K T r to t):=by
 intro pins s σ H Q I h;refine wpAny_Call_method_late uB NI tV rfl (bE (ho pins s σ H _ I h) fun v s1 ⟨x,H1,I1,r1,ty,q1⟩=>?_);obtain⟨h1,h2⟩:=TV I1 r1 ty;refine⟨T,id,pa,slot,tP,h1,h2,?_⟩;have hA:=ha gK pins s1 σ H1 _ I1 q1;rw [hs]at hA ⊢;refine Calls.callWith_builtin (by show(false||(backTo gK (starEach es X.env)).any (·.1))=false;rw [MP] <;> rfl) (Calls.evalArgs_plain ?_);exact bE hA fun us s2 ⟨vs,H2,I2,r2,q2⟩=>hm pins s2 σ H2 x vs v us Q I2 r1 r2 q2
end
def QW(X:Cx)(id:String)(r:V→List V→Hp→VK→Prop):Prop :=
 ∀(pins:List (Addr×Obj)) (s:Shared) (σ:St) (H:Hp) (x:V) (xs:List V) (v:Value) (us:List Value) (Q:VK),Inv X pins σ H s→RelV x v→Vals xs us→r x xs H Q →
  wpAny (model X.prog X.w) X.A (call (.builtin id) (v::us)) (EP X pins σ Q) X.xe s
theorem Vals.one:∀{x:V} {us:List Value},Vals [x] us→∃u,us=[u]∧RelV x u
 | _,_,.cons r .nil=>⟨_,rfl,r⟩
theorem Vals.two:∀{x y:V} {us:List Value},Vals [x,y] us→∃u v,us=[u,v]∧RelV x u∧RelV y v
 | _,_,_,.cons r (.cons q .nil)=>⟨_,_,rfl,r,q⟩
theorem Vals.zero:∀{us:List Value},Vals [] us→us=[]
 | _,.nil=>rfl
theorem Vals.dropLast{xs:List V}{us:List Value}(h:Vals xs us):Vals xs.dropLast us.dropLast:=by
 induction h with
 | nil=>exact .nil
 | cons r t ih =>
  cases t with
  | nil=>exact .nil
  | cons q t'=>exact .cons r ih
theorem Zk{α:Type}(l:List α):l.eraseIdx (l.length - 1)=l.dropLast:=by
 induction l with
 | nil=>rfl
 | cons a r ih =>
  cases r with
  | nil=>rfl
  | cons b r =>
   have e:(a::b::r).length - 1=((b::r).length - 1)+1:=by
    have h1:(a::b::r).length=r.length+2:=rfl;have h2:(b::r).length=r.length+1:=rfl;omega
   rw [e,List.eraseIdx_cons_succ,ih]
   all_goals rfl
section
variable{X:Cx}{pins:List (Addr×Obj)}{σ:St}{H:Hp}{s:Shared}{l b:Addr}{xs ys zs:List V}
theorem Inv.DU{aI its':List Value}{n:Nat}{f:Array Value→Array Value}{t':Nat}(I:Inv X pins σ H s)(hH:H l=some (.lst xs))
  (e:s.heap.get? l=some { cls := .type "list",data := .seq aI.toArray n }) (hf:f aI.toArray=its'.toArray) (hv:Vals ys its') (hz:ys.length≤sizeLine) :
  Inv X pins σ (upd H l (.lst ys)) { s with heap:=s.heap.update l (Obj.mapSeq f),toks:=t' }:=by
 have q:=PySem.IsL.update e f;rw [hf]at q;refine I.write (x:=l) (e:=l) (by rw [hH];exact trivial) (.inl rfl) (fun b' u hb hu=>(BJ s.heap (Obj.mapSeq f) (fT hb)).trans hu) ⟨_,q⟩ ?_;exact⟨hz,its',_,hv,q⟩
theorem Inv.Sv{aI:List Value}{t':Nat}(I:Inv X pins σ H s)(hv:Vals ys aI)(hz:ys.length≤sizeLine) :
  Inv X pins σ (upd H s.heap.objs.size (.lst ys)) { s with heap:=s.heap.push { cls := .type "list",data := .seq aI.toArray },toks:=t' } :=
 I.laid (fun _ _ q=>iZ _ q) cP ⟨hz,aI,0,hv,nS _ rfl⟩
theorem Inv.fresh(I:Inv X pins σ H s):H s.heap.objs.size=none:=I.aK.fresh cP
theorem Inv.vZ(I:Inv X pins σ H s)(hH:H l=some (.lst xs)):xs.length≤sizeLine∧∃(aI:List Value) (n:Nat),Vals xs aI∧xs.length=aI.length∧s.heap.get? l=some { cls := .type "list",data := .seq aI.toArray n }:=by
 obtain⟨z,aI,n,r,e⟩:=I.aK l _ hH;exact⟨z,aI,n,r,r.length,e⟩
end
section
variable{X:Cx}
def WJ:V→List V→Hp→VK→Prop:=fun x vs H Q=>∃l xs y,x = .ref l∧vs=[y]∧H l=some (.lst xs)∧xs.length<sizeLine∧Q .bS (upd H l (.lst (xs++[y])))
theorem rC:QW X "list.append" WJ:=by
 intro pins s σ H x vs v us Q I rx rv h;obtain⟨l,xs,y,rfl,rfl,hH,hz,q⟩:=h;cases rx;obtain⟨u,rfl,ru⟩:=rv.one;obtain⟨z,aI,n,r,hl,e⟩:=I.vZ hH;refine call_meets F.slot_list_append ⟨_,e,rfl⟩ F.entry_list_append (F.args_list_append_2 _ _) (PySem.list_append l aI.toArray n u (by rw [dS];omega)) ⟨e,?_⟩;refine⟨.bS,_,I.DU (its':=aI++[u]) hH e (by simp) (r.append (.cons ru .nil)) ?_,rfl,q⟩;rw [fG,List.length_singleton];omega
def WC:V→List V→Hp→VK→Prop:=fun x vs H Q=>∃l xs y,x = .ref l∧vs=[]∧H l=some (.lst xs)∧xs[xs.length - 1]? = some y∧Q y (upd H l (.lst xs.dropLast))
theorem XF:QW X "list.pop" WC:=by
 intro pins s σ H x vs v us Q I rx rv h;obtain⟨l,xs,y,rfl,rfl,hH,hy,q⟩:=h;cases rx;have MK:=rv.zero;subst MK;obtain⟨z,aI,n,r,hl,e⟩:=I.vZ hH;obtain⟨u,hu,ru⟩:=r.get hy;have zK:aI.toArray[aI.toArray.size - 1]? = some u:=by
  show aI.toArray[aI.length - 1]? = some u;rw [← jA,← hl];exact hu
 refine call_meets F.slot_list_pop ⟨_,e,rfl⟩ F.entry_list_pop (F.args_list_pop_1 _) (MeetsSeq.list_pop_last l aI.toArray n u zK (by rw [dS];omega)) ⟨e,?_⟩;refine⟨y,_,I.DU (its':=aI.dropLast) hH e ?_ r.dropLast ?_,ru,q⟩
 ·show aI.toArray.eraseIdxIfInBounds (aI.toArray.size - 1)=aI.dropLast.toArray;rw [dS,List.eraseIdxIfInBounds_toArray,Zk]
 ·rw [List.length_dropLast];omega
def WH:V→List V→Hp→VK→Prop:=fun x vs H Q=>∃l xs,x = .ref l∧vs=[]∧H l=some (.lst xs)∧Q .bS (upd H l (.lst []))
theorem Rv:QW X "list.clear" WH:=by
 intro pins s σ H x vs v us Q I rx rv h;obtain⟨l,xs,rfl,rfl,hH,q⟩:=h;cases rx;have MK:=rv.zero;subst MK;obtain⟨z,aI,n,r,hl,e⟩:=I.vZ hH;refine call_meets F.slot_list_clear ⟨_,e,rfl⟩ F.entry_list_clear (F.args_list_clear_1 _) (AutoSeq1.list_clear_list_0 l aI.toArray n (by rw [dS];omega)) ⟨e,?_⟩;exact⟨.bS,_,I.DU (its':=[]) (ys:=[]) hH e rfl .nil vX,rfl,q⟩
def WI:R2:=fun x y H Q=>∃l b xs zs,x = .ref l∧y = .ref b∧H l=some (.lst xs)∧H b=some (.lst zs)∧xs.length+zs.length≤sizeLine∧∀p,H p=none→Q (.ref p) (upd H p (.lst (xs++zs)))
theorem Qx:eT X (binaryOp .Add) WI:=by
 intro pins s σ H x y v u Q I rx ry h;obtain⟨l,b,xs,zs,rfl,rfl,hH,hB,hz,q⟩:=h;cases rx;cases ry;obtain⟨z,aI,n,r,hl,e⟩:=I.vZ hH;obtain⟨z2,MD,n2,r2,nJ,e2⟩:=I.vZ hB;refine PySem.P.add_list e e2 ?_ (by rw [dS,dS];omega);have ea:aI.toArray++MD.toArray=(aI++MD).toArray:=by simp
 rw [ea];exact⟨.ref _,_,I.Sv (t':=s.toks) (r.append r2) (by rw [fG];omega),rfl,q _ I.fresh⟩
end
section
variable{κ:Type} [DecidableEq κ]
def nE(aL:List (κ×V))(k:κ):Option V:=(aL.find? fun kv=>decide (kv.1=k)).map (·.2)
def putK(aL:List (κ×V))(k:κ)(v:V):List (κ×V) :=
 if(aL.any fun kv=>decide (kv.1=k))=true then aL.map (fun kv=>if kv.1=k then(kv.1,v)else kv)else aL++[(k,v)]
def Be(aL:List (κ×V))(k:κ):List (κ×V):=aL.filter fun kv=>decide (kv.1≠k)
theorem TL{p:κ×V}{r:List (κ×V)}{k:κ}(e:p.1=k):nE (p::r) k=some p.2:=by simp [nE,BA,e]
theorem TM{p:κ×V}{r:List (κ×V)}{k:κ}(e:¬p.1=k):nE (p::r) k=nE r k:=by simp [nE,BA,e]
theorem uW.getD{o:Option V}{u:Option Value}{d:V}{d':Value}(r:uW o u)(rd:RelV d d'):RelV (o.getD d) (u.getD d'):=by
 cases o with
 | none=>cases u with
  | none=>exact rd
  | some _=>exact(show False from r).elim
 | some _=>cases u with
  | none=>exact(show False from r).elim
  | some _=>exact r
theorem KV.val{aL:List (κ×V)}{vs:List (κ×Value)}(r:KV aL vs)(k:κ):uW (nE aL k) (valueAt vs k):=by
 unfold KV at r
 induction r with
 | nil=>exact True.intro
 | @cons p q ps qs h t ih =>
  obtain⟨h1,h2⟩:=h
  by_cases e:p.1=k
  ·have e':q.1=k:=h1.symm.trans e;have b:valueAt (q::qs) k=some q.2:=by simp [valueAt,BA,e']
   rw [TL e,b];exact h2
  ·have e':¬q.1=k:=fun z=>e (h1.trans z);have b:valueAt (q::qs) k=valueAt qs k:=by simp [valueAt,BA,e']
   rw [TM e,b];exact ih
theorem KV.any{aL:List (κ×V)}{vs:List (κ×Value)}(r:KV aL vs)(k:κ):(aL.any fun kv=>decide (kv.1=k))=vs.any fun kv=>decide (kv.1=k):=by
 unfold KV at r
 induction r with
 | nil=>rfl
 | cons h t ih=>rw [List.any_cons,List.any_cons,ih,h.1]
theorem KV.drop{aL:List (κ×V)}{vs:List (κ×Value)}(r:KV aL vs)(k:κ):KV (Be aL k) (without vs k):=by
 unfold KV at r ⊢;unfold Be without
 induction r with
 | nil=>exact .nil
 | @cons p q ps qs h t ih =>
  obtain⟨h1,h2⟩:=h;rw [List.filter_cons,List.filter_cons]
  by_cases e:p.1=k
  ·have a:¬decide (p.1≠k)=true:=by simp [e]
   have b:¬decide (q.1≠k)=true:=by simp [h1.symm.trans e]
   rw [if_neg a,if_neg b];exact ih
  ·have e':¬q.1=k:=fun z=>e (h1.trans z);have a:decide (p.1≠k)=true:=by simp [e]
   have b:decide (q.1≠k)=true:=by simp [e']
   rw [if_pos a,if_pos b];exact .cons ⟨h1,h2⟩ ih
theorem KV.keys{aL:List (κ×V)}{vs:List (κ×Value)}(r:KV aL vs):aL.map (·.1)=vs.map (·.1):=by
 unfold KV at r
 induction r with
 | nil=>rfl
 | cons h t ih=>rw [gM,gM,ih,h.1]
theorem KV.length{aL:List (κ×V)}{vs:List (κ×Value)}(r:KV aL vs):aL.length=vs.length:=Paired.length r
end
abbrev KT(H:Hp):List (List Key×V)→List (List Key×Addr×Value)→Prop:=Paired fun p q=>p.1=q.1∧H q.2.1=some (.tup (p.1.map kV))∧RelV p.2 q.2.2
theorem KT.val{H:Hp}{aL:List (List Key×V)}{xs:List (List Key×Addr×Value)}(r:KT H aL xs)(k:List Key):uW (nE aL k) ((atKey xs k).map (·.2)):=by
 induction r with
 | nil=>exact True.intro
 | @cons p q ps qs h t ih =>
  obtain⟨h1,_,h2⟩:=h
  by_cases e:p.1=k
  ·have e':q.1=k:=h1.symm.trans e;have b:atKey (q::qs) k=some q.2:=by simp [atKey,BA,e']
   rw [TL e,b];exact h2
  ·have e':¬q.1=k:=fun z=>e (h1.trans z);have b:atKey (q::qs) k=atKey qs k:=by simp [atKey,BA,e']
   rw [TM e,b];exact ih
theorem KT.keeps{H H':Hp}{aL:List (List Key×V)}{xs:List (List Key×Addr×Value)}(r:KT H aL xs)(ht:∀b ys,H b=some (.tup ys)→H' b=some (.tup ys)):KT H' aL xs :=
 Paired.tN r fun _ _ z=>⟨z.1,ht _ _ z.2.1,z.2.2⟩
def GX(H:Hp)(a:Addr)(y:V)(r:Option V):Prop :=
 (∃aL k,Rd H a (.dK aL)∧y=kV k∧r=nE aL k)∨∃aL k b,Rd H a (.dT aL)∧y = .ref b∧H b=some (.tup (k.map kV))∧r=nE aL k
def GW(H:Hp)(a:Addr)(y v:V)(H':Hp):Prop :=
 (∃aL k,H a=some (.dK aL)∧y=kV k∧aL.length<sizeLine∧H'=upd H a (.dK (putK aL k v))) ∨
 ∃aL k b,H a=some (.dT aL)∧y = .ref b∧H b=some (.tup (k.map kV))∧aL.length<sizeLine∧H'=upd H a (.dT (putK aL k v))
theorem GX.k{H:Hp}{a:Addr}{aL:List (Key×V)}{k:Key}(e:H a=some (.dK aL)):GX H a (kV k) (nE aL k) := .inl ⟨aL,k,.inl e,rfl,rfl⟩
theorem GX.t{H:Hp}{a b:Addr}{aL:List (List Key×V)}{k:List Key}(e:H a=some (.dT aL))(eb:H b=some (.tup (k.map kV))):GX H a (.ref b) (nE aL k) := .inr ⟨aL,k,b,.inl e,rfl,eb,rfl⟩
theorem GW.k{H:Hp}{a:Addr}{aL:List (Key×V)}{k:Key}{v:V}(e:H a=some (.dK aL))(hl:aL.length<sizeLine):GW H a (kV k) v (upd H a (.dK (putK aL k v))) := .inl ⟨aL,k,e,rfl,hl,rfl⟩
theorem GW.t{H:Hp}{a b:Addr}{aL:List (List Key×V)}{k:List Key}{v:V}(e:H a=some (.dT aL))(eb:H b=some (.tup (k.map kV)))(hl:aL.length<sizeLine) :
  GW H a (.ref b) v (upd H a (.dT (putK aL k v))) := .inr ⟨aL,k,b,e,rfl,eb,hl,rfl⟩
structure M1(X:Cx)(o:Expr)(m:Str)(apos:Pos)(e:Expr)(gK:Pos):Prop where
 base:attributeBase o m X.env (eval o X.env)=eval o X.env
 Zc:((backTo gK (starEach [e] X.env)).all (fun x=>!x.1)&&(backToKw gK (keywordEach [] X.env)).all (fun x=>x.1.isSome)
  && decide (([e]:List Expr).length+([]:List Keyword).length+(if([]:List Keyword).isEmpty then 0 else 1)<30))=true
 line:(apos.endLine == gK.line)=true
 trees:backTo gK (starEach [e] X.env)=[(false,eval e X.env)]
structure M2(X:Cx)(o:Expr)(m:Str)(apos:Pos)(e f:Expr)(gK:Pos):Prop where
 base:attributeBase o m X.env (eval o X.env)=eval o X.env
 Zc:((backTo gK (starEach [e,f] X.env)).all (fun x=>!x.1)&&(backToKw gK (keywordEach [] X.env)).all (fun x=>x.1.isSome)
  && decide (([e,f]:List Expr).length+([]:List Keyword).length+(if([]:List Keyword).isEmpty then 0 else 1)<30))=true
 line:(apos.endLine == gK.line)=true
 trees:backTo gK (starEach [e,f] X.env)=[(false,eval e X.env),(false,eval f X.env)]
end L2
namespace Fc
open PySem PySem.W PySem.Calls PyProof.Rows
theorem Uj{P:Params}{h:Heap}:∀(ns:List Int) (vs:List Value),WellAll P h vs (ns.map WData.int)→IntsAre vs ns:=by
 intro ns
 induction ns with
 | nil =>
  intro vs w;rw [qJ]at w;cases w;exact .nil
 | cons n ns ih =>
  intro vs w;rw [gM]at w;cases w with
  | cons a b =>
   cases a;exact .cons _ _ (ih _ b)
theorem Mt{l:OpenLaw}{n:Nat}(hn:l.most=some n){P:Params}{h:Heap}{args:List WData}{vals:List Value}
  (EG:l.row.toRowW.claim.pre args=true) (MJ:WellAll P h vals args) :
  ∃a vs ns,vals=[Value.ref a]∧args=[WData.list (ns.map WData.int)]∧h.get? a=some { cls := .type "list",data := .seq vs.toArray }∧IntsAre vs ns∧ns.length≤n:=by
 have Vg:WShape.hasAll [] args [.list .int]=true:=(pre_splitW EG).1;have hc:l.pre.holds [] { args:=args }=true:=(pre_splitW EG).2;obtain⟨d,r,rfl,h1,h2⟩:=hasAllW_cons Vg;obtain rfl:=hasAllW_nil h2;obtain⟨xs,rfl,h3⟩:=hasW_list h1;obtain⟨ns,rfl⟩:=items_int h3;have hlen:ns.length≤n:=by
  unfold OpenLaw.pre at hc;have h4:(WTm.not (.lt (.lit (.int (n:Int))) (.len (.arg 0)))).holds [] { args:=[.list (ns.map .int)] }=true:=by
   have h4:=(holds_andW hc).1;rw [hn]at h4;exact h4
  have h5:=condW_of h4 (w_not (w_lt w_lit (w_len_list (w_arg rfl))));rw [hJ]at h5;refine QV fun q=>?_;have q':(n:Int)<((ns.length:Nat):Int):=by omega
  first
   | (rw [qD q']at h5;exact absurd h5 (by decide))
   | (simp at h5;omega)
 cases MJ with
 | cons w1 w2 =>
  cases w2;cases w1 with
  | list ho uC=>exact⟨_,_,ns,rfl,rfl,ho,Uj ns _ uC,hlen⟩
theorem Ol(l:OpenLaw)(args:List WData):l.row.toRowW.claim.post args (.bool true) args=true :=
 postW_of (r:=l.row.toRowW) (X:=(true == true))
  (show WShape.has [] (.bool true) .bool=true by first | rfl | decide | simp [WShape.has,WShape.arms,WShape.armsAll])
  (show(WTm.eq .res (.lit (.bool true))).value [] { args:=args,res:=some (.bool true),after:=args }=some (.bool (true == true))from w_eq_bool (w_res rfl) w_lit) rfl
theorem abF{l:OpenLaw}{n:Nat}{q:Program}{loose:List Str}{XP:(Str→Option Value)→Heap→Prop}{YP:World→Heap→Prop}{d:DefRec}
  (hn:l.most=some n) (zV:d.params.defaults=[])
  (call:∀(w:World) (s₀ s₁:Shared) (mg mb:Str→Option Value) (fa:Addr) (o:Obj) (pm cd doc:Value) (a:Addr) (vs:List Value) (ns:List Int),
   Ground q loose [] XP w s₀ mg mb s₁.heap→YP w s₁.heap →
   s₁.heap.get? fa=some o→o.data = .func (docDef d.name d.params d.body d.scope pm cd doc)→s₁.heap.CodeRec cd d.name→mg d.name=some (.ref fa) →
   s₁.heap.get? a=some { cls := .type "list",data := .seq vs.toArray }→IntsAre vs ns→ns.length≤n→s₁.gens = #[] →
   codeAny (model l.prog w) callerA (.call (.ref fa) ⟨[.ref a],[]⟩) (fun r s'=>r = .ok (.ret (.bool true))∧OldK s₁.heap s'.heap∧s'.os=s₁.os∧AllBare s'.gens) s₁) :
  WalkO q loose XP YP l.row.toRowW d [] (fun f vs=>PySem.call f vs):=by
 intro w s₀ s₁ mg mb G Y fa o pm cd doc dV kV ho hd gW hD rH hg args vals as EG ad9 hrd MJ eP;obtain rfl:dV = .none:=Dflts.none hD zV;obtain rfl:kV = .none:=Dflts.noKw hD;obtain⟨a,vs,ns,rfl,rfl,MR,hints,hlen⟩:=Mt hn EG MJ;refine enter_call (FK (call w s₀ s₁ mg mb fa o pm cd doc a vs ns G Y ho (fd_plain hd) gW rH MR hints hlen hg) fun r s' hq=>?_);obtain⟨rfl,h2,h3,h4⟩:=hq;exact⟨.inl ⟨.bool true,.bool true,[],rfl,fun _=>rfl,.bool true,Ol l _,fun _=>⟨List.Pairwise.nil,fun _ hm=>(nomatch hm)⟩⟩,h2,h3,h4⟩
section
variable{prog:Program}{w:World}{A:Around}{E:Value→Shared→Prop}{s:Shared}{K:Frag}
def ledger(h:Heap)(L d:Addr):List (Addr×Obj):=(List.range h.objs.size).filterMap fun a=>if a=L∨a=d then none else(h.get? a).map fun o=>(a,o)
end
end Fc
namespace L2
open PySem PySem.Spec PyProof.Rows
theorem TJ:∀{vs:List Value} {ns:List Int},IntsAre vs ns→Vals (ns.map V.int) vs
 | _,_,.nil => .nil
 | _,_,.cons n t h => .cons ⟨t,rfl⟩ (TJ h)
def QS(H:Hp):Prop:=∀b,H b=none∨∃o xs,H b=some (.fP o (.lst xs))
theorem Th{P:Program}{w:World}{K:Frag}{mg mb:Str→Option Value}{CX:lG}{k:Nat}{fa a:Addr}{fd:FuncData}{x:Str}{sp:Sp}{s₁:Shared}{vs:List Value}{ns:List Int}
  (KX:K.In s₁.heap) (tS:s₁.heap.Ns mainGlobals mg) (hb:s₁.heap.Ns builtinsNs mb) (Wx:∀x:Str,x ≠ "__name__"→mb x=bootBuiltins x) (Vu:s₁.heap.NoLimit) (hg:s₁.gens = #[])
  (ha:s₁.heap.get? a=some { cls := .type "list",data := .seq vs.toArray }) (hi:IntsAre vs ns) (hl:ns.length≤sizeLine) (hr:cW k callerA)
  (F:∀base:Heap,K.In base→base.Ns mainGlobals mg→fD P w K mg base CX k fa fd [x] sp) (Ww:∀(s:Shared) (u:Value),BindsTo s fd ⟨[u],[]⟩ [(x,u)])
  (iH:∀H:Hp,QS H→dO K H a (ns.map V.int)→sp [.ref a] H (fun v _=>v = .bl true) fun _ _ _=>False)
  (NN:∀H e s',CX [] H s₁ (fun _ _ _=>False) e s'→False) :
  codeAny (model P w) callerA (.call (.ref fa) ⟨[.ref a],[]⟩) (fun r s'=>r = .ok (.ret (.bool true))∧OldK s₁.heap s'.heap∧s'.os=s₁.os∧AllBare s'.gens) s₁:=by
 have rv:=TJ hi;have Ta:=hi.length;have core:∀H:Hp,QS H→dO K H a (ns.map V.int)→eL P w H s₁.heap→(∀b,H b≠none→b=a)→(H a≠none→K.lookup a=none) →
   codeAny (model P w) callerA (.call (.ref fa) ⟨[.ref a],[]⟩) (fun r s'=>r = .ok (.ret (.bool true))∧OldK s₁.heap s'.heap∧s'.os=s₁.os∧AllBare s'.gens) s₁:=by
  intro H hO hS aK hA hK;have Cd:∀{b:Addr} {o:Obj},s₁.heap.get? b=some o→H b=none→(pW s₁.heap H).get? b=some o:=fun e n=>We e n;have yU:∀{b:Addr} {o:Obj} {es:Array DictEntry} {ep:Nat},s₁.heap.get? b=some o→o.data = .dict es ep→H b=none:=fun{b o es ep} e d=>by
   cases q:H b with
   | none=>rfl
   | some u =>
    have e':b=a:=hA b (by rw [q];simp);subst e';rw [ha]at e;cases e;have d':Data.seq vs.toArray _=Data.dict es ep:=d;cases d'
  have DP:∀{b:Addr} {m:Str→Option Value},s₁.heap.Ns b m→(pW s₁.heap H).Ns b m:=fun{b m} ⟨o,es,ep,e,d,r⟩=>⟨o,es,ep,Cd e (yU e d),d,r⟩
  have ZV:K.In (pW s₁.heap H):=fun b o e=>Cd (KX b o e) (by
   cases q:H b with
   | none=>rfl
   | some u =>
    have e':b=a:=hA b (by rw [q];simp);subst e';rw [hK (by rw [q];simp)]at e;cases e)
  have hM:Mod K mg (pW s₁.heap H):=⟨ZV,DP tS,⟨mb,DP hb,Wx⟩,let ⟨mc,h1,h2⟩:=Vu; ⟨mc,DP h1,h2⟩⟩;have e0:vH P w K mg (pW s₁.heap H) callerA [] s₁ H:=⟨rfl,hM,fun b o e=>Rc e,Nat.le_of_eq (Wc _ _),trivial,fun b hb=>absurd (show b∈([]:List Addr)from hb) (by simp),aK,.of_eq hg⟩;refine FK ((F _ ZV (DP tS)).run callerA [] s₁ H ⟨[.ref a],[]⟩ [.ref a] [.ref a] _ _ hr e0 (Ww s₁ (.ref a)) (.cons rfl .nil) (iH H hO hS)) fun r s' h=>?_;cases r with
  | error e=>exact(NN H e s' h).elim
  | ok fl =>
   cases fl with
   | next=>exact False.elim h
   | brk=>exact False.elim h
   | cont=>exact False.elim h
   | ret u =>
    obtain⟨v,H',os,bare,un,MQ,r',q⟩:=h;have q':v = .bl true:=q;subst q';obtain rfl:u=Value.bool true:=r';refine⟨rfl,OldK.of_keep fun b o e=>?_,os,bare⟩;cases q:H b with
    | none=>exact un.keep b o e q (by intro z;exact absurd (show b∈([]:List Addr)from z) (by simp)) (by simp)
    | some u =>
     rcases hO b with z | ⟨ob,xs,z⟩
     ·rw [q]at z;cases z
     ·have z2:=un.kC b ob _ z;obtain⟨e1,_⟩:=aK b _ z;obtain⟨e2,_⟩:=MQ b _ z2;rw [e]at e1;cases e1;exact e2
 cases hk:K.lookup a with
 | some o =>
  have e:=KX a o hk;rw [ha]at e;cases e;refine core (fun _=>none) (fun _ => .inl rfl) (.inr ⟨_,vs.toArray,_,hk,rfl,rfl,rfl,by rw [dS,Ta];exact hl,by simpa using rv⟩) (fun b u z=>by have z':(none:Option HO)=some u:=z;cases z') (fun b z=>absurd rfl z) fun z=>absurd rfl z
 | none =>
  refine core (fun b=>if b=a then some (.fP { cls := .type "list",data := .seq vs.toArray } (.lst (ns.map V.int)))else none) (fun b=>?_) (.inl (.inr ⟨{ cls := .type "list",data := .seq vs.toArray },if_pos rfl⟩)) (fun b u z=>?_) (fun b z=>?_) fun _=>hk
  ·by_cases hb:b=a
   ·exact .inr ⟨_,_,if_pos hb⟩
   ·exact .inl (if_neg hb)
  ·by_cases hb:b=a
   ·have z':=(if_pos hb).symm.trans z;cases z';subst hb;exact⟨ha,by rw [hJ];exact hl,vs,_,rv,ha⟩
   ·have z':=(if_neg hb).symm.trans z;cases z'
  ·by_cases hb:b=a
   ·exact hb
   ·exact absurd (if_neg hb) z
theorem Ge{l:OpenLaw}{n k:Nat}{q:Program}{loose:List Str}{XP:(Str→Option Value)→Heap→Prop}{YP:World→Heap→Prop}{d:DefRec}{K:Params→Frag}{CX:World→lG}{sp:World→Sp}{x:Str}
  (hn:l.most=some n) (zP:n≤sizeLine) (zV:d.params.defaults=[]) (hr:cW k callerA)
  (hY:∀(w:World) (h:Heap),YP w h→(K w.params).In h)
  (F:∀(w:World) (mg:Str→Option Value) (fa:Addr) (h:Heap),(K w.params).In h→h.Ns mainGlobals mg→mg d.name=some (.ref fa) →
   ∃fd:FuncData,(∀(s:Shared) (u:Value),BindsTo s fd ⟨[u],[]⟩ [(x,u)]) ∧
    ∀base:Heap,(K w.params).In base→base.Ns mainGlobals mg→fD l.prog w (K w.params) mg base (CX w) k fa fd [x] (sp w))
  (iH:∀(w:World) (H:Hp) (a:Addr) (ns:List Int),ns.length≤n→QS H→dO (K w.params) H a (ns.map V.int)→sp w [.ref a] H (fun v _=>v = .bl true) fun _ _ _=>False)
  (NN:∀(w:World) (H:Hp) (s:Shared) (e:Value) (s':Shared),CX w [] H s (fun _ _ _=>False) e s'→False) :
  PySem.W.WalkO q loose XP YP l.row.toRowW d [] (fun f vs=>PySem.call f vs):=by
 refine Fc.abF hn zV fun w s₀ s₁ mg mb fa o pm cd doc a vs ns G Y ho hd gW rH MR hints hlen hg=>?_;have KX:=hY w _ Y;obtain⟨fd,hb,hF⟩:=F w mg fa _ KX G.T.g rH;exact Th KX G.T.g G.T.b G.T.builtins G.T.nolimit hg MR hints (qI hlen zP) hr hF hb (fun H hO hS=>iH w H a ns hlen hO hS) fun H e s'=>NN w H s₁ e s'
def kF(s:Stmt):Arguments:=match s with
 | .FunctionDef _ a _ _ _ _ _ _ _ _=>a
 | _=>{ posonlyargs:=[],args:=[],vararg:=none,kwonlyargs:=[],kw_defaults:=[],kwarg:=none,defaults:=[] }
def eR(s:Stmt):List Stmt:=match s with
 | .FunctionDef _ _ b _ _ _ _ _ _ _=>b
 | _=>[]
def aY(s:Stmt):Scope:=match s with
 | .FunctionDef _ _ _ _ _ _ sc _ _ _=>sc
 | _=>{ kind := .function,names:=[],isGenerator:=false,isCoroutine:=false }
abbrev qP:lG:=fun _ _ _ _ _ _=>False
structure lD(K:Frag)(x qual:Str)(st:Stmt)(f:Addr)(fd:FuncData):Prop where
 ex:∃(oc:Value) (od:Option Addr) (kV doc pm:Value) (an:Option Addr) (aV ct:Value) (jU:Array (Option Value)),
  fd=fnOf x qual (kF st) (eR st) (aY st) .none kV doc pm an aV ct∧K.lookup f=some ⟨oc,od,.func fd,jU⟩∧codeIn K aV qual=true
 kp:keepIn K (.ref f)=true
section
variable{P:Program}{w:World}{K:Frag}{mg:Str→Option Value}{base:Heap}
theorem lD.ok{x qual:Str}{st:Stmt}{f:Addr}{fd:FuncData}{N ps:List Str}{k:Nat}{sp:Sp}(F:lD K x qual st f fd)(S:dM N ps (aY st))(len:∀vs H Q E,sp vs H Q E→vs.length=ps.length)
  (gX:∀(aV:Value) (A:Around) (outer:List Env) (s:Shared) (H:Hp) (vs:List V) (Q:VK) (E:XK),cW k (A.deeper (envOfC qual (aY st) s.heap.objs.size f aV))→sp vs H Q E →
   ∃t,gL (nP qP P w K mg base N qual (aY st) f aV A outer s H E).lP (eR st) t∧t { nx:=fun _ H'=>Q .bS H',rt:=Q } (start N vs) H):fD P w K mg base qP (k+1) f fd ps sp:=by
 obtain⟨oc,od,kV,doc,pm,an,aV,ct,jU,rfl,lk,gW⟩:=F.ex;refine EY lk gW S len fun A outer s H vs Q E hr iH=>?_;obtain⟨t,h,q⟩:=gX aV A outer s H vs Q E hr iH;exact⟨t,h.lP,q⟩
theorem lD.binds{x qual:Str}{st:Stmt}{f:Addr}{fd:FuncData}{ps:List Str}(F:lD K x qual st f fd)
  (h:∀(kV doc pm:Value) (an:Option Addr) (aV ct:Value) (us:List Value),us.length=ps.length→bindArgs (fnOf x qual (kF st) (eR st) (aY st) .none kV doc pm an aV ct) ⟨us,[]⟩=pure (ps.zip us)):Binds K fd ps []:=by
 obtain⟨oc,od,kV,doc,pm,an,aV,ct,jU,rfl,lk,gW⟩:=F.ex;exact .all (h kV doc pm an aV ct)
theorem Al{x qual:Str}{st:Stmt}{f:Addr}{oc:Value}{od an:Option Addr}{jU:Array (Option Value)}{kV doc pm aV ct:Value}(l:K.lookup f=some ⟨oc,od,.func (fnOf x qual (kF st) (eR st) (aY st) .none kV doc pm an aV ct),jU⟩)
  (c:codeIn K aV qual=true) (k:keepIn K (.ref f)=true):lD K x qual st f (fnOf x qual (kF st) (eR st) (aY st) .none kV doc pm an aV ct):=⟨⟨oc,od,kV,doc,pm,an,aV,ct,jU,rfl,l,c⟩,k⟩
end
def dZ(H H':Hp):Prop:=∀b o,H b=some o→H' b=some o
theorem dZ.refl(H:Hp):dZ H H:=fun _ _ h=>h
theorem dZ.trans{H H1 H2:Hp}(a:dZ H H1)(b:dZ H1 H2):dZ H H2:=fun c o h=>b c o (a c o h)
theorem dZ.free{H H':Hp}(e:dZ H H'){l:Addr}(h:H' l=Option.none):H l=Option.none:=by
 cases q:H l with
 | none=>rfl
 | some o =>
  rw [e l o q]at h;cases h
theorem dZ.seq{K:Frag}{H H':Hp}{a:Addr}{xs:List V}(e:dZ H H')(h:dO K H a xs):dO K H' a xs:=by
 rcases h with(h | ⟨o,h⟩) | h
 ·exact .inl (.inl (e _ _ h))
 ·exact .inl (.inr ⟨o,e _ _ h⟩)
 ·exact .inr h
theorem PK(env:Env):∀(names:List (Str×NameKind)) (cs:List (Str×Addr)),(∀y∈names,y.2 = .free→∃c,env.cells.lookup y.1=some c) →
  ∃cl,(forIn names cs (fun(x:Str×NameKind) (cs:List (Str×Addr))=>(match x with | (name,kind)=>if(kind == NameKind.free)=true then(do let c ← cellOf env name;pure (ForInStep.yield ((name,c)::cs)))else pure (ForInStep.yield cs))):Sem (List (Str×Addr)))=pure cl ∧
   (∀x c,cl.lookup x=some c→cs.lookup x=some c∨env.cells.lookup x=some c)∧(∀y∈names,y.2 = .free→∃c,cl.lookup y.1=some c)∧(∀x c,cs.lookup x=some c→∃c',cl.lookup x=some c')
 | [],cs,_=>⟨cs,rfl,fun _ _ h => .inl h,fun _ h=>(nomatch h),fun _ c h=>⟨c,h⟩⟩
 | (n,k)::r,cs,h=>by
  by_cases hk:k = .free
  ·subst hk;obtain⟨c,hc⟩:=h (n,.free) lQ rfl;obtain⟨cl,e,h1,h2,h3⟩:=PK env r ((n,c)::cs) fun y hy=>h y (fC _ hy);refine⟨cl,?_,fun x d hd=>?_,fun y hy hf=>?_,fun x d hd=>?_⟩
   ·rw [List.forIn_cons];simp only [beq_self_eq_true,cR,cellOf,hc,pure_bind];exact e
   ·rcases h1 x d hd with q | q
    ·rw [xI]at q;split at q
     ·rename_i hx;have zL:x=n:=by simpa using hx
      subst zL;exact .inr (hc.trans q)
     ·exact .inl q
    ·exact .inr q
   ·rcases gD.mp hy with e' | e'
    ·subst e';exact h3 n c (by simp)
    ·exact h2 y e' hf
   ·by_cases hx:x=n
    ·subst hx;exact h3 x c (by simp)
    ·have hb:(x == n)=false:=by simpa using hx
     exact h3 x d (by rw [xI,hb];exact hd)
  ·obtain⟨cl,e,h1,h2,h3⟩:=PK env r cs fun y hy=>h y (fC _ hy);have hb:(k == NameKind.free)=false:=by simpa using hk
   refine⟨cl,?_,h1,fun y hy hf=>?_,h3⟩
   ·rw [List.forIn_cons];simp only [hb,eB,cK,pure_bind];exact e
   ·rcases gD.mp hy with e' | e'
    ·subst e';exact absurd hf hk
    ·exact h2 y e' hf
theorem aaR{scope:Scope}{env:Env}(h:∀y∈scope.names,y.2 = .free→∃c,env.cells.lookup y.1=some c) :
  ∃cl,closureFor scope env=pure cl∧(∀x c,cl.lookup x=some c→env.cells.lookup x=some c)∧∀y∈scope.names,y.2 = .free→∃c,cl.lookup y.1=some c:=by
 obtain⟨cl,e,h1,h2,_⟩:=PK env scope.names [] h;refine⟨cl,?_,fun x c hc=>(h1 x c hc).resolve_left (by simp),h2⟩;unfold closureFor;refine Eq.trans (congrArg (fun m=>m >>= fun cs=>pure cs) e) ?_;rfl
section
variable{prog:Program}{w:World}{A:Around}{R:Result→Shared→Prop}{s:Shared}
theorem aaP{elt target iter:Expr}{ifs:List Expr}{scope:Scope}{pos:Pos}{it acc:Value}{env:Env}(I:Nat→Shared→Prop)
  (turn:∀n s,I n s→wpAny (model prog w) A (pyNext it) (fun r s₁=>match r with
   | none=>R (.ok .next) s₁
   | some v=>wpAny (model prog w) A (letOwnedTupleGo target it v) (fun _ UR=>wpAny (model prog w) A (assign target env v) (fun _ s₂ =>
     wpAny (model prog w) A (forIn ifs true fun c r=>if r=true then do let ok ← isTrue c env (eval c env);pure (ForInStep.yield ok)else pure (ForInStep.yield r)) (fun ok s₃ =>
      if ok=true then wpAny (model prog w) A (eval elt env) (fun x s₄ =>
       wpAny (model prog w) A (call (.builtin "list.append") [acc,x]) (fun _ s₅=>∃m,m<n∧I m s₅) (fun _ _=>False) s₄) (fun _ _=>False) s₃
      else ∃m,m<n∧I m s₃) (fun _ _=>False) s₂) (fun _ _=>False) UR) (fun _ _=>False) s₁) (fun _ _=>False) s)
  (n:Nat) (h:I n s) :
  codeAny (model prog w) A (.compLoop (.ListComp elt [⟨target,iter,ifs,0⟩] scope pos) 0 it acc env) R s:=by
 refine codeAny_loop rfl I (fun n s hI=>?_) n h;show wpAny _ A ((compTurn (.ListComp elt [⟨target,iter,ifs,0⟩] scope pos) 0 it acc env).onRaise (fun x=>do noteFrame x env;theTreesLotGoes x)) _ _ s;refine wpAny_noted ?_;rw [compTurn_list];refine bI (wpAny_standAt (bI (lH (turn n s hI) (fun r s₁ h₁=>?_) fun _ _ h'=>h'.elim)));cases r with
 | none=>exact dQ h₁
 | some v =>
  refine bI (lH h₁ (fun _ UR Ut=>?_) fun _ _ h'=>h'.elim);refine bI (lH Ut (fun _ s₂ h₂=>bI (lH h₂ (fun ok s₃ h₃=>?_) fun _ _ h'=>h'.elim)) fun _ _ h'=>h'.elim);cases ok with
  | false=>exact dQ ⟨rfl,h₃⟩
  | true =>
   exact bI (bI (lH h₃ (fun x s₄ h₄=>bI (lH h₄ (fun _ s₅ h₅=>dQ (dQ ⟨rfl,h₅⟩)) fun _ _ h'=>h'.elim)) fun _ _ h'=>h'.elim))
end
def GD(X:Cx)(ifs:List Expr)(t:TT):Prop :=
 ∀(pins:List (Addr×Obj)) (s:Shared) (σ:St) (H:Hp) (Q:Bool→Hp→Prop),Inv X pins σ H s→t σ H Q →
  wpAny (model X.prog X.w) X.A (forIn ifs true fun c r=>if r=true then do let ok ← isTrue c X.env (eval c X.env);pure (ForInStep.yield ok)else pure (ForInStep.yield r)) (TP X pins σ Q) X.xe s
theorem Ou{X:Cx}{c:Expr}{t:TT}(h:PT X c t):GD X [c] t:=fun pins s σ H Q I q=>wpAny_tests_one (h pins s σ H Q I q)
def iD(X:Cx)(scope:Scope)(ls:List Str)(js:List Nat)(cl:List (Str×Addr))(C:Addr)(s:Shared)(H:Hp)(fp:List Addr):Cx :=
 { X with N:=ls++js.map (fun j=>X.N.getD j Str.empty),s₀:=s,H₀:=H,env:=compEnvC scope cl C X.env,outer:=X.stack,ex:=fp,fn:=fun _=>false,xe:=fun _ _=>False }
def rF(ls:List Str)(js:List Nat)(σ:St):St:=ls.map (fun _=>none)++js.map (fun j=>(σ[j]?).join)
def gk(env:Env)(n:Str)(k:NameKind):NameKind:=if(k == NameKind.free&&env.scope.kind == .function&&env.kindOf n == some .cell)=true then .cell else k
theorem VZ(env:Env)(names:List (Str×NameKind)):(names.map fun(n,k)=>if(k == NameKind.free&&env.scope.kind == .function&&env.kindOf n == some .cell)then(n,NameKind.cell)else(n,k))=names.map fun p=>(p.1,gk env p.1 p.2):=by
 refine List.map_congr_left fun p _=>?_;obtain⟨n,k⟩:=p;show(if(k == NameKind.free&&env.scope.kind == .function&&env.kindOf n == some .cell)=true then(n,NameKind.cell)else(n,k))=(n,gk env n k);unfold gk;split <;> rfl
theorem JT(env:Env)(x:Str):∀names:List (Str×NameKind),(names.map fun p=>(p.1,gk env p.1 p.2)).lookup x=(names.lookup x).map (gk env x)
 | []=>rfl
 | (n,k)::r=>by
  rw [gM];cases hx:x == n with
  | true =>
   have e:x=n:=by simpa using hx
   subst e;rw [xI,xI];simp
  | false =>
   rw [xI,xI];simp only [hx];exact JT env x r
theorem lookup_mem{x:Str}{k:NameKind}:∀{names:List (Str×NameKind)},names.lookup x=some k→(x,k)∈names
 | [],h=>by simp at h
 | (n,k')::r,h=>by
  rw [xI]at h;cases hx:x == n with
  | true =>
   have e:x=n:=by simpa using hx
   subst e;simp only [beq_self_eq_true]at h;cases h;exact List.mem_cons_self ..
  | false =>
   simp only [hx]at h;exact fC _ (lookup_mem h)
theorem JU{env:Env}{names:List (Str×NameKind)}{x:Str}(h:names.lookup x=some .free) :
  (names.map fun(n,k)=>if(k == NameKind.free&&env.scope.kind == .function&&env.kindOf n == some .cell)then(n,NameKind.cell)else(n,k)).lookup x=some .cell ∨
  (names.map fun(n,k)=>if(k == NameKind.free&&env.scope.kind == .function&&env.kindOf n == some .cell)then(n,NameKind.cell)else(n,k)).lookup x=some .free:=by
 rw [VZ,JT,h];show some (gk env x .free)=some .cell∨some (gk env x .free)=some .free;unfold gk;split
 ·exact .inl rfl
 ·exact .inr rfl
theorem JB{env:Env}{names:List (Str×NameKind)}{x:Str}(hc:∀y∈names,y.2 ≠ .cell)
  (h:(names.map fun(n,k)=>if(k == NameKind.free&&env.scope.kind == .function&&env.kindOf n == some .cell)then(n,NameKind.cell)else(n,k)).lookup x=some .cell ∨
   (names.map fun(n,k)=>if(k == NameKind.free&&env.scope.kind == .function&&env.kindOf n == some .cell)then(n,NameKind.cell)else(n,k)).lookup x=some .free):(x,NameKind.free)∈names:=by
 rw [VZ,JT]at h;cases e:names.lookup x with
 | none=>rw [e]at h;rcases h with h | h <;> cases h
 | some k =>
  have hm:=lookup_mem e
  by_cases hk:k = .free
  ·rw [hk]at hm;exact hm
  ·rw [e]at h;have hg:gk env x k=k:=by
    unfold gk;have hb:(k == NameKind.free)=false:=by simpa using hk
    rw [hb];rfl
   have h':gk env x k = .cell∨gk env x k = .free:=h.imp (fun z=>iL z) fun z=>iL z;rw [hg]at h'
   rcases h' with z | z
   ·exact absurd z (hc _ hm)
   ·exact absurd z hk
structure xM(X:Cx)(scope:Scope)(ls:List Str)(js:List Nat):Prop where
 kind:scope.kind = .function
 cell:∀y∈scope.names,y.2 ≠ .cell
 names:∀y∈scope.names,y.2 = .local→scope.names.lookup y.1=some .local
 free:∀y∈scope.names,y.2 = .free→X.env.kindOf y.1=some .cell∨X.env.kindOf y.1=some .free
 Bu:∀j∈js,∃x,X.N[j]? = some x∧scope.names.lookup x=some .free
section
variable{X:Cx}{pins:List (Addr×Obj)}{σ:St}{H:Hp}{s:Shared}
theorem Td{scope:Scope}{ls:List Str}{js:List Nat}{cl:List (Str×Addr)}{C:Addr}{fp:List Addr}(L:xM X scope ls js)(I:Inv X pins σ H s)
  (h1:∀x c,cl.lookup x=some c→X.env.cells.lookup x=some c) (h2:∀y∈scope.names,y.2 = .free→∃c,cl.lookup y.1=some c)
  {s':Shared} {H':Hp} (hC:s'.heap.objs.size≤C) (bs:∀b o,X.base.get? b=some o→s'.heap.get? b=some o∧H' b=none) (mB:X.base.objs.size≤s'.heap.objs.size)
  (jH:s'.heap.FunFrames X.base X.stack) (nN:∀b∈dY X.stack,H' b=none)
  (uK:∀b∈fp,b≠C∧∀x c,X.env.cells.lookup x=some c→c≠b) (pO:∀b o,X.base.get? b=some o→b∉fp) (rX:∀b∈fp,b∉dY X.stack) :
  (iD X scope ls js cl C s' H' fp).Ok where
 mod:=I.ok.mod
 kind:=L.kind
 glob:=I.ok.glob
 blt:=I.ok.blt
 above:=hC
 inj:=fun x y c a b=>I.ok.inj x y c (h1 x c a) (h1 y c b)
 has:=fun x hx=>h2 (x,.free) (JB (env:=X.env) L.cell hx) rfl
 uN:=fun x c z=>by cases z
 hd:=I.ok.hd
 frames:=I.ok.frames
 mL := .inl rfl
 uK:=fun b hb=>⟨(uK b hb).1,fun x c e=>(uK b hb).2 x c (h1 x c e)⟩
 bs:=bs
 mB:=mB
 pO:=pO
 rX:=rX
 jH:=jH
 nN:=nN
theorem Tb{ls:List Str}{js:List Nat}{i:Nat}{v:V}(h:(rF ls js σ)[i]? = some (some v)):∃k j,i=ls.length+k∧js[k]? = some j∧σ[j]? = some (some v):=by
 unfold rF at h
 by_cases hi:i<ls.length
 ·rw [gO (by simpa using hi),pB]at h;cases e:ls[i]? with
  | none=>rw [e]at h;cases h
  | some y=>rw [e]at h;cases h
 ·rw [kY (by simpa using QV hi),pB,hJ]at h;cases e:js[i - ls.length]? with
  | none=>rw [e]at h;cases h
  | some j =>
   rw [e]at h;refine⟨i - ls.length,j,by omega,e,?_⟩;have h':(σ[j]?).join=some v:=iL h;cases q:σ[j]? with
   | none=>rw [q]at h';cases h'
   | some o =>
    rw [q]at h';exact congrArg some h'
def LcR(ls:List Str)(js:List Nat)(g:TG)(tc:TT)(te:TE)(σ:St)(Q:VK)(J:It)(H1:Hp):Prop:=∀D,H1 D=none →
 ∃W:Nat→Nat→St→Hp→Prop,(∃m,W 0 m (rF ls js σ) (upd H1 D (.lst [])))∧∀i m σ' H',W i m σ' H' →
  (J.stop i H'∧Q (.ref D) H')∨(J.go i H'∧∃N:St→Hp→Prop,(∀σ2 H2,N σ2 H2→∃m',m'<m∧W (i+1) m' σ2 H2) ∧
   ∀x H2,J.qQ i H' x H2→g x σ' H2 fun σ3 H3=>tc σ3 H3 fun c H4=>if c=true then te σ3 H4 fun y H5=>∃ys,H5 D=some (.lst ys)∧ys.length<sizeLine∧N σ3 (upd H5 D (.lst (ys++[y])))else N σ3 H4)
def UN(ls:List Str)(js:List Nat)(wi:TI)(g:TG)(tc:TT)(te:TE):TE:=fun σ H Q=>wi σ H (LcR ls js g tc te σ Q)
theorem Pm{elt tg iter:Expr}{ifs:List Expr}{scope:Scope}{pos:Pos}{ls:List Str}{js:List Nat}{wi:TI}{g:TG}{tc:TT}{te:TE}(hc:X.calm=true)(L:xM X scope ls js)(hi:PI X tg iter wi)
  (hb:∀cl C s H fp,PG (iD X scope ls js cl C s H fp) tg g∧GD (iD X scope ls js cl C s H fp) ifs tc∧PE (iD X scope ls js cl C s H fp) elt te)
  (hs:∀x,foldedSetIterable iter X.env x=pure x:=by intro _;rfl):PE X (.ListComp elt [⟨tg,iter,ifs,0⟩] scope pos) (UN ls js wi g tc te):=by
 intro pins s σ H Q I h;obtain⟨cl,kU,dW,nK⟩:=aaR (scope:=scope) (env:=X.env) fun y hy hf=>I.ok.has y.1 (L.free y hy hf);rw [eval_ListComp];refine wpAny_comprehension_free (use:=none) rfl hs kU L.kind L.names (bE (hi pins s σ H _ I h) fun v s1 h1=>bE h1 fun MC s2 h2=>?_);obtain⟨it,fp,tn,J,H1,e,I2,T,eM,f2,h2⟩:=h2;subst e;refine xU (wpAny_newFunctionEnv L.cell (by intro y hy;simp at hy) (fun h₁ MT MN=>?_) L.kind);dsimp only at MT MN ⊢;generalize NM:s2.heap.push { cls := .type "list",dict:=none,data := .seq ([]:List Value).toArray }=G2 at MT MN ⊢;have ZY:G2.objs.size=s2.heap.objs.size+1:=by rw [← NM,Heap.size_push]
 have ZX:H1 s2.heap.objs.size=none:=I2.aK.fresh cP;have Yi:H1 G2.objs.size=none:=I2.aK.fresh (by omega);have Yh:s2.heap.objs.size≠G2.objs.size:=by omega
 have Yg:G2.get? s2.heap.objs.size=some { cls := .type "list",dict:=none,data := .seq ([]:List Value).toArray }:=by rw [← NM];exact nS _ rfl
 have LZ:∀b o,s2.heap.get? b=some o→G2.get? b=some o:=fun b o e=>by rw [← NM];exact iZ _ e
 have I3:Inv X pins σ (upd H1 s2.heap.objs.size (.lst [])) { s2 with heap:=G2,toks:=s2.toks } :=
  I2.laid (t':=s2.toks) LZ cP (show fS X.prog X.w _ G2 _ (.lst [])from⟨by simp,[],0,.nil,Yg⟩)
 have MA:∀b o,G2.get? b=some o→h₁.get? b=some o:=fun b o e=>(MN.2 b (fU (cX e))).trans (iZ _ e);have I4:Inv X pins σ (upd H1 s2.heap.objs.size (.lst [])) { s2 with heap:=h₁,toks:=s2.toks+0 }:=I3.kept (h':=h₁) (t':=s2.toks+0) MA;generalize hT:(H1,(⟨tg,iter,ifs,0⟩:Comprehension))=Tv;clear hT Tv;have OT:∀b∈fp,b<s2.heap.objs.size:=fun b hb=>by
  obtain⟨o,e,_⟩:=T.obj 0 _ eM b hb;exact cX e
 have fpD:s2.heap.objs.size∉fp:=fun z=>Nat.lt_irrefl _ (OT _ z);have An:∀b∈fp,b≠G2.objs.size:=fun b hb=>fU (by rw [ZY];exact GG (OT b hb));have Ra:(iD X scope ls js cl G2.objs.size { s2 with heap:=G2 } (upd H1 s2.heap.objs.size (.lst [])) fp).Ok:=by
  refine Td L I3 dW nK cP I3.bs (qI I3.ok.mB I3.sz) I3.stack I3.IB (fun b hb=>⟨An b hb,(f2 b hb).2.2.2.2.1⟩) (fun b o e hb=>?_) (fun b hb z=>?_)
  ·rcases(f2 b hb).2.2.2.1 with q | q
   ·exact I2.ok.pO b o e q
   ·exact absurd (jL (cX (I2.ok.bs b o e).1) q) (Nat.lt_irrefl _)
  ·rcases gD.mp (I3.yJ b z)with q | q
   ·exact(f2 b hb).2.1 q
   ·exact(f2 b hb).2.2.1 q
 have IC:Inv (iD X scope ls js cl G2.objs.size { s2 with heap:=G2 } (upd H1 s2.heap.objs.size (.lst [])) fp) [] (rF ls js σ) (upd H1 s2.heap.objs.size (.lst [])) { s2 with heap:=h₁,toks:=s2.toks+0 }:=by
  refine⟨Ra,rfl,I4.bare,Un.kept MA,⟨_,MT,fun i x v e1 e2 e3=>?_⟩,fun x c e=>I4.cell x c (dW x c e),?_,fun x c e=>I4.mX x c (dW x c e),fun p hp=>?_,I4.aK,?_⟩
  ·obtain⟨k,j,nL,hj,hσ⟩:=Tb e2;obtain⟨y,hy,MG⟩:=L.Bu j (kI hj);have Uw:x=y:=by
    have AH:(ls++js.map (fun j=>X.N.getD j Str.empty))[i]? = some x:=e1;rw [nL,kY (Nat.le_add_right ..),Nat.add_sub_cancel_left,pB,hj]at AH;have Zr:X.N.getD j Str.empty=x:=iL AH;rw [← Zr,Eh,hy];rfl
   subst Uw;have YZ:X.env.kindOf x=some .cell∨X.env.kindOf x=some .free:=by
    have hm:(x,NameKind.free)∈scope.names:=by
     have q:=JB (env:=X.env) L.cell (JU (env:=X.env) MG);exact q
    exact L.free _ hm rfl
   obtain⟨m,hn,hl⟩:=I4.loc;obtain⟨u,r,l⟩:=hl j x v hy hσ (YZ.elim (fun z => .inr (.inl z)) fun z => .inr (.inr z));refine⟨u,r,.inr ⟨JU (env:=X.env) MG,?_⟩⟩
   rcases l with⟨kl,_⟩ | ⟨_,c,rO,z⟩
   ·rcases YZ with q | q
    ·rw [q]at kl;cases kl
    ·rw [q]at kl;cases kl
   ·have hm:(x,NameKind.free)∈scope.names:=JB (env:=X.env) L.cell (JU (env:=X.env) MG);obtain⟨c',ZQ⟩:=nK _ hm rfl;have:=dW _ _ ZQ;rw [rO]at this;cases this;exact⟨c,ZQ,z⟩
  ·show upd H1 s2.heap.objs.size (.lst []) G2.objs.size=none;rw [cO (fT Yh)];exact Yi
  ·have wB:p∈X.pn:=by simpa [iD]using hp
   obtain⟨e,n,ne,nf,d⟩:=I4.pin p (jM _ wB);obtain⟨e3,_⟩:=I3.pin p (jM _ wB);refine⟨e,n,?_,fun z=>?_,d⟩
   ·exact fU (cX e3)
   ·rcases gD.mp (I3.yJ p.1 z)with q | q
    ·exact ne q
    ·exact nf q
  ·simp [rF,iD]
 obtain⟨Xa,Wz,Xb⟩:=hb cl G2.objs.size { s2 with heap:=G2 } (upd H1 s2.heap.objs.size (.lst [])) fp;obtain⟨W,⟨m0,w0⟩,turn⟩:=h2 s2.heap.objs.size ZX;have UT:tn 0 h₁:=T.keep _ _ _ eM fun b hb o e=>MA b o (LZ b o e);have fP:∀{H':Hp},(∀b∈fp,H' b=none)→∀b∈fp,vD (iD X scope ls js cl G2.objs.size { s2 with heap:=G2 } (upd H1 s2.heap.objs.size (.lst [])) fp) [] H' b:=fun hn b hb=>by
  refine⟨hn b hb,An b hb,fun z=>?_,.inl hb,fun x c e=>(f2 b hb).2.2.2.2.1 x c (dW x c e),fun p hp=>?_⟩
  ·rcases gD.mp (I3.yJ b z)with q | q
   ·exact(f2 b hb).2.1 q
   ·exact(f2 b hb).2.2.1 q
  ·have wB:p∈X.pn:=by simpa [iD]using hp
   exact(f2 b hb).2.2.2.2.2 p (jM _ wB)
 have Za:∀b∈fp,(upd H1 s2.heap.objs.size (.lst [])) b=none:=fun b hb=>by
  rw [cO (show b≠s2.heap.objs.size from fU (OT b hb))];exact(f2 b hb).1
 have loop:∀s4:Shared,s4 = { s2 with heap:=h₁,toks:=s2.toks+0 } →
   codeAny (model X.prog X.w) X.A (.compLoop (.ListComp elt [⟨tg,iter,ifs,0⟩] scope pos) 0 (.ref it) (.ref s2.heap.objs.size) (compEnvC scope cl G2.objs.size X.env))
    (compPost (model X.prog X.w) X.A X.xe none (EP X pins σ Q) (.ref s2.heap.objs.size) G2.objs.size) s4:=by
  rintro s4 rfl;refine aaP (fun n s'=>∃i σ' H',Inv (iD X scope ls js cl G2.objs.size { s2 with heap:=G2 } (upd H1 s2.heap.objs.size (.lst [])) fp) [] σ' H' s'∧tn i s'.heap∧(∀b∈fp,H' b=none)∧W i n σ' H') ?_ m0 ⟨0,_,_,IC,UT,Za,w0⟩;rintro n s5 ⟨i,σ5,H5,I5,sZ,EW,w5⟩
  rcases turn i n σ5 H5 w5 with⟨stop,qn⟩ | ⟨go,N,hN,step⟩
  ·refine bE (T.done (iD X scope ls js cl G2.objs.size { s2 with heap:=G2 } (upd H1 s2.heap.objs.size (.lst [])) fp) rfl rfl rfl hc i [] s5 σ5 H5 _ I5 (fP EW) sZ stop) fun r s6 ⟨hr,I6⟩=>?_;subst hr;obtain⟨m6,Vm,_⟩:=I6.loc;refine⟨m6,Vm,fun h' EF=>⟨.ref s2.heap.objs.size,H5,?_,rfl,qn⟩⟩;have Gs:Un (dY X.stack) fp (upd H1 s2.heap.objs.size (.lst [])) H5 G2 s6.heap:=I6.base;have Gu:Un (dY X.stack) fp H1 (upd H1 s2.heap.objs.size (.lst [])) s2.heap G2:=Un.laid LZ cP ZX;have un:=Gu.trans Gs;have rB:∀b o,s2.heap.get? b=some o→b≠G2.objs.size:=fun b o e=>fU (by rw [ZY];exact GG (cX e));have Gv:Un (dY X.stack) fp H1 H5 s2.heap h':=⟨fun b o e n a x=>(EF.2 b (rB b o e)).trans (un.keep b o e n a x),fun b o e n a x=>by
    obtain⟨sl,q⟩:=un.slot b o e n a x;exact⟨sl,(EF.2 b (rB b o e)).trans q⟩,un.free,fun b o e x=>by
    obtain⟨o',q⟩:=un.there b o e x;exact⟨o',(EF.2 b (rB b o e)).trans q⟩,un.kM,un.kC,un.kN⟩
   have MQ:eL X.prog X.w H5 h':=fun b o e=>by
    refine(I6.aK b o e).sY (fun c u rO q=>(EF.2 c ?_).trans q) (fun _ q=>q) fun _ _ q=>q;have zT:H5 G2.objs.size=none:=I6.free;rintro rfl
    rcases rO with z | z
    ·subst z;rw [zT]at e;cases e
    ·rw [zT]at z;cases z
   refine I2.PX (s':={ s6 with heap:=h' }) (ch:=fp) ?_ Gv MQ I6.bare fun b hb=>⟨(f2 b hb).2.2.2.1,(f2 b hb).2.1,(f2 b hb).2.2.2.2.1,(f2 b hb).2.2.2.2.2⟩
   exact I6.os
  ·refine bE (T.item (iD X scope ls js cl G2.objs.size { s2 with heap:=G2 } (upd H1 s2.heap.objs.size (.lst [])) fp) rfl rfl rfl hc i [] s5 σ5 H5 _ I5 (fP EW) sZ go) fun r s6 ⟨u,hr,h6⟩=>?_;subst hr;refine bE h6 fun _ s7 ⟨x,H7,I7,r7,y7,IE,Yz⟩=>?_;have I7':=I7.pinned (fP Yz) (T.obj _ _ IE);refine bE (Xa _ s7 σ5 H7 x u _ I7' r7 (step x H7 y7)) fun _ s8 ⟨σ8,H8,I8,q8⟩=>?_;refine bE (Wz _ s8 σ8 H8 _ I8 q8) fun ok s9 ⟨H9,I9,q9⟩=>?_;have again:∀{σa:St} {Ha:Hp} {sa:Shared},Inv (iD X scope ls js cl G2.objs.size { s2 with heap:=G2 } (upd H1 s2.heap.objs.size (.lst [])) fp) ([]++yR fp s7.heap) σa Ha sa→N σa Ha →
     ∃m,m<n∧∃i σ' H',Inv (iD X scope ls js cl G2.objs.size { s2 with heap:=G2 } (upd H1 s2.heap.objs.size (.lst [])) fp) [] σ' H' sa∧tn i sa.heap∧(∀b∈fp,H' b=none)∧W i m σ' H':=fun{σa Ha sa} Ia na=>by
    obtain⟨m',hm,wa⟩:=hN σa Ha na;refine⟨m',hm,i+1,σa,Ha,Ia.CG,T.keep _ _ _ IE fun b hb o e=>(Ia.pin (b,o) (iN _ (iN _ (DS hb e)))).1,fun b hb=>?_,wa⟩;obtain⟨o,e,d⟩:=T.obj _ _ IE b hb;exact(Ia.pin (b,o) (iN _ (iN _ (DS hb e)))).2.1
   cases ok with
   | false=>exact again I9 q9
   | true =>
    refine bE (Xb _ s9 σ8 H9 _ I9 q9) fun y Ni ⟨z,H10,Eo,Nw,ys,hD,aZ,nn⟩=>?_;obtain⟨zz,aI,k,r,hl,e⟩:=Eo.vZ hD;refine call_meets F.slot_list_append ⟨_,e,rfl⟩ F.entry_list_append (F.args_list_append_2 _ _) (PySem.list_append s2.heap.objs.size aI.toArray k y (by rw [dS];omega)) ⟨e,?_⟩;refine again (Eo.DU (its':=aI++[y]) (t':=Ni.toks) hD e ?_ (r.append (.cons Nw .nil)) ?_) nn
    ·simp
    ·simp;omega
 exact codeAny_compStart_list (loop _ rfl) (T.self _ 0 _ _ _ UT (loop _ rfl))
end
section
variable{X:Cx}
theorem aa4:lF X (.builtin "isinstance") (fun xs H Q=>∃x n t b,xs=[x,.ty n]∧kW X.K H x t∧kitOne X.K t (.type n)=some b∧Q (.bl b) H):=by
 intro pins s σ H xs us Q I r h;obtain⟨x,n,t,b,rfl,ty,e,q⟩:=h;obtain⟨u,v,rfl,rx,ry⟩:=vals2 r;cases ry;exact Ue I rx ty e fun tk=>⟨.bl b,H,I.tok tk,rfl,q⟩
end
inductive Dt where
 | int (i:Int) | bl (b:Bool) | str (x:Str) | bS | tup (ds:List Dt) | lst (ds:List Dt)
def Den(K:Frag)(H:Hp):Nat→V→Dt→Prop
 | _,v,.int j=>v = .int j
 | _,v,.bl b=>v = .bl b
 | _,v,.str x=>v = .str x
 | _,v,.bS=>v = .bS
 | 0,_,.tup _=>False
 | 0,_,.lst _=>False
 | n+1,v,.tup ds=>∃a xs,v = .ref a∧dF K H a xs∧Paired (Den K H n) xs ds
 | n+1,v,.lst ds=>∃a xs,v = .ref a∧dO K H a xs∧Paired (Den K H n) xs ds
theorem dZ.CV{K:Frag}{H H':Hp}{a:Addr}{xs:List V}(e:dZ H H')(h:dF K H a xs):dF K H' a xs:=by
 rcases h with(h | ⟨o,h⟩) | h
 ·exact .inl (.inl (e _ _ h))
 ·exact .inl (.inr ⟨o,e _ _ h⟩)
 ·exact .inr h
theorem Den.same{K:Frag}{H H':Hp}(e:dZ H H'):∀{n:Nat} {v:V} {d:Dt},Den K H n v d→Den K H' n v d:=by
 intro n
 induction n with
 | zero=>intro v d h;cases d <;> first | exact h | exact h.elim
 | succ n ih =>
  intro v d h;cases d with
  | tup ds =>
   obtain⟨a,xs,h1,h2,h3⟩:=h;exact⟨a,xs,h1,e.CV h2,Paired.tN h3 fun _ _ q=>ih q⟩
  | lst ds =>
   obtain⟨a,xs,h1,h2,h3⟩:=h;exact⟨a,xs,h1,e.seq h2,Paired.tN h3 fun _ _ q=>ih q⟩
  | int i=>exact h
  | bl b=>exact h
  | str x=>exact h
  | bS=>exact h
theorem Paired.get{α β:Type}{F:α→β→Prop}:∀{l₁:List α} {l₂:List β} {i:Nat} {a:α},Paired F l₁ l₂→l₁[i]? = some a→∃b,l₂[i]? = some b∧F a b
 | _,_,_,_,.nil,e=>by simp at e
 | _,_,0,_,.cons r _,e=>by simp at e;subst e;exact⟨_,rfl,r⟩
 | _,_,i+1,x,.cons _ t,e=>by
  obtain⟨u,h1,h2⟩:=Paired.get (i:=i) (a:=x) t (by simpa using e);exact⟨u,by simpa using h1,h2⟩
structure HasFn(K:Frag)(mg:Str→Option Value)(x:Str)(st:Stmt):Prop where
 ex:∃f fd,mg x=some (.ref f)∧lD K x x st f fd
theorem iV{K:Frag}{h:Heap}{mg:Str→Option Value}{x:Str}{st:Stmt}{f:Addr}{oc:Value}{od an:Option Addr}{jU:Array (Option Value)}{kV doc pm aV ct:Value}(X:K.In h)(G:h.Ns mainGlobals mg)
  (a:nsIn K mainGlobals x=some (some (.ref f))) (l:K.lookup f=some ⟨oc,od,.func (fnOf x x (kF st) (eR st) (aY st) .none kV doc pm an aV ct),jU⟩)
  (c:codeIn K aV x=true) (k:keepIn K (.ref f)=true):HasFn K mg x st:=⟨⟨f,_,mg_of X G a,Al l c k⟩⟩
structure Def(P:Program)(w:World)(K:Frag)(mg:Str→Option Value)(base:Heap)(x:Str)(k:Nat)(ps:List Str)(sp:Sp):Prop where
 ex:∃f fd,fD P w K mg base qP k f fd ps sp∧mg x=some (.ref f)∧keepIn K (.ref f)=true∧Binds K fd ps []
theorem Def.of{P:Program}{w:World}{K:Frag}{mg:Str→Option Value}{base:Heap}{x:Str}{st:Stmt}{N ps:List Str}{k:Nat}{sp:Sp}(h:HasFn K mg x st)(S:dM N ps (aY st))
  (bind:∀(kV doc pm:Value) (an:Option Addr) (aV ct:Value) (us:List Value),us.length=ps.length→bindArgs (fnOf x x (kF st) (eR st) (aY st) .none kV doc pm an aV ct) ⟨us,[]⟩=pure (ps.zip us))
  (len:∀vs H Q E,sp vs H Q E→vs.length=ps.length)
  (gX:∀(f:Addr) (aV:Value) (A:Around) (outer:List Env) (s:Shared) (H:Hp) (vs:List V) (Q:VK) (E:XK),cW k (A.deeper (envOfC x (aY st) s.heap.objs.size f aV))→sp vs H Q E →
   ∃t,gL (nP qP P w K mg base N x (aY st) f aV A outer s H E).lP (eR st) t∧t { nx:=fun _ H'=>Q .bS H',rt:=Q } (start N vs) H):Def P w K mg base x (k+1) ps sp:=by
 obtain⟨f,fd,hm,F⟩:=h.ex;exact⟨f,fd,F.ok S len (gX f),hm,F.kp,F.binds bind⟩
theorem dZ.new{H:Hp}{p:Addr}{o:HO}(h:H p=none):dZ H (upd H p o):=fun b u e=>by rw [cO (oG e h)];exact e
def Kept(l:Addr)(H H':Hp):Prop:=∀b o,b≠l→H b=some o→H' b=some o
theorem Kept.upd(l:Addr)(H:Hp)(o:HO):Kept l H (upd H l o):=fun b u hb e=>by rw [cO hb];exact e
theorem dZ.kept{l:Addr}{H H':Hp}(h:dZ H H'):Kept l H H':=fun b o _ e=>h b o e
theorem Kept.trans{l:Addr}{H H1 H2:Hp}(a:Kept l H H1)(b:Kept l H1 H2):Kept l H H2:=fun c o hc e=>b c o hc (a c o hc e)
theorem Kept.CV{K:Frag}{l:Addr}{H H':Hp}{a:Addr}{xs ys:List V}(e:Kept l H H')(hl:H l=some (.lst ys))(h:dF K H a xs):dF K H' a xs:=by
 rcases h with(h | ⟨o,h⟩) | h
 ·exact .inl (.inl (e _ _ (XA h hl (by intro z;cases z)) h))
 ·exact .inl (.inr ⟨o,e _ _ (XA h hl (by intro z;cases z)) h⟩)
 ·exact .inr h
def vC(K:Frag)(H:Hp)(v:V)(ns:List Int):Prop:=∃p,v = .ref p∧dF K H p (ns.map V.int)
theorem vC.same{K:Frag}{H H':Hp}{v:V}{ns:List Int}(e:dZ H H')(h:vC K H v ns):vC K H' v ns:=let ⟨p,a,b⟩:=h; ⟨p,a,e.CV b⟩
theorem vC.kept{K:Frag}{l:Addr}{H H':Hp}{v:V}{ns:List Int}{ys:List V}(e:Kept l H H')(hl:H l=some (.lst ys))(h:vC K H v ns):vC K H' v ns:=let ⟨p,a,b⟩:=h; ⟨p,a,e.CV hl b⟩
def Rows(K:Frag)(H:Hp)(xs:List V)(rs:List (List Int)):Prop:=Paired (vC K H) xs rs
theorem Rows.same{K:Frag}{H H':Hp}{xs:List V}{rs:List (List Int)}(e:dZ H H')(h:Rows K H xs rs):Rows K H' xs rs:=Paired.tN h fun _ _ q=>q.same e
theorem Rows.kept{K:Frag}{l:Addr}{H H':Hp}{xs ys:List V}{rs:List (List Int)}(e:Kept l H H')(hl:H l=some (.lst ys))(h:Rows K H xs rs):Rows K H' xs rs:=Paired.tN h fun _ _ q=>q.kept e hl
def abP(h₀ h:Heap)(H:Hp)(x:Addr)(vs:Array Value):Prop :=
 ∃T oT ts,vs[1]? = some (.ref T)∧T≠x∧h₀.get? T=none∧H T=none∧h.get? T=some oT∧oT.data = .fields ts∧3<ts.size
def gP(h₀ h:Heap)(H:Hp)(x:Addr)(cls:Value)(dx:Option Addr)(tb:Bool):Prop :=
 h₀.get? x=none∧H x=none∧∃oe vs,h.get? x=some oe∧oe.cls=cls∧oe.dict=dx∧oe.data = .fields vs∧1<vs.size∧((tb=false∧vs[1]? = some .none)∨abP h₀ h H x vs)
theorem gP.any{h₀ h:Heap}{H:Hp}{x:Addr}{cls:Value}{dx:Option Addr}{tb:Bool}(e:gP h₀ h H x cls dx tb):gP h₀ h H x cls dx false:=by
 obtain⟨a,b,oe,vs,c1,c2,c3,c4,c5,c6⟩:=e;exact⟨a,b,oe,vs,c1,c2,c3,c4,c5,c6.imp (fun z=>⟨rfl,z.2⟩) id⟩
structure kX(X:Cx):Prop where
 mL:X.stack=X.env::X.outer
 AF:X.env.frame=some X.env.locals
 pn:X.pn=[]
theorem kX.mem{X:Cx}(t:kX X){b:Addr}:b∈dY X.stack↔b=X.env.locals∨b∈X.fs:=by
 rw [t.mL];unfold dY;rw [Ej,t.AF];exact gD
section
variable{X:Cx}{σ:St}{H:Hp}{s:Shared}
theorem Inv.JD{h':Heap}{ch:List Addr}(I:Inv X [] σ H s)(t:kX X)(jZ:∀b∈ch,X.s₀.heap.get? b=none∧H b=none∧∃o vs,s.heap.get? b=some o∧o.data = .fields vs)
  (keep:∀b o,b∉dY X.stack→b∉ch→s.heap.get? b=some o→h'.get? b=some o) (slot:∀b o,b∈dY X.stack→s.heap.get? b=some o→∃sl,h'.get? b=some { o with slots:=sl }) :
  Inv X [] σ H { s with heap:=h' }:=by
 have Rp:∀c v,s.heap.IsCell c v→c∉ch:=fun c v ⟨o,ho,hd⟩ hc=>by
  obtain⟨_,_,o',vs,e,d⟩:=jZ c hc;rw [ho]at e;cases e;rw [hd]at d;cases d
 have any:∀b o,b∉ch→s.heap.get? b=some o→∃sl,h'.get? b=some { o with slots:=sl }:=fun b o hc e=>by
  by_cases hb:b∈dY X.stack
  ·exact slot b o hb e
  ·exact⟨o.slots,keep b o hb hc e⟩
 have cellK:∀c v,s.heap.IsCell c v→h'.IsCell c v:=fun c v z=>by
  obtain⟨o,ho,hd⟩:=id z;obtain⟨sl,e⟩:=any c o (Rp c v z) ho;exact⟨_,e,hd⟩
 have old:∀b o,X.s₀.heap.get? b=some o→b≠X.env.locals∧b∉ch:=fun b o e =>
  ⟨fU (jL (cX e) I.ok.above),fun hc=>by rw [(jZ b hc).1]at e;cases e⟩
 have Rm:∀b,b≠X.env.locals→b∉X.fs→b∉dY X.stack:=fun b h1 h2 z=>(t.mem.mp z).elim h1 h2;refine⟨I.ok,I.os,I.bare,⟨fun b o e n hb hx=>?_,fun b o e n hb hx=>?_,I.base.free,fun b o e hx=>?_,I.base.kM,I.base.kC,I.base.kN⟩,?_,fun x c e=>?_,I.free,I.mX,fun p hp=>?_,fun b u e=>?_,I.len⟩
 ·exact keep b o (Rm b (old b o e).1 hb) (old b o e).2 (I.base.keep b o e n hb hx)
 ·obtain⟨sl,e1⟩:=I.base.slot b o e n hb hx;obtain⟨yM,e2⟩:=any b _ (old b o e).2 e1;exact⟨yM,e2⟩
 ·obtain⟨o',e1⟩:=I.base.there b o e hx;obtain⟨sl,e2⟩:=any b o' (old b o e).2 e1;exact⟨_,e2⟩
 ·obtain⟨m,hn,hl⟩:=I.loc;obtain⟨o,es,ep,ho,hd,r⟩:=id hn;have Yb:X.env.locals∉ch:=fun hc=>by
   obtain⟨_,_,o',vs,e,d⟩:=jZ _ hc;rw [ho]at e;cases e;rw [hd]at d;cases d
  obtain⟨sl,e⟩:=any _ o Yb ho;refine⟨m,⟨_,es,ep,e,hd,r⟩,fun i x v e1 e2 e3=>?_⟩;obtain⟨u,ru,l⟩:=hl i x v e1 e2 e3;refine⟨u,ru,?_⟩
  rcases l with l | ⟨k,c,ec,z⟩
  ·exact .inl l
  ·exact .inr ⟨k,c,ec,cellK c _ z⟩
 ·obtain⟨v,z⟩:=I.cell x c e;exact⟨v,cellK c v z⟩
 ·rw [t.pn]at hp;simp at hp
 ·refine(I.aK b u e).sY (fun c v hc q=>keep c v ?_ ?_ q) (fun _ q=>q) fun _ _ q=>q
  ·intro z;have f:=I.IB c z
   rcases hc with y | y
   ·rw [y,e]at f;cases f
   ·rw [y]at f;cases f
  ·intro z;have f:=(jZ c z).2.1
   rcases hc with y | y
   ·rw [y,e]at f;cases f
   ·rw [y]at f;cases f
variable{M:Model}{E:Value→Shared→Prop}{x:Addr}{cls:Value}{dx:Option Addr}
theorem gP.DQ(I:Inv X [] σ H s){b:Addr}{o:Obj}{vs:Array Value}(e:s.heap.get? b=some o)(d:o.data = .fields vs):b∉dY X.stack:=fun hm=>by
 obtain⟨_,o',ho,Vl⟩:=I.stack.mem hm;rw [e]at ho;cases ho;exact Vl vs d
theorem Ba(I:Inv X [] σ H s)(t:kX X){oe:Obj}{vs:Array Value}{head:Value}{Xe:Bool}{Q:Unit→Shared→Prop}(pU:X.s₀.heap.get? x=none)(nI:H x=none)(he:s.heap.get? x=some oe)(hd:oe.data = .fields vs)(cS:1<vs.size)
  (q:∀h',Inv X [] σ H { s with heap:=h' }→gP X.s₀.heap h' H x oe.cls oe.dict true→Q () { s with heap:=h' }) :
  wpAny M X.A (do let a ← frameOf X.env;let pl ← entryPlaceOf X.env.locals Xe;let b ← EntryCells.newEntry head a .none (rawInt X.env.locals) .none pl;setField (.ref x) 1 b) Q E s:=by
 have Wg:X.A.frames=some (X.env::X.outer):=by rw [← t.mL];exact I.ok.frames
 have hl:s.heap.FunFrames X.base (X.env::X.outer):=by rw [← t.mL];exact I.stack
 have cQ:x∉dY X.stack:=gP.DQ I he hd;have Zo:(X.env::X.outer).filterMap (·.frame)=dY X.stack:=by rw [t.mL];rfl
 refine bI (wpAny_frameOf_fun Wg hl t.AF fun h1 s1=>bI (wpAny_entryPlaceOf fun pl jF=>?_));rw [Zo]at s1;unfold EntryCells.newEntry;unfold newFields;refine bI (xU ?_ (jF.sizeOk5 _ _ _ _ _));have zU:h1.get? x=some oe:=(s1.2.1 x cQ).trans he;generalize YN:({ cls := .type "traceback",dict:=none,data := .fields ([head,.ref X.env.locals,.none,rawInt X.env.locals,.none]++(if pl.isEmpty then List.replicate 6 Value.none else pl)).toArray }:Obj)=to;have Vd:∃ts,to.data = .fields ts∧3<ts.size:=⟨_,by rw [← YN],by simp only [dS,fG,eU,AZ];omega⟩;have Vc:to.isFreed=false:=by rw [← YN];rfl
 have gJ:(h1.push to).get? x=some oe:=iZ _ zU;have pY:h1.objs.size≠x:=Nat.ne_of_gt (cX zU);refine wpAny_setField gJ hd cS ?_;have zY:=Obj.data_mapFields hd (·.setIfInBounds 1 (Value.ref h1.objs.size));have Wj:=Ep (Obj.mapFields (·.setIfInBounds 1 (Value.ref h1.objs.size))) gJ (Obj.isFreed_of_fields zY);have Xy:=(BJ (h1.push to) (Obj.mapFields (·.setIfInBounds 1 (Value.ref h1.objs.size))) (fT pY)).trans (nS h1 Vc);have kp:∀b o,b≠x→h1.get? b=some o→((h1.push to).update x (Obj.mapFields (·.setIfInBounds 1 (Value.ref h1.objs.size)))).get? b=some o:=fun b o hb e =>
  (BJ _ _ (fT hb)).trans (iZ _ e)
 have rQ:X.s₀.heap.get? h1.objs.size=none:=by
  cases e:X.s₀.heap.get? h1.objs.size with
  | none=>rfl
  | some o =>
   have h2:=jL (cX e) I.sz;rw [s1.1]at h2;exact absurd h2 (Nat.lt_irrefl _)
 have rP:H h1.objs.size=none:=by rw [s1.1];exact I.aK.fresh cP
 refine q _ (I.JD t (ch:=[x]) (fun b hb=>?_) (fun b o hb hc e=>?_) fun b o hb e=>?_) ⟨pU,nI,_,_,Wj,Obj.cls_mapFields _ _,?_,zY,by simpa using cS,.inr ⟨h1.objs.size,to,?_⟩⟩
 ·rw [kH.mp hb];exact⟨pU,nI,oe,vs,he,hd⟩
 ·exact kp b o (fun z=>hc (by rw [z];exact kH.mpr rfl)) ((s1.2.1 b hb).trans e)
 ·obtain⟨sl,e1⟩:=s1.2.2 b o e;exact⟨sl,kp b _ (fun z=>cQ (z ▸ hb)) e1⟩
 ·obtain⟨c,d,dt,sl⟩:=oe;cases dt <;> rfl
 ·obtain⟨ts,d1,d2⟩:=Vd;exact⟨ts,by simp [cS],pY,rQ,rP,Xy,d1,d2⟩
theorem WV(I:Inv X [] σ H s)(t:kX X){tb:Bool}{Q:Unit→Shared→Prop}(e:gP X.s₀.heap s.heap H x cls dx tb)
  (q:∀h',Inv X [] σ H { s with heap:=h' }→gP X.s₀.heap h' H x cls dx true→Q () { s with heap:=h' }):wpAny M X.A (noteFrame (.ref x) X.env) Q E s:=by
 obtain⟨pU,nI,oe,vs,he,rfl,rfl,hd,cS,yH⟩:=id e;unfold noteFrame;simp only [t.AF]
 rcases yH with⟨_,h1⟩ | ⟨T,oT,ts,h1,pY,rQ,rP,hT,nM,h3⟩
 ·refine bI (sQ he hd h1 ?_);rw [if_neg (by decide)];exact Ba I t pU nI he hd cS q
 ·refine bI (sQ he hd h1 ?_);rw [if_pos (show(Value.ref T != Value.none)=true from by simp)];obtain⟨v3,Va⟩:∃v3,ts[3]? = some v3:=⟨ts[3],Array.getElem?_eq_getElem h3⟩;refine bI (sQ hT nM Va ?_)
  by_cases hb:(v3 == rawInt X.env.locals)=true
  ·rw [if_pos hb];exact dQ (q s.heap I ⟨pU,nI,oe,vs,he,rfl,rfl,hd,cS,.inr ⟨T,oT,ts,h1,pY,rQ,rP,hT,nM,h3⟩⟩)
  ·rw [if_neg hb];refine bI (wpAny_setField hT nM h3 ?_);have tI:∀b,b≠T→(s.heap.update T (Obj.mapFields (·.setIfInBounds 3 Value.none))).get? b=s.heap.get? b:=fun b hb=>BJ _ _ (fT hb);have NL:T∉dY X.stack:=gP.DQ I hT nM;have I1:Inv X [] σ H { s with heap:=s.heap.update T (Obj.mapFields (·.setIfInBounds 3 Value.none)) }:=I.JD t (ch:=[T]) (fun b hb=>by
    rw [kH.mp hb];exact⟨rQ,rP,oT,ts,hT,nM⟩) (fun b o _ hc e=>(tI b (fun z=>hc (by rw [z];exact kH.mpr rfl))).trans e) fun b o hb e=>⟨o.slots,(tI b (fun z=>NL (z ▸ hb))).trans e⟩
   exact Ba I1 t pU nI ((tI x (fT pY)).trans he) hd cS q
theorem Ap{A:Around}(I:Inv X [] σ H s)(t:kX X){fo:Option Addr}{Q:Unit→Shared→Prop}(e:gP X.s₀.heap s.heap H x cls dx true)
  (q:∀h',Inv X [] σ H { s with heap:=h' }→gP X.s₀.heap h' H x cls dx true→Q () { s with heap:=h' }):wpAny M A (setFlight (.ref x) fo) Q E s:=by
 obtain⟨pU,nI,oe,vs,he,rfl,rfl,hd,cS,yH⟩:=id e
 rcases yH with⟨z,_⟩ | ⟨T,oT,ts,h1,pY,rQ,rP,hT,nM,h3⟩
 ·cases z
 unfold setFlight;refine bI (sQ he hd h1 ?_);rw [if_pos (show(Value.ref T != Value.none)=true from by simp)];refine wpAny_setField hT nM h3 ?_;generalize (fo.elim Value.none fun f=>rawInt f)=fv;have tI:∀b,b≠T→(s.heap.update T (Obj.mapFields (·.setIfInBounds 3 fv))).get? b=s.heap.get? b:=fun b hb=>BJ _ _ (fT hb);have NL:T∉dY X.stack:=gP.DQ I hT nM;have zY:=Obj.data_mapFields nM (·.setIfInBounds 3 fv);refine q _ (I.JD t (ch:=[T]) (fun b hb=>?_) (fun b o _ hc e=>(tI b (fun z=>hc (by rw [z];exact kH.mpr rfl))).trans e) fun b o hb e=>⟨o.slots,(tI b (fun z=>NL (z ▸ hb))).trans e⟩)
  ⟨pU,nI,oe,vs,(tI x (fT pY)).trans he,rfl,rfl,hd,cS,.inr ⟨T,_,_,h1,pY,rQ,rP,Ep _ hT (Obj.isFreed_of_fields zY),zY,by simpa using h3⟩⟩
 rw [kH.mp hb];exact⟨rQ,rP,oT,ts,hT,nM⟩
end
abbrev WX:=St→Value→Option Addr→Hp→Prop
def XE(X:Cx)(W:WX):Value→Shared→Prop:=fun e s'=>∃σ H' x cls dx,e = .ref x∧Inv X [] σ H' s'∧gP X.s₀.heap s'.heap H' x cls dx false∧W σ cls dx H'
section
variable{X:Cx}
theorem Qd(t:kX X){W:WX}:PassesOwn (model X.prog X.w) X.A X.env (XE X W):=by
 rintro e s' ⟨σ,H',x,cls,dx,rfl,I,ex,w⟩;unfold notedBy;refine WV I t ex fun h1 I1 e1=>?_;unfold cameBackBy;obtain⟨pU,nI,oe,vs,he,hc,ZK,hd,cS,yH⟩:=id e1
 rcases yH with⟨z,_⟩ | ⟨T,oT,ts,uD,pY,rQ,rP,hT,nM,h3⟩
 ·cases z
 refine bI (sQ he hd uD ?_);rw [if_neg (show ¬((Value.ref T == Value.none)=true)from by simp)];exact Ap I1 t e1 fun h2 I2 e2=>⟨σ,H',x,cls,dx,rfl,I2,e2.any,w⟩
def mG(P:Program)(w:World):lG:=fun outer H s E e s'=>∃x cls dx H',e = .ref x∧s'.os=s.os∧AllBare s'.gens∧Un (dY outer) [] H H' s.heap s'.heap∧eL P w H' s'.heap∧gP s.heap s'.heap H' x cls dx true∧E cls dx H'
end
structure sE(X:Cx)(W:WX):Prop where
 top:kX X
 ex:X.ex=[]
 to:∀e s',XE X W e s'→X.xe e s'
 passes:PassesOwn (model X.prog X.w) X.A X.env X.xe
theorem sE.of{X:Cx}(t:kX X)(hx:X.ex=[])(W:WX):sE (X.jB (XE X W)) W where
 top:=⟨t.mL,t.AF,t.pn⟩
 ex:=hx
 to:=fun e s' ⟨σ,H',x,cls,dx,a,I,b,c⟩=>⟨σ,H',x,cls,dx,a,I.lM,b,c⟩
 passes:=Qd t
theorem Inv.WM{X:Cx}{pins:List (Addr×Obj)}{σ:St}{H:Hp}{s:Shared}(I:Inv X pins σ H s):Inv X [] σ H s:=I.JK fun p hp=>absurd hp (by simp)
theorem Inv.first{X:Cx}{pins:List (Addr×Obj)}{σ:St}{H:Hp}{s:Shared}(I:Inv X pins σ H s)(hx:X.ex=[]){b:Addr}(h:s.heap.get? b=none):X.s₀.heap.get? b=none:=by
 cases e:X.s₀.heap.get? b with
 | none=>rfl
 | some o =>
  obtain⟨o',e'⟩:=I.base.there b o e (by rw [hx];simp);rw [h]at e';cases e'
theorem gP.first{X:Cx}{pins:List (Addr×Obj)}{σ:St}{H H':Hp}{s:Shared}{h':Heap}{x:Addr}{cls:Value}{dx:Option Addr}{tb:Bool}(I:Inv X pins σ H s)(hx:X.ex=[])(e:gP s.heap h' H' x cls dx tb) :
  gP X.s₀.heap h' H' x cls dx tb:=by
 obtain⟨a,b,oe,vs,c1,c2,c3,c4,c5,c6⟩:=e;refine⟨I.first hx a,b,oe,vs,c1,c2,c3,c4,c5,c6.imp id fun⟨T,oT,ts,d1,d2,d3,d4,d5,d6,d7⟩=>⟨T,oT,ts,d1,d2,I.first hx d3,d4,d5,d6,d7⟩⟩
theorem fS.at{P:Program}{w:World}{H:Hp}{h:Heap}{a:Addr}{o:HO}(x:fS P w H h a o):∃ob,h.get? a=some ob:=by
 cases o with
 | lst xs=>obtain⟨_,_,_,_,e⟩:=x;exact⟨_,e⟩
 | tup xs=>obtain⟨_,_,_,_,e,_⟩:=x;exact⟨_,e⟩
 | dK aL=>obtain⟨_,_,_,_,o,_,_,e,_⟩:=x;exact⟨_,e⟩
 | dT aL=>obtain⟨_,_,_,_,o,_,_,e,_⟩:=x;exact⟨_,e⟩
 | set S n=>obtain⟨o,_,_,_,e,_⟩:=x;exact⟨_,e⟩
 | ins C dx fs=>obtain⟨_,_,_,e,_⟩:=x;exact⟨_,e⟩
 | own y=>exact x
 | xd fs=>obtain⟨_,⟨_,_,_,e,_⟩,_⟩:=x;exact⟨_,e⟩
 | DC lo hi=>obtain⟨_,_,_,e⟩:=x;exact⟨_,e⟩
 | fP ob u=>obtain⟨e,_⟩:=x;exact⟨_,e⟩
 | pG ps=>exact⟨_,show h.get? a=some _ from x⟩
 | met f y=>exact⟨_,show h.get? a=some _ from x⟩
 | ext φ=>obtain⟨_,e,_⟩:=x;exact e
section
variable{P:Program}{w:World}{K:Frag}{mg:Str→Option Value}{base:Heap}
abbrev qE(P:Program)(w:World)(K:Frag)(mg:Str→Option Value)(base:Heap)(N:List Str)(qual:Str)(scope:Scope)(f:Addr)(cd:Value)(A:Around)(outer:List Env)(s:Shared)(H:Hp)(E:XK):Cx :=
 (nP (mG P w) P w K mg base N qual scope f cd A outer s H E).jB (XE (nP (mG P w) P w K mg base N qual scope f cd A outer s H E) fun _=>E)
theorem HU{CX:lG}{N:List Str}{qual:Str}{scope:Scope}{f:Addr}{cd:Value}{A:Around}{outer:List Env}{s:Shared}{H:Hp}{E:XK}:kX (nP CX P w K mg base N qual scope f cd A outer s H E):=⟨rfl,rfl,rfl⟩
theorem bN{N:List Str}{qual:Str}{scope:Scope}{f:Addr}{cd:Value}{A:Around}{outer:List Env}{s:Shared}{H:Hp}{E:XK}:sE (qE P w K mg base N qual scope f cd A outer s H E) (fun _=>E):=sE.of HU rfl _
theorem KD{N:List Str}{qual:Str}{scope:Scope}{f:Addr}{cd:Value}{A:Around}{outer:List Env}{s:Shared}{H:Hp}{E:XK}{st:List Stmt}{t:TS}(h:gL (qE P w K mg base N qual scope f cd A outer s H E) st t) :
  gL (nP (mG P w) P w K mg base N qual scope f cd A outer s H E) st t:=by
 intro pins s1 σ H1 D I hw;refine lH (h pins s1 σ H1 D (I.jB _) hw) (fun _ _ q=>q.lM) fun e s' hx=>?_;obtain⟨σ',H',x,cls,dx,rfl,I',ex,q⟩:=hx;show wpAny _ _ (leaving _ _) _ _ _;unfold leaving;refine bI (WV (E:=fun e' yO=>mG P w outer H s E e' yO) I' HU ex fun h1 I1 e1=>?_);refine Ap I1 HU e1 fun h2 I2 e2=>?_;exact⟨x,cls,dx,H',rfl,I2.os,I2.bare,I2.base,I2.aK,e2,q⟩
structure BP(P:Program)(w:World)(K:Frag)(mg:Str→Option Value)(base:Heap)(x:Str)(k:Nat)(ps:List Str)(sp:Sp):Prop where
 ex:∃f fd,fD P w K mg base (mG P w) k f fd ps sp∧mg x=some (.ref f)∧keepIn K (.ref f)=true∧Binds K fd ps []
theorem BP.of{x:Str}{st:Stmt}{N ps:List Str}{k:Nat}{sp:Sp}(h:HasFn K mg x st)(S:dM N ps (aY st))
  (bind:∀(kV doc pm:Value) (an:Option Addr) (aV ct:Value) (us:List Value),us.length=ps.length→bindArgs (fnOf x x (kF st) (eR st) (aY st) .none kV doc pm an aV ct) ⟨us,[]⟩=pure (ps.zip us))
  (len:∀vs H Q E,sp vs H Q E→vs.length=ps.length)
  (gX:∀(f:Addr) (aV:Value) (A:Around) (outer:List Env) (s:Shared) (H:Hp) (vs:List V) (Q:VK) (E:XK),cW k (A.deeper (envOfC x (aY st) s.heap.objs.size f aV))→sp vs H Q E →
   ∃t,gL (qE P w K mg base N x (aY st) f aV A outer s H E) (eR st) t∧t { nx:=fun _ H'=>Q .bS H',rt:=Q } (start N vs) H):BP P w K mg base x (k+1) ps sp:=by
 obtain⟨f,fd,hm,F⟩:=h.ex;refine⟨f,fd,?_,hm,F.kp,F.binds bind⟩;obtain⟨oc,od,kV,doc,pm,an,aV,ct,jU,rfl,lk,gW⟩:=F.ex;refine EY lk gW S len fun A outer s H vs Q E hr iH=>?_;obtain⟨t,h,q⟩:=gX f aV A outer s H vs Q E hr iH;exact⟨t,KD h,q⟩
end
section
variable{X:Cx}{W:WX}{x:Str}{p pos np gK:Pos}{e:Expr}{es:List Expr}{t:TA}
def UQ(sp:Sp)(W:WX)(t:TA):TE:=fun σ H Q=>t σ H fun vs H1=>sp vs H1 Q fun cls dx H'=>W σ cls dx H'
theorem Pt{k:Nat}{ps:List Str}{sp:Sp}(T:sE X W)(D:BP X.prog X.w X.K X.mg X.base x k ps sp)(hr:cW k X.A)(hg:Gl X x)(ha:PA X (e::es) t)
  (jY:(x == ("__debug__" : Str))=false:=by decide) (he:starEach (e::es) X.env=(false,eval e X.env)::starEach es X.env:=by rfl) (jF:(backTo pos (starEach es X.env)).any (·.1)=false:=by rfl) :
  PE X (.Call (.Name x p) (e::es) [] pos) (UQ sp W t):=by
 obtain⟨f,fd,F,hm,hk,hb⟩:=D.ex;intro pins s σ H Q I h;refine HE (YC I hg hm ?_ jY);refine PySem.W.callWith_K (h₀:=X.base) I.ok.mod.EC hk (bE (ha pos pins s σ H _ I h) fun us s1 ⟨vs,H1,I1,r,q⟩=>⟨I1.gT,?_⟩) he jF;have hl:us.length=ps.length:=by rw [← r.length];exact F.len _ _ _ _ q
 have AA:=hb s1 us I1.gT (by rw [nR];exact hl);rw [nR]at AA;refine wpAny_call (FK (F.run X.A X.stack s1 H1 ⟨us,[]⟩ us vs Q _ hr I1.Az AA r q) fun r s' hq=>?_);cases r with
 | error ev =>
  obtain⟨a,cls,dx,H',rfl,os,bare,un,aK,ex,q'⟩:=hq;have I2:=(I1.PX os un aK bare (fun b z=>absurd z (by simp))).WM;exact T.to _ _ ⟨σ,H',a,cls,dx,rfl,I2,(ex.first I1 T.ex).any,q'⟩
 | ok fl =>
  cases fl with
  | ret u=>exact I1.after hq
  | next=>exact False.elim hq
  | brk=>exact False.elim hq
  | cont=>exact False.elim hq
abbrev FO:List Value:=[.type "ValueError",.type "Exception",.type "BaseException",.type "object"]
structure Dv(K:Frag)(C:Addr):Prop where
 MF:PySem.W.excIn K C FO "ValueError.__new__" = true
theorem Dv.obj{K:Frag}{C:Addr}(O:Dv K C){h:Heap}(X:K.In h):∃bm N nm q bs zX sn sub ab col dd k0 k1 k2 k3 k5 mN,h.get? C=some (excClassObj nm q C N bs bm zX sn sub ab col dd k0 k1 k2 k3 k5 "ValueError.__new__")∧h.Ns N mN∧mN "__init__" = none∧OwnTail h FO bm:=by
 have q:=O.MF;unfold PySem.W.excIn at q;split at q
 ·rename_i dd cd sl ho;split at q
  ·rename_i C' bm k0 k1 k2 k3 n k5 hm hs;simp only [jP,beq_iff_eq,xR]at q;obtain⟨⟨⟨⟨⟨rfl,rfl⟩,zW⟩,ht⟩,aK⟩,zO⟩:=q;obtain⟨nm,bs,mro,ns,qn,hd,sn,sub,ab,col,del⟩:=cd;dsimp only at hm zW aK zO;subst hm zW;have wA:sl = #[k0,k1,k2,k3,some (.builtin "ValueError.__new__"),k5]:=by
    obtain⟨l⟩:=sl;simp only at hs;rw [hs]
   subst wA;exact⟨bm,ns,nm,qn,bs,hd,sn,sub,ab,col,dd,k0,k1,k2,k3,k5,_,X _ _ ho,.of_isNs (isNs_of_in X aK),PySem.W.nsMap_none_of_in X aK zO,PySem.W.tail_of_in X ht⟩
  ·cases q
 ·cases q
end
structure XC(K:Frag)(C:Addr):Prop where
 ob:∃nm q N bs bm zX sn sub ab col dd k0 k1 k2 k3 k5,K.lookup C=some (excClassObj nm q C N bs bm zX sn sub ab col dd k0 k1 k2 k3 k5 "ValueError.__new__")
 ga:findIn K (.ref C) "__getattribute__" = some (some (.builtin "BaseException.__getattribute__"))
 gt:findIn K (.ref C) "__getattr__" = some none
 cl:findIn K (.ref C) "__class__" = some (some (.builtin "object.__class__"))
 be:subIn K (.ref C) (.type "BaseException")=some true
 oj:subIn K (.ref C) (.type "object")=some true
section
variable{K:Frag}{C D x:Addr}{oe:Obj}{b:Bool}
theorem XC.get(c:XC K C):∃cd,clsIn K C=some cd∧cd.mro.isEmpty=false∧cd.mro.contains (.ref C)=true∧PySem.W.typeIn K (.ref C)=some (.type "type"):=by
 obtain⟨nm,q,N,bs,bm,zX,sn,sub,ab,col,dd,k0,k1,k2,k3,k5,e⟩:=c.ob;refine⟨{ name:=nm,bases:=bs,mro := .ref C::bm,ns:=N,qualname:=q,hasDict:=zX,slotNames:=sn,subclasses:=sub,abstract:=ab,collection:=col,hasDel:=false },?_,rfl,?_,?_⟩
 ·unfold clsIn;rw [e]
 ·simp
 ·show(K.lookup C).map (·.cls)=_;rw [e];rfl
theorem Tn(cD:XC K D)(cC:XC K C)(s:subIn K (.ref D) (.ref C)=some b):kitOne K (.ref D) (.ref C)=some b:=by
 unfold kitOne;split
 ·rename_i q;have e:D=C:=Value.ref.inj (beq_iff_eq.mp q);subst e;obtain⟨cd,h1,h2,h3,_⟩:=cD.get;change mroIn K D (.ref D)=some b at s;unfold mroIn at s;rw [h1]at s;simp only [Option.bind_some,h2,h3]at s;simpa using s
 ·obtain⟨cd,h1,_,_,h4⟩:=cC.get;unfold PySem.W.kitCls;simp only [h1,h4];exact s
end
def Cx.AJ(X:Cx)(x:Addr)(oe:Obj):Cx:={ X with A:=X.A.mark (some (.ref x)),calm:=false,pn:=X.pn++[(x,oe)],xe:=fun _ _=>False }
theorem Cx.Ok.AJ{X:Cx}(ok:X.Ok)(x:Addr)(oe:Obj):(X.AJ x oe).Ok :=
 ⟨ok.mod,ok.kind,ok.glob,ok.blt,ok.above,ok.inj,ok.has,ok.uN,fun h=>Bool.noConfusion h,ok.frames,ok.mL,ok.uK,ok.bs,ok.mB,ok.pO,ok.rX,ok.jH,ok.nN⟩
section
variable{X:Cx}{σ:St}{H:Hp}{s:Shared}{x:Addr}{oe:Obj}
theorem Inv.AJ(I:Inv X [] σ H s)(p:s.heap.get? x=some oe∧H x=none∧x≠X.env.locals∧x∉X.fs∧∀v,oe.data ≠ .cell v):Inv (X.AJ x oe) [] σ H s :=
 ⟨I.ok.AJ x oe,I.os,I.bare,I.base,I.loc,I.cell,I.free,I.mX,fun q hq=>by
  have hq:q∈(X.pn++[(x,oe)])++[]:=hq;rw [nR]at hq
  rcases eK.mp hq with z | z
  ·exact I.pin q (jM _ z)
  ·rw [kH.mp z];exact p,I.aK,I.len⟩
theorem gP.pin{cls:Value}{dx:Option Addr}{tb:Bool}(I:Inv X [] σ H s)(t:kX X)(e:gP X.s₀.heap s.heap H x cls dx tb):∃oe vs,oe.cls=cls∧oe.dict=dx∧oe.data = .fields vs∧s.heap.get? x=some oe∧H x=none∧x≠X.env.locals∧x∉X.fs∧∀v,oe.data ≠ .cell v:=by
 obtain⟨_,nI,oe,vs,he,hc,ZK,hd,_⟩:=e;have nf:=gP.DQ I he hd;exact⟨oe,vs,hc,ZK,hd,he,nI,fun z=>nf (t.mem.mpr (.inl z)),fun z=>nf (t.mem.mpr (.inr z)),fun v z=>by rw [hd]at z;cases z⟩
end
def Dr(X:Cx)(st:Stmt)(t:TS):Prop:=∀(s:Shared) (σ:St) (H:Hp) (D:Ends),Inv X [] σ H s→t D σ H→wpAny (model X.prog X.w) X.A (exec st X.env) (SP X [] D) X.xe s
def AS(X:Cx)(st:List Stmt)(t:TS):Prop:=∀(s:Shared) (σ:St) (H:Hp) (D:Ends),Inv X [] σ H s→t D σ H→wpAny (model X.prog X.w) X.A (execs st X.env) (SP X [] D) X.xe s
theorem PS.JJ{X:Cx}{st:Stmt}{t:TS}(h:PS X st t):Dr X st t:=h []
theorem gL.JJ{X:Cx}{st:List Stmt}{t:TS}(h:gL X st t):AS X st t:=h []
abbrev TH:=Addr→Value→Option Addr→TS
def Ends.drop(D:Ends)(i:Nat):Ends:=⟨fun σ H=>D.nx (σ.set i none) H,D.rt,fun σ H=>D.bk (σ.set i none) H,fun σ H=>D.ct (σ.set i none) H⟩
section
variable{P:Program}{w:World}{K:Frag}{mg:Str→Option Value}{base:Heap}
theorem AS.lP{X:Cx}{st:List Stmt}{t:TS}(h:AS X.lP st t):AS X st t:=fun s σ H D I hw =>
 lH (h s σ H D (I.jB _) hw) (fun _ _ q=>q.lM) fun _ _ z=>False.elim z
end
def KH(scope sc:Scope)(N:List Str)(js:List Nat):Bool :=
 scope.kind == .function&&(scope.names.all fun y=>y.2 != .cell&&(y.2 != .local||scope.names.lookup y.1 == some .local)&&(y.2 != .free||(sc.names.lookup y.1 == some .cell||sc.names.lookup y.1 == some .free))) &&
 js.all fun j=>match N[j]? with
  | some x=>scope.names.lookup x == some .free
  | none=>false
theorem xM.of{X:Cx}{scope:Scope}{ls:List Str}{js:List Nat}(sc:Scope)(N:List Str)(MM:X.env.scope=sc)(hN:X.N=N)(ok:KH scope sc N js=true):xM X scope ls js:=by
 unfold KH at ok;rw [jP,jP]at ok;obtain⟨⟨h1,h2⟩,h3⟩:=ok;rw [BC]at h2 h3;refine⟨by simpa using h1,fun y hy=>?_,fun y hy hl=>?_,fun y hy hf=>?_,fun j hj=>?_⟩
 ·have q:=h2 y hy;rw [jP,jP]at q;simpa using q.1.1
 ·have q:=h2 y hy;rw [jP,jP]at q;simpa [hl]using q.1.2
 ·have q:=h2 y hy;rw [jP,jP]at q;have q2:=q.2;rw [hf]at q2;unfold Env.kindOf;rw [MM];simpa using q2
 ·have q:=h3 j hj;rw [hN];cases e:N[j]? with
  | none=>rw [e]at q;cases q
  | some x=>rw [e]at q;exact⟨x,rfl,by simpa using q⟩
theorem Kept.same{l:Addr}{H H':Hp}(e:Kept l H H')(hl:H l=none):dZ H H':=fun b o h=>e b o (oG h hl) h
theorem Rows.take{K:Frag}{H:Hp}:∀{xs:List V} {rs:List (List Int)} (k:Nat),Rows K H xs rs→Rows K H (xs.take k) (rs.take k)
 | _,_,0,_ => .nil
 | _,_,_+1,.nil => .nil
 | _,_,k+1,.cons q t => .cons q (Rows.take k t)
theorem Rows.drop{K:Frag}{H:Hp}:∀{xs:List V} {rs:List (List Int)} (k:Nat),Rows K H xs rs→Rows K H (xs.drop k) (rs.drop k)
 | _,_,0,h=>h
 | _,_,_+1,.nil => .nil
 | _,_,k+1,.cons _ t=>Rows.drop k t
theorem Rows.append{K:Frag}{H:Hp}:∀{xs ys:List V} {rs qs:List (List Int)},Rows K H xs rs→Rows K H ys qs→Rows K H (xs++ys) (rs++qs)
 | _,_,_,_,.nil,h=>h
 | _,_,_,_,.cons q t,h => .cons q (Rows.append t h)
end L2
namespace V2
open PySem PySem.Spec PyProof.Rows L2
inductive A where
 | int (i:Int) | bl (b:Bool) | str (x:Str) | bS | ty (n:String) | adr (p:Addr) | FC (p d:Addr) (f:Str) (i:Int) | gl (x:Str) | eO (ns:List Int)
 | tup (ds:List A) | lst (ds:List A) | aM (k:Nat)
inductive Fd where
 | val (a:A) | lst (ds:List A) | gZ (aL:List (Key×A))
@[simp] def Fd.own:Fd→Bool
 | .val _=>false
 | _=>true
inductive Cell where
 | lst (ds:List A) | gZ (aL:List (Key×A)) | ins (cls:Str) (fs:List (Str×Fd)) | tab (x:Str) (pos:Pos) (qual:Str) | dead
@[simp] def Cell.noOwn:Cell→Bool
 | .ins _ fs=>fs.all fun p=>!p.2.own
 | _=>true
structure Exc where
 cls:Str
 fs:List (Str×A)
inductive Rs(α:Type)where
 | ok (a:α) | exc (x:Exc)
abbrev aG:=List Cell
abbrev Ev:=List (Option A)
abbrev Mo(α:Type):=aG→Option (Rs α×aG)
@[simp] def ret{α:Type}(a:α):Mo α:=fun Ω=>some (.ok a,Ω)
@[simp] def mb{α β:Type}(m:Mo α)(k:α→Mo β):Mo β:=fun Ω =>
 match m Ω with
 | some (.ok a,Ω1)=>k a Ω1
 | some (.exc x,Ω1)=>some (.exc x,Ω1)
 | none=>none
@[simp] def stuck{α:Type}:Mo α:=fun _=>none
@[simp] def need{α:Type}(o:Option α):Mo α:=fun Ω=>o.map fun a=>(.ok a,Ω)
@[simp] def hE(p:Prop) [Decidable p]:Mo Unit:=fun Ω=>if p then some (.ok (),Ω)else none
mutual
def Den(K:Frag)(G:Hp)(ι:List Addr):V→A→Prop
 | v,.int j=>v = .int j
 | v,.bl b=>v = .bl b
 | v,.str x=>v = .str x
 | v,.bS=>v = .bS
 | v,.ty n=>v = .ty n
 | v,.adr p=>v = .ref p
 | v, .FC p d f i=>v = .ref p∧G d=some (.xd [(f,.int i)])
 | v,.gl x=>∃C,nsIn K mainGlobals x=some (some (.ref C))∧v = .ref C
 | v,.eO ns=>∃a,v = .ref a∧dO K G a (ns.map V.int)
 | v,.tup ds=>∃a xs,v = .ref a∧G a=some (.tup xs)∧aN K G ι xs ds
 | v,.lst ds=>∃a xs,v = .ref a∧G a=some (.lst xs)∧aN K G ι xs ds
 | v,.aM k=>∃a,v = .ref a∧ι[k]? = some a
def aN(K:Frag)(G:Hp)(ι:List Addr):List V→List A→Prop
 | xs,[]=>xs=[]
 | xs,d::ds=>∃x r,xs=x::r∧Den K G ι x d∧aN K G ι r ds
end
structure Ext(G:Hp)(ι:List Addr)(G':Hp)(ι':List Addr):Prop where
 same:dZ G G'
 pre:∀(k:Nat) (a:Addr),ι[k]? = some a→ι'[k]? = some a
theorem Ext.refl(G:Hp)(ι:List Addr):Ext G ι G ι:=⟨dZ.refl _,fun _ _ h=>h⟩
theorem Ext.trans{G G1 G2:Hp}{ι ι1 ι2:List Addr}(a:Ext G ι G1 ι1)(b:Ext G1 ι1 G2 ι2):Ext G ι G2 ι2:=⟨a.same.trans b.same,fun k x h=>b.pre k x (a.pre k x h)⟩
section
variable{K:Frag}{G G':Hp}{ι ι':List Addr}
mutual
theorem Den.ext(e:Ext G ι G' ι'):∀{v:V} {d:A},Den K G ι v d→Den K G' ι' v d
 | _,.int _,h=>by simpa only [Den]using h
 | _,.bl _,h=>by simpa only [Den]using h
 | _,.str _,h=>by simpa only [Den]using h
 | _,.bS,h=>by simpa only [Den]using h
 | _,.ty _,h=>by simpa only [Den]using h
 | _,.adr _,h=>by simpa only [Den]using h
 | _, .FC _ _ _ _,h=>by
  simp only [Den]at h ⊢;exact⟨h.1,e.same _ _ h.2⟩
 | _,.gl _,h=>by simpa only [Den]using h
 | _,.eO _,h=>by
  simp only [Den]at h ⊢;obtain⟨a,h1,h2⟩:=h;exact⟨a,h1,e.same.seq h2⟩
 | _,.tup ds,h=>by
  simp only [Den]at h ⊢;obtain⟨a,xs,h1,h2,h3⟩:=h;exact⟨a,xs,h1,e.same _ _ h2,aN.ext e h3⟩
 | _,.lst ds,h=>by
  simp only [Den]at h ⊢;obtain⟨a,xs,h1,h2,h3⟩:=h;exact⟨a,xs,h1,e.same _ _ h2,aN.ext e h3⟩
 | _,.aM k,h=>by
  simp only [Den]at h ⊢;obtain⟨a,h1,h2⟩:=h;exact⟨a,h1,e.pre _ _ h2⟩
theorem aN.ext(e:Ext G ι G' ι'):∀{xs:List V} {ds:List A},aN K G ι xs ds→aN K G' ι' xs ds
 | _,[],h=>by simpa only [aN]using h
 | _,d::ds,h=>by
  simp only [aN]at h ⊢;obtain⟨x,r,h1,h2,h3⟩:=h;exact⟨x,r,h1,Den.ext e h2,aN.ext e h3⟩
end
theorem kE{xs:List V}:aN K G ι xs []↔xs=[]:=by simp only [aN]
theorem aN.length:∀{xs:List V} {ds:List A},aN K G ι xs ds→xs.length=ds.length
 | _,[],h=>by simp only [aN]at h;subst h;rfl
 | _,d::ds,h=>by
  simp only [aN]at h;obtain⟨x,r,rfl,h2,h3⟩:=h;simp only [eU,aN.length h3]
theorem aN.nil:aN K G ι [] []:=by simp only [aN]
theorem aN.cons{x:V}{xs:List V}{d:A}{ds:List A}(h:Den K G ι x d)(t:aN K G ι xs ds):aN K G ι (x::xs) (d::ds):=by
 simp only [aN];exact⟨x,xs,rfl,h,t⟩
theorem aN.hX{xs:List V}{d:A}{ds:List A}(h:aN K G ι xs (d::ds)):∃x r,xs=x::r∧Den K G ι x d∧aN K G ι r ds:=by simpa only [aN]using h
theorem aN.get:∀{xs:List V} {ds:List A} {i:Nat} {d:A},aN K G ι xs ds→ds[i]? = some d→∃x,xs[i]? = some x∧Den K G ι x d
 | _,[],_,_,_,e=>by simp at e
 | _,_::_,0,_,h,e=>by
  obtain⟨x,r,rfl,h2,h3⟩:=h.hX;simp at e;subst e;exact⟨x,rfl,h2⟩
 | _,_::_,i+1,_,h,e=>by
  obtain⟨x,r,rfl,h2,h3⟩:=h.hX;simp at e;obtain⟨y,q1,q2⟩:=aN.get h3 e;exact⟨y,by simpa using q1,q2⟩
theorem aN.append:∀{xs ys:List V} {ds es:List A},aN K G ι xs ds→aN K G ι ys es→aN K G ι (xs++ys) (ds++es)
 | _,_,[],_,h,t=>by rw [kE]at h;subst h;exact t
 | _,_,d::ds,_,h,t=>by
  obtain⟨x,r,rfl,h2,h3⟩:=h.hX;exact .cons h2 (aN.append h3 t)
theorem aN.take:∀{xs:List V} {ds:List A} (n:Nat),aN K G ι xs ds→aN K G ι (xs.take n) (ds.take n)
 | _,_,0,_=>by simpa using aN.nil
 | _,[],n+1,h=>by rw [kE]at h;subst h;exact aN.nil
 | _,d::ds,n+1,h=>by
  obtain⟨x,r,rfl,h2,h3⟩:=h.hX;exact .cons h2 (aN.take n h3)
theorem aN.drop:∀{xs:List V} {ds:List A} (n:Nat),aN K G ι xs ds→aN K G ι (xs.drop n) (ds.drop n)
 | _,_,0,h=>by simpa using h
 | _,[],n+1,h=>by rw [kE]at h;subst h;exact aN.nil
 | _,d::ds,n+1,h=>by
  obtain⟨x,r,rfl,h2,h3⟩:=h.hX;exact aN.drop n h3
theorem aN.set{x:V}{d:A}(hx:Den K G ι x d):∀{xs:List V} {ds:List A} (n:Nat),aN K G ι xs ds→aN K G ι (xs.set n x) (ds.set n d)
 | _,[],n,h=>by rw [kE]at h;subst h;exact aN.nil
 | _,e::ds,0,h=>by
  obtain⟨y,r,rfl,h2,h3⟩:=h.hX;exact .cons hx h3
 | _,e::ds,n+1,h=>by
  obtain⟨y,r,rfl,h2,h3⟩:=h.hX;exact .cons h2 (aN.set hx n h3)
theorem aN.dropLast{xs:List V}{ds:List A}(h:aN K G ι xs ds):aN K G ι xs.dropLast ds.dropLast:=by
 rw [List.dropLast_eq_take,List.dropLast_eq_take,h.length];exact h.take _
theorem Bg:∀(ns:List Int),aN K G ι (ns.map V.int) (ns.map A.int)
 | [] => .nil
 | n::ns => .cons (by simp only [Den]) (Bg ns)
end
def abQ(K:Frag)(G H:Hp)(a:Addr)(x:Str)(pos:Pos)(qual:Str):Prop :=
 G a=none∧(∃c,PySem.W.tabIn K x=some (c,a))∧∃ps,H a=some (.pG ps)∧TriplesOk ps.toList ∧
  (codeAmong pos ps.toList=none∨∃c' oc vs t,codeAmong pos ps.toList=some (.ref c')∧G c'=some (.fP oc (.own 0))∧oc.data = .fields vs∧vs[1]? = some (.str qual t))
def iO(K:Frag)(G:Hp)(ι:List Addr)(H:Hp)(v:V):Fd→Prop
 | .val a=>Den K G ι v a
 | .lst ds=>∃b xs,v = .ref b∧G b=none∧b∉ι∧H b=some (.lst xs)∧aN K G ι xs ds
 | .gZ aL=>∃b,∃ws:List (Key×V),v = .ref b∧G b=none∧b∉ι∧H b=some (.dK ws)∧ws.map (·.1)=aL.map (·.1)∧aN K G ι (ws.map (·.2)) (aL.map (·.2))
def jN(K:Frag)(G:Hp)(ι:List Addr)(H:Hp):List (Str×V)→List (Str×Fd)→Prop
 | [],[]=>True
 | (f,v)::ws,(g,d)::fs=>f=g∧iO K G ι H v d∧jN K G ι H ws fs
 | _,_=>False
def qN(K:Frag)(G:Hp)(ι:List Addr)(H:Hp)(a:Addr):Cell→Prop
 | .lst ds=>G a=none∧∃xs,H a=some (.lst xs)∧aN K G ι xs ds
 | .gZ aL=>G a=none∧∃ws:List (Key×V),H a=some (.dK ws)∧ws.map (·.1)=aL.map (·.1)∧aN K G ι (ws.map (·.2)) (aL.map (·.2))
 | .ins cls fs=>G a=none∧∃C dx,∃ws:List (Str×V),nsIn K mainGlobals cls=some (some (.ref C))∧H a=some (.ins C dx ws)∧jN K G ι H ws fs
 | .tab x pos qual=>abQ K G H a x pos qual
 | .dead=>True
def fR(H:Hp)(ι:List Addr)(Ω:aG)(k i:Nat)(b:Addr):Prop:=∃a cls fs C dx ws g h fd,ι[k]? = some a∧Ω[k]? = some (.ins cls fs)∧H a=some (.ins C dx ws)∧fs[i]? = some (g,fd)∧fd.own=true∧ws[i]? = some (h,.ref b)
structure Wd(K:Frag)(G:Hp)(ι:List Addr)(Ω:aG)(H:Hp):Prop where
 sub:dZ G H
 inj:ι.Nodup
 len:ι.length=Ω.length
 live:∀a∈ι,∃o,H a=some o
 aM:∀(k:Nat) (c:Cell) (a:Addr),Ω[k]? = some c→ι[k]? = some a→qN K G ι H a c
 sep:∀(b:Addr) (k i k' i':Nat),fR H ι Ω k i b→fR H ι Ω k' i' b→k=k'∧i=i'
section
variable{K:Frag}{G G' H H':Hp}{ι ι':List Addr}{Ω:aG}{a p:Addr}
theorem iO.mono{v:V}{fd:Fd}(h:iO K G ι H v fd)(e:Ext G ι G' ι')(ho:∀b o,b∉ι→G b=none→H b=some o→b∉ι'∧G' b=none∧H' b=some o):iO K G' ι' H' v fd:=by
 cases fd with
 | val a=>exact Den.ext e h
 | lst ds =>
  obtain⟨b,xs,h1,h2,h3,h4,h5⟩:=h;obtain⟨q1,q2,q3⟩:=ho b _ h3 h2 h4;exact⟨b,xs,h1,q2,q1,q3,h5.ext e⟩
 | gZ aL =>
  obtain⟨b,ws,h1,h2,h3,h4,h5,h6⟩:=h;obtain⟨q1,q2,q3⟩:=ho b _ h3 h2 h4;exact⟨b,ws,h1,q2,q1,q3,h5,h6.ext e⟩
theorem jN.map{K':Frag}{G' H':Hp}{ι':List Addr}(f:∀v fd,iO K G ι H v fd→iO K' G' ι' H' v fd):∀{ws:List (Str×V)} {fs:List (Str×Fd)},jN K G ι H ws fs→jN K' G' ι' H' ws fs
 | [],[],_=>trivial
 | (_,_)::_,(_,_)::_,h=>⟨h.1,f _ _ h.2.1,jN.map f h.2.2⟩
 | [],_::_,h=>h.elim
 | _::_,[],h=>h.elim
theorem qN.mono{c:Cell}(h:qN K G ι H a c)(e:Ext G ι G' ι')(hg:G' a=G a)(hh:H' a=H a)(ho:∀b o,b∉ι→G b=none→H b=some o→b∉ι'∧G' b=none∧H' b=some o):qN K G' ι' H' a c:=by
 cases c with
 | lst ds=>obtain⟨g,xs,h1,h2⟩:=h;exact⟨hg.trans g,xs,hh.trans h1,h2.ext e⟩
 | gZ aL=>obtain⟨g,ws,h1,h2,h3⟩:=h;exact⟨hg.trans g,ws,hh.trans h1,h2,h3.ext e⟩
 | ins cls fs=>obtain⟨g,C,dx,ws,h0,h1,h2⟩:=h;exact⟨hg.trans g,C,dx,ws,h0,hh.trans h1,h2.map fun _ _ q=>q.mono e ho⟩
 | tab x pos qual =>
  obtain⟨g,hc,ps,h1,h2,h3⟩:=h;exact⟨hg.trans g,hc,ps,hh.trans h1,h2,h3.imp id fun⟨c',oc,vs,t,q1,q2,q3⟩=>⟨c',oc,vs,t,q1,e.same _ _ q2,q3⟩⟩
 | dead=>trivial
theorem Wd.addr(w:Wd K G ι Ω H){k:Nat}{c:Cell}(h:Ω[k]? = some c):∃a,ι[k]? = some a:=by
 have hk:=(eA.mp h).1;exact⟨ι[k]'(by rw [w.len];exact hk),eV _⟩
theorem Wd.ne(w:Wd K G ι Ω H)(hp:H p=none)(ha:a∈ι):a≠p:=by
 obtain⟨o,ho⟩:=w.live a ha;exact oG ho hp
theorem Wd.uF(w:Wd K G ι Ω H)(hp:H p=none):G p=none:=by
 cases e:G p with
 | none=>rfl
 | some o=>rw [w.sub _ _ e]at hp;cases hp
theorem fR.to{k i:Nat}{b:Addr}{ι':List Addr}{Ω Ω':aG}(h:fR H ι Ω k i b)(h1:∀a,ι[k]? = some a→ι'[k]? = some a∧∀o,H a=some o→H' a=some o)(h2:∀cls fs,Ω[k]? = some (.ins cls fs)→Ω'[k]? = some (.ins cls fs)):fR H' ι' Ω' k i b:=by
 obtain⟨a,cls,fs,C,dx,ws,g,h',fd,q1,q2,q3,q4,q5,q6⟩:=h;exact⟨a,cls,fs,C,dx,ws,g,h',fd,(h1 a q1).1,h2 _ _ q2,(h1 a q1).2 _ q3,q4,q5,q6⟩
theorem fR.no{k i:Nat}{b:Addr}{c:Cell}(h:fR H ι Ω k i b)(hc:Ω[k]? = some c)(hn:c.noOwn=true):False:=by
 obtain⟨a,cls,fs,C,dx,ws,g,h',fd,q1,q2,q3,q4,q5,q6⟩:=h;rw [hc]at q2;cases q2;simp only [Cell.noOwn,BC]at hn;have:=hn _ (kI q4);simp only []at this;rw [q5]at this;cases this
theorem Wd.grow(w:Wd K G ι Ω H)(s:dZ H H'):Wd K G ι Ω H' where
 sub:=w.sub.trans s
 inj:=w.inj
 len:=w.len
 live:=fun a ha=>let ⟨o,ho⟩:=w.live a ha; ⟨o,s _ _ ho⟩
 aM:=fun k c a h1 h2=>by
  have q:=w.aM k c a h1 h2;cases c with
  | lst ds=>obtain⟨g,xs,h1,h2⟩:=q;exact⟨g,xs,s _ _ h1,h2⟩
  | gZ aL=>obtain⟨g,ws,h1,h2,h3⟩:=q;exact⟨g,ws,s _ _ h1,h2,h3⟩
  | ins cls fs=>obtain⟨g,C,dx,ws,h0,h1,h2⟩:=q;exact⟨g,C,dx,ws,h0,s _ _ h1,h2.map fun _ _ q=>q.mono (Ext.refl _ _) fun b o x y z=>⟨x,y,s _ _ z⟩⟩
  | tab x pos qual =>
   obtain⟨g,hc,ps,h1,h2⟩:=q;exact⟨g,hc,ps,s _ _ h1,h2⟩
  | dead=>trivial
 sep:=fun b k i k' i' h1 h2=>by
  have back:∀{k i},fR H' ι Ω k i b→fR H ι Ω k i b:=fun h=>h.to (fun a ha=>⟨ha,fun o ho=>by
   obtain⟨o',mT⟩:=w.live a (kI ha);have:=s _ _ mT;rw [ho]at this;cases this;exact mT⟩) fun _ _ q=>q
  exact w.sep b k i k' i' (back h1) (back h2)
theorem DR{α:Type}:∀{l:List α} {i j:Nat} {x:α},l.Nodup→l[i]? = some x→l[j]? = some x→i=j
 | [],_,_,_,_,h,_=>by simp at h
 | y::l,0,0,_,_,_,_=>rfl
 | y::l,0,j+1,x,n,h1,h2=>by
  simp at h1 h2;subst h1;exact absurd (kI h2) (xG.mp n).1
 | y::l,i+1,0,x,n,h1,h2=>by
  simp at h1 h2;subst h2;exact absurd (kI h1) (xG.mp n).1
 | y::l,i+1,j+1,x,n,h1,h2=>by
  simp at h1 h2;rw [DR (xG.mp n).2 h1 h2]
theorem zA{α:Type}{l:List α}{k:Nat}{x:α}(h:l[k]? = some x):x∈l:=kI h
theorem Ext.new(hp:G p=none)(o:HO):Ext G ι (upd G p o) ι:=⟨dZ.new hp,fun _ _ h=>h⟩
theorem Wd.new(w:Wd K G ι Ω H)(hp:H p=none)(o:HO):Wd K (upd G p o) ι Ω (upd H p o)where
 sub:=fun b u h=>by
  by_cases e:b=p
  ·subst e;rw [gR]at h ⊢;exact h
  ·rw [cO e]at h ⊢;exact w.sub _ _ h
 inj:=w.inj
 len:=w.len
 live:=fun a ha=>by rw [cO (w.ne hp ha)];exact w.live a ha
 aM:=fun k c a h1 h2=>by
  have n:=w.ne hp (zA h2);exact(w.aM k c a h1 h2).mono (Ext.new (w.uF hp) o) (cO n) (cO n) fun b u x y z=>by
   have nb:b≠p:=oG z hp;exact⟨x,by rw [cO nb];exact y,by rw [cO nb];exact z⟩
 sep:=fun b k i k' i' h1 h2=>by
  have back:∀{k i},fR (upd H p o) ι Ω k i b→fR H ι Ω k i b:=fun h=>h.to (fun a ha=>⟨ha,fun u hu=>by rwa [cO (w.ne hp (kI ha))]at hu⟩) fun _ _ q=>q;exact w.sep b k i k' i' (back h1) (back h2)
theorem Ext.cell(x:Addr):Ext G ι G (ι++[x]):=⟨dZ.refl _,fun k a h=>by
 rw [gO (eA.mp h).1];exact h⟩
theorem Wd.cell(w:Wd K G ι Ω H)(hp:H p=none){o:HO}{c:Cell}(hc:qN K G (ι++[p]) (upd H p o) p c)(zN:c.noOwn=true:=by rfl):Wd K G (ι++[p]) (Ω++[c]) (upd H p o)where
 sub:=fun b u h=>by
  have e:b≠p:=fun e=>by subst e;rw [w.sub _ _ h]at hp;cases hp
  rw [cO e];exact w.sub _ _ h
 inj:=by
  rw [List.nodup_append];exact⟨w.inj,by simp,fun a ha b hb=>by simp at hb;subst hb;exact w.ne hp ha⟩
 len:=by simp [w.len]
 live:=fun a ha=>by
  rcases eK.mp ha with h | h
  ·rw [cO (w.ne hp h)];exact w.live a h
  ·simp at h;subst h;exact⟨o,gR⟩
 aM:=fun k c' a h1 h2=>by
  by_cases hk:k<ι.length
  ·rw [gO hk]at h2;rw [gO (by rw [← w.len];exact hk)]at h1;exact(w.aM k c' a h1 h2).mono (Ext.cell p) rfl (cO (w.ne hp (zA h2))) fun b u x y z=>by
    have nb:b≠p:=oG z hp;exact⟨by simp [x,nb],y,by rw [cO nb];exact z⟩
  ·have nK:k=ι.length:=by
    have:=(eA.mp h2).1;simp at this;omega
   subst nK;simp at h2;subst h2;rw [w.len]at h1;simp at h1;subst h1;exact hc
 sep:=fun b k i k' i' h1 h2=>by
  have back:∀{k i},fR (upd H p o) (ι++[p]) (Ω++[c]) k i b→fR H ι Ω k i b:=fun{k i} h=>by
   have h0:=h;obtain⟨a,cls,fs,C,dx,ws,g,h',fd,q1,q2,q3,q4,q5,q6⟩:=h
   by_cases hk:k<Ω.length
   ·rw [gO hk]at q2;rw [gO (by rw [w.len];exact hk)]at q1;rw [cO (w.ne hp (zA q1))]at q3;exact⟨a,cls,fs,C,dx,ws,g,h',fd,q1,q2,q3,q4,q5,q6⟩
   ·have nK:k=Ω.length:=by
     have:=(eA.mp q2).1;simp at this;omega
    subst nK;exact(h0.no (by simp) zN).elim
  exact w.sep b k i k' i' (back h1) (back h2)
theorem Wd.put(w:Wd K G ι Ω H){k:Nat}{c:Cell}{o:HO}(hk:ι[k]? = some a)(hg:G a=none)(hc:qN K G ι (upd H a o) a c)(zN:c.noOwn=true:=by rfl):Wd K G ι (Ω.set k c) (upd H a o)where
 sub:=fun b u h=>by
  have e:b≠a:=fun e=>by subst e;rw [hg]at h;cases h
  rw [cO e];exact w.sub _ _ h
 inj:=w.inj
 len:=by rw [AY];exact w.len
 live:=fun b hb=>by
  by_cases e:b=a
  ·subst e;exact⟨o,gR⟩
  ·rw [cO e];exact w.live b hb
 aM:=fun j c' b h1 h2=>by
  by_cases hj:j=k
  ·subst hj;rw [hk]at h2;cases h2;have hl:j<Ω.length:=by rw [← w.len];exact(eA.mp hk).1
   rw [nQ hl]at h1;cases h1;exact hc
  ·rw [pA (fT hj)]at h1;have cQ:b≠a:=fun e=>by
    subst e;exact hj (DR w.inj h2 hk)
   exact(w.aM j c' b h1 h2).mono (Ext.refl _ _) rfl (cO cQ) fun b u x y z=>by
    have nb:b≠a:=fun e=>by subst e;exact x (zA hk)
    exact⟨x,y,by rw [cO nb];exact z⟩
 sep:=fun b j i j' i' h1 h2=>by
  have back:∀{j i},fR (upd H a o) ι (Ω.set k c) j i b→fR H ι Ω j i b:=fun{j i} h=>by
   have h0:=h;obtain⟨a',cls,fs,C,dx,ws,g,h',fd,q1,q2,q3,q4,q5,q6⟩:=h
   by_cases hj:j=k
   ·subst hj;have hl:j<Ω.length:=by rw [← w.len];exact(eA.mp hk).1
    exact(h0.no (by rw [nQ hl]) zN).elim
   ·rw [pA (fT hj)]at q2;have cQ:a'≠a:=fun e=>by subst e;exact hj (DR w.inj q1 hk)
    rw [cO cQ]at q3;exact⟨a',cls,fs,C,dx,ws,g,h',fd,q1,q2,q3,q4,q5,q6⟩
  exact w.sep b j i j' i' (back h1) (back h2)
theorem Wd.freeze(w:Wd K G ι Ω H){k:Nat}{o:HO}(hk:ι[k]? = some a)(hg:G a=none)(ho:H a=some o):Wd K (upd G a o) ι (Ω.set k .dead) H where
 sub:=fun b u h=>by
  by_cases e:b=a
  ·subst e;rw [gR]at h;cases h;exact ho
  ·rw [cO e]at h;exact w.sub _ _ h
 inj:=w.inj
 len:=by rw [AY];exact w.len
 live:=w.live
 aM:=fun j c' b h1 h2=>by
  by_cases hj:j=k
  ·subst hj;have hl:j<Ω.length:=by rw [← w.len];exact(eA.mp hk).1
   rw [nQ hl]at h1;cases h1;trivial
  ·rw [pA (fT hj)]at h1;have cQ:b≠a:=fun e=>by
    subst e;exact hj (DR w.inj h2 hk)
   exact(w.aM j c' b h1 h2).mono (Ext.new hg o) (cO cQ) rfl fun b u x y z=>by
    have nb:b≠a:=fun e=>by subst e;exact x (zA hk)
    exact⟨x,by rw [cO nb];exact y,z⟩
 sep:=fun b j i j' i' h1 h2=>by
  have back:∀{j i},fR H ι (Ω.set k .dead) j i b→fR H ι Ω j i b:=fun{j i} h=>by
   have h0:=h;obtain⟨a',cls,fs,C,dx,ws,g,h',fd,q1,q2,q3,q4,q5,q6⟩:=h
   by_cases hj:j=k
   ·subst hj;have hl:j<Ω.length:=by rw [← w.len];exact(eA.mp hk).1
    exact(h0.no (by rw [nQ hl]) rfl).elim
   ·rw [pA (fT hj)]at q2;exact⟨a',cls,fs,C,dx,ws,g,h',fd,q1,q2,q3,q4,q5,q6⟩
  exact w.sep b j i j' i' (back h1) (back h2)
end
def eX(K:Frag)(G:Hp)(ι:List Addr)(σ:L2.St)(ρ:Ev):Prop:=σ.length=ρ.length∧∀(i:Nat) (d:A),ρ[i]? = some (some d)→∃v,σ[i]? = some (some v)∧Den K G ι v d
theorem eX.ext{K:Frag}{G G':Hp}{ι ι':List Addr}{σ:L2.St}{ρ:Ev}(r:eX K G ι σ ρ)(e:Ext G ι G' ι'):eX K G' ι' σ ρ:=⟨r.1,fun i d h=>let ⟨v,h1,h2⟩:=r.2 i d h; ⟨v,h1,h2.ext e⟩⟩
theorem eX.set{K:Frag}{G:Hp}{ι:List Addr}{σ:L2.St}{ρ:Ev}(r:eX K G ι σ ρ)(j:Nat){v:V}{d:A}(h:Den K G ι v d):eX K G ι (σ.set j (some v)) (ρ.set j (some d)):=by
 refine⟨by rw [AY,AY];exact r.1,fun i e he=>?_⟩
 by_cases dE:i=j
 ·subst dE;have hl:i<ρ.length:=by
   have:=(eA.mp he).1;rwa [AY]at this
  rw [nQ hl]at he;cases he;exact⟨v,nQ (by rw [r.1];exact hl),h⟩
 ·rw [pA (fT dE)]at he ⊢;exact r.2 i e he
def Ex(K:Frag)(G:Hp)(ι:List Addr)(H:Hp)(x:Exc)(cls:Value)(dx:Option Addr):Prop :=
 (∃C,nsIn K mainGlobals x.cls=some (some (.ref C))∧cls = .ref C)∧((x.fs=[]∧dx=none)∨∃d f i,dx=some d∧x.fs=[(f,.int i)]∧G d=some (.xd [(f,.int i)]))
abbrev Rl(α β:Type):=Hp→List Addr→β→α→Prop
def bG{α β:Type}(K:Frag)(rel:Rl α β)(W:WX)(G:Hp)(ι:List Addr)(σ:L2.St)(Q:β→Hp→Prop):Option (Rs α×aG)→Prop
 | some (.ok a,Ω')=>∀v H' G' ι',Ext G ι G' ι'→Wd K G' ι' Ω' H'→rel G' ι' v a→Q v H'
 | some (.exc x,Ω')=>∀cls dx H' G' ι',Ext G ι G' ι'→Wd K G' ι' Ω' H'→Ex K G' ι' H' x cls dx→W σ cls dx H'
 | none=>False
theorem bG.ext{α β:Type}{K:Frag}{rel:Rl α β}{W:WX}{G G1:Hp}{ι ι1:List Addr}{σ:L2.St}{Q:β→Hp→Prop}{r:Option (Rs α×aG)}(h:bG K rel W G ι σ Q r)(e:Ext G ι G1 ι1):bG K rel W G1 ι1 σ Q r:=by
 match r,h with
 | some (.ok a,Ω'),h=>exact fun v H' G' ι' x w d=>h v H' G' ι' (e.trans x) w d
 | some (.exc x,Ω'),h=>exact fun cls dx H' G' ι' x w d=>h cls dx H' G' ι' (e.trans x) w d
theorem bG.mb{α β γ δ:Type}{K:Frag}{rel:Rl α β}{qX:Rl γ δ}{W:WX}{G:Hp}{ι:List Addr}{σ:L2.St}{Q:δ→Hp→Prop}{Q1:β→Hp→Prop}{m:Mo α}{k:α→Mo γ}{Ω:aG}(h:bG K qX W G ι σ Q (mb m k Ω))
  (hk:∀a Ω1 v H1 G1 ι1,Ext G ι G1 ι1→Wd K G1 ι1 Ω1 H1→rel G1 ι1 v a→bG K qX W G1 ι1 σ Q (k a Ω1)→Q1 v H1):bG K rel W G ι σ Q1 (m Ω):=by
 unfold V2.mb at h
 revert h
 generalize m Ω=r;intro h
 match r,h with
 | some (.ok a,Ω1),h=>exact fun v H1 G1 ι1 x w d=>hk a Ω1 v H1 G1 ι1 x w d (bG.ext h x)
 | some (.exc x,Ω1),h=>exact h
theorem bG.need{α β γ:Type}{K:Frag}{qX:Rl α β}{W:WX}{G:Hp}{ι:List Addr}{σ:L2.St}{Q:β→Hp→Prop}{o:Option γ}{k:γ→Mo α}{Ω:aG}(h:bG K qX W G ι σ Q (V2.mb (need o) k Ω)):∃a,o=some a∧bG K qX W G ι σ Q (k a Ω):=by
 cases o with
 | none=>exact False.elim h
 | some a=>exact⟨a,rfl,h⟩
theorem bG.hE{α β:Type}{K:Frag}{qX:Rl α β}{W:WX}{G:Hp}{ι:List Addr}{σ:L2.St}{Q:β→Hp→Prop}{p:Prop} [Decidable p]{k:Unit→Mo α}{Ω:aG}(h:bG K qX W G ι σ Q (V2.mb (hE p) k Ω)):p∧bG K qX W G ι σ Q (k () Ω):=by
 unfold V2.mb V2.hE at h
 by_cases hp:p
 ·rw [if_pos hp]at h;exact⟨hp,h⟩
 ·rw [if_neg hp]at h;exact False.elim h
def eS{α β:Type}(K:Frag)(rel:Rl α β)(W:WX)(t:L2.St→Hp→(β→Hp→Prop)→Prop)(f:Ev→Mo α):Prop :=
 ∀G ι Ω H σ ρ Q,Wd K G ι Ω H→eX K G ι σ ρ→bG K rel W G ι σ Q (f ρ Ω)→t σ H Q
def tH:Rl Bool Bool:=fun _ _ b c=>b=c
def VE(X:Cx)(W:WX)(e:Expr)(f:Ev→Mo A):Prop:=∃t,PE X e t∧eS X.K (Den X.K) W t f
def VT(X:Cx)(W:WX)(e:Expr)(f:Ev→Mo Bool):Prop:=∃t,PT X e t∧eS X.K tH W t f
def VW(X:Cx)(W:WX)(e:Expr)(f:Ev→Mo Bool):Prop:=∃t,PW X e t∧eS X.K tH W t f
def VA(X:Cx)(W:WX)(es:List Expr)(f:Ev→Mo (List A)):Prop:=∃t,PA X es t∧eS X.K (aN X.K) W t f
end V2
namespace V2
open PySem PySem.Spec PyProof.Rows L2
section
variable{K:Frag}{G H:Hp}{ι:List Addr}{Ω:aG}{v:V}{a:A}
def bP(Ω:aG):A→Option (List A)
 | .lst ds=>some ds
 | .eO ns=>some (ns.map A.int)
 | .aM k=>match Ω[k]? with
  | some (.lst ds)=>some ds
  | _=>none
 | _=>none
def fA(Ω:aG):A→Option (List A)
 | .tup ds=>some ds
 | a=>bP Ω a
theorem tO(w:Wd K G ι Ω H)(d:Den K G ι v a){ds:List A}(h:bP Ω a=some ds):∃p xs,v = .ref p∧dO K H p xs∧aN K G ι xs ds:=by
 cases a with
 | lst es =>
  simp only [bP,iY]at h;subst h;simp only [Den]at d;obtain⟨p,xs,h1,h2,h3⟩:=d;exact⟨p,xs,h1,dO.of (w.sub _ _ h2),h3⟩
 | eO ns =>
  simp only [bP,iY]at h;subst h;simp only [Den]at d;obtain⟨p,h1,h2⟩:=d;exact⟨p,_,h1,w.sub.seq h2,Bg ns⟩
 | aM k =>
  simp only [bP]at h;cases e:Ω[k]? with
  | none=>rw [e]at h;cases h
  | some c =>
   rw [e]at h;cases c with
   | lst es =>
    simp only [iY]at h;subst h;simp only [Den]at d;obtain⟨p,h1,h2⟩:=d;obtain⟨g,xs,h3,h4⟩:=w.aM k _ p e h2;exact⟨p,xs,h1,dO.of h3,h4⟩
   | _=>cases h
 | _=>simp [bP]at h
theorem CT(w:Wd K G ι Ω H)(d:Den K G ι v a){ds:List A}(h:fA Ω a=some ds):∃p xs,v = .ref p∧(dO K H p xs∨dF K H p xs)∧aN K G ι xs ds:=by
 cases a with
 | tup es =>
  simp only [fA,iY]at h;subst h;simp only [Den]at d;obtain⟨p,xs,h1,h2,h3⟩:=d;exact⟨p,xs,h1,.inr (dF.of (w.sub _ _ h2)),h3⟩
 | _ =>
  obtain⟨p,xs,h1,h2,h3⟩:=tO w d h;exact⟨p,xs,h1,.inl h2,h3⟩
theorem WL(w:Wd K G ι Ω H)(d:Den K G ι v a){ds:List A}(h:bP Ω a=some ds)(hs:∀ns,a ≠ .eO ns):∃p xs,v = .ref p∧H p=some (.lst xs)∧aN K G ι xs ds:=by
 cases a with
 | lst es =>
  simp only [bP,iY]at h;subst h;simp only [Den]at d;obtain⟨p,xs,h1,h2,h3⟩:=d;exact⟨p,xs,h1,w.sub _ _ h2,h3⟩
 | eO ns=>exact absurd rfl (hs ns)
 | aM k =>
  simp only [bP]at h;cases e:Ω[k]? with
  | none=>rw [e]at h;cases h
  | some c =>
   rw [e]at h;cases c with
   | lst es =>
    simp only [iY]at h;subst h;simp only [Den]at d;obtain⟨p,h1,h2⟩:=d;obtain⟨g,xs,h3,h4⟩:=w.aM k _ p e h2;exact⟨p,xs,h1,h3,h4⟩
   | _=>cases h
 | _=>simp [bP]at h
end
@[simp] def tK(c:Bool)(ds:List A):Mo A:=fun Ω=>if c then some (.ok (.aM Ω.length),Ω++[.lst ds])else some (.ok (.lst ds),Ω)
section
variable{K:Frag}{G H:Hp}{ι:List Addr}{Ω:aG}{W:WX}{σ:L2.St}{Q:VK}
theorem yW{c:Bool}{ds:List A}{xs:List V}{p:Addr}(w:Wd K G ι Ω H)(hp:H p=none)(d:aN K G ι xs ds)(h:bG K (Den K) W G ι σ Q (tK c ds Ω)):Q (.ref p) (upd H p (.lst xs)):=by
 cases c with
 | true =>
  refine h _ _ G (ι++[p]) (Ext.cell p) (w.cell hp ⟨w.uF hp,xs,gR,d.ext (Ext.cell p)⟩) ?_;simp only [Den];exact⟨p,rfl,by rw [← w.len];simp⟩
 | false =>
  refine h _ _ _ _ (Ext.new (w.uF hp) (.lst xs)) (w.new hp _) ?_;simp only [Den];exact⟨p,xs,rfl,gR,d.ext (Ext.new (w.uF hp) _)⟩
@[simp] def JQ(ds:List A):Mo A:=ret (.tup ds)
theorem JP{ds:List A}{xs:List V}{p:Addr}(w:Wd K G ι Ω H)(hp:H p=none)(d:aN K G ι xs ds)(h:bG K (Den K) W G ι σ Q (JQ ds Ω)):Q (.ref p) (upd H p (.tup xs)):=by
 refine h _ _ _ _ (Ext.new (w.uF hp) (.tup xs)) (w.new hp _) ?_;simp only [Den];exact⟨p,xs,rfl,gR,d.ext (Ext.new (w.uF hp) _)⟩
theorem gG{α β:Type}{rel:Rl α β}{Q:β→Hp→Prop}{a:α}{b:β}(w:Wd K G ι Ω H)(d:rel G ι b a)(h:bG K rel W G ι σ Q (ret a Ω)):Q b H:=h b H G ι (Ext.refl _ _) w d
end
section
variable{X:Cx}{W:WX}{e a b:Expr}{es:List Expr}{pos:Pos}{fa fb:Ev→Mo A}{fs:Ev→Mo (List A)}
@[simp] def eZ(i:Nat):Ev→Mo A:=fun ρ=>need (ρ[i]?).join
theorem join_some{α:Type}{o:Option (Option α)}{x:α}(h:o.join=some x):o=some (some x):=by
 cases o with
 | none=>cases h
 | some y=>cases y with
  | none=>cases h
  | some z=>cases h;rfl
theorem Mg{K:Frag}{i:Nat}:eS K (Den K) W (HX i) (eZ i):=by
 intro G ι Ω H σ ρ Q w r h;unfold eZ need at h;cases e:(ρ[i]?).join with
 | none=>rw [e]at h;exact False.elim h
 | some d =>
  rw [e]at h;obtain⟨v,h1,h2⟩:=r.2 i d (join_some e);exact⟨v,h1,h v H G ι (Ext.refl _ _) w h2⟩
theorem vv(i:Nat){x:Str}(hN:X.N[i]? = some x:=by rfl)(hv:FZ X.env.scope x:=by first | exact Or.inl rfl | exact Or.inr (Or.inl rfl) | exact Or.inr (Or.inr rfl))(hd:(x == ("__debug__" : Str))=false:=by decide)
  (gW:(x == ("__classdict__" : Str))=false:=by decide):VE X W (.Name x pos) (eZ i):=⟨_,WO hN hv hd gW,Mg⟩
@[simp] def CD(i:Nat):Ev→Mo A:=fun ρ Ω=>match (ρ[i]?).join with
 | some (.aM k)=>match Ω[k]? with
  | some (.lst ds)=>some (.ok (.lst ds),Ω.set k .dead)
  | _=>none
 | _=>none
theorem Mj{K:Frag}{i:Nat}:eS K (Den K) W (HX i) (CD i):=by
 intro G ι Ω H σ ρ Q w r h;unfold CD at h;cases e:(ρ[i]?).join with
 | none=>rw [e]at h;exact False.elim h
 | some d =>
  rw [e]at h;cases d with
  | aM k =>
   simp only at h;cases e2:Ω[k]? with
   | none=>rw [e2]at h;exact False.elim h
   | some c =>
    rw [e2]at h;cases c with
    | lst ds =>
     obtain⟨v,h1,h2⟩:=r.2 i _ (join_some e);simp only [Den]at h2;obtain⟨p,rfl,h4⟩:=h2;obtain⟨g,xs,h5,h6⟩:=w.aM k _ p e2 h4;refine⟨_,h1,h _ H (upd G p (.lst xs)) ι (Ext.new g _) (w.freeze h4 g h5) ?_⟩;simp only [Den];exact⟨p,xs,rfl,gR,h6.ext (Ext.new g _)⟩
    | _=>exact False.elim h
  | _=>exact False.elim h
theorem vf(i:Nat){x:Str}(hN:X.N[i]? = some x:=by rfl)(hv:FZ X.env.scope x:=by first | exact Or.inl rfl | exact Or.inr (Or.inl rfl) | exact Or.inr (Or.inr rfl))(hd:(x == ("__debug__" : Str))=false:=by decide)
  (gW:(x == ("__classdict__" : Str))=false:=by decide):VE X W (.Name x pos) (CD i):=⟨_,WO hN hv hd gW,Mj⟩
theorem IG{K:Frag}{v:V}{d:A}(h:∀G ι,Den K G ι v d):eS K (Den K) W (tC v) (fun _=>ret d):=fun G ι _ _ _ _ _ w _ q=>gG w (h G ι) q
theorem aF{i:Int}{j}:VE X W (.Constant (.int i) j pos) (fun _=>ret (.int i)):=⟨_,Pp,IG fun _ _=>by simp only [Den]⟩
theorem sT{i:Bool}{j}:VE X W (.Constant (.bool i) j pos) (fun _=>ret (.bl i)):=⟨_,Qb,IG fun _ _=>by simp only [Den]⟩
theorem xZ{x:Str}{n:String}(hg:Gl X x)(hm:X.mg x=none)(hv:bootBuiltins x=some (.type n))(hn:x ≠ "__name__":=by decide)(hd:(x == ("__debug__" : Str))=false:=by decide):VE X W (.Name x pos) (fun _=>ret (.ty n)) :=
 ⟨_,Qa (v := .ty n) hg hm hv rfl hn hd,IG fun _ _=>by simp only [Den]⟩
theorem aJ:VA X W [] (fun _=>ret []):=⟨_,Qe,fun _ _ _ _ _ _ _ w _ q=>gG w .nil q⟩
@[simp] def aB(f:Ev→Mo A)(g:Ev→Mo (List A)):Ev→Mo (List A):=fun ρ=>mb (f ρ) fun x=>mb (g ρ) fun xs=>ret (x::xs)
theorem aC(h1:VE X W e fa)(h2:VA X W es fs)(hs:starEach (e::es) X.env=(false,eval e X.env)::starEach es X.env:=by rfl):VA X W (e::es) (aB fa fs):=by
 obtain⟨t,p1,s1⟩:=h1;obtain⟨u,p2,s2⟩:=h2;refine⟨_,Qf p1 p2 hs,fun G ι Ω H σ ρ Q w r h=>?_⟩;refine s1 G ι Ω H σ ρ _ w r (bG.mb h fun x Ω1 v H1 G1 ι1 x1 w1 d1 h1=>?_);refine s2 G1 ι1 Ω1 H1 σ ρ _ w1 (r.ext x1) (bG.mb h1 fun xs Ω2 vs H2 G2 ι2 x2 w2 d2 h2=>?_);exact gG w2 (.cons (d1.ext x2) d2) h2
@[simp] def hW(g:Ev→Mo (List A)):Ev→Mo A:=fun ρ=>mb (g ρ) fun xs=>mb (hE (xs.length≤sizeLine)) fun _=>JQ xs
theorem iS{k}(h:VA X W es fs):VE X W (.Tuple es k pos) (hW fs):=by
 obtain⟨t,p,s⟩:=h;refine⟨_,Pf p,fun G ι Ω H σ ρ Q w r h=>?_⟩;refine s G ι Ω H σ ρ _ w r (bG.mb h fun xs Ω1 vs H1 G1 ι1 x1 w1 d1 h1=>?_);obtain⟨hl,h2⟩:=bG.hE h1;exact⟨by rw [d1.length];exact hl,fun p hp=>JP w1 hp d1 h2⟩
@[simp] def fM(c:Bool)(g:Ev→Mo (List A)):Ev→Mo A:=fun ρ=>mb (g ρ) fun xs=>mb (hE (xs.length≤sizeLine)) fun _=>tK c xs
theorem fV(c:Bool)(h:VA X W es fs):VE X W (.List es pos) (fM c fs):=by
 obtain⟨t,p,s⟩:=h;refine⟨_,Pl p,fun G ι Ω H σ ρ Q w r h=>?_⟩;refine s G ι Ω H σ ρ _ w r (bG.mb h fun xs Ω1 vs H1 G1 ι1 x1 w1 d1 h1=>?_);obtain⟨hl,h2⟩:=bG.hE h1;exact⟨by rw [d1.length];exact hl,fun p hp=>yW w1 hp d1 h2⟩
def xA(K:Frag)(W:WX)(r:R2)(g:A→A→Mo A):Prop :=
 ∀G ι Ω H σ x y a b Q,Wd K G ι Ω H→Den K G ι x a→Den K G ι y b→bG K (Den K) W G ι σ Q (g a b Ω)→r x y H Q
def kG(X:Cx)(W:WX)(f:Value→Value→Sem Value)(g:A→A→Mo A):Prop:=∃r,eT X f r∧xA X.K W r g
@[simp] def aD(g:A→A→Mo A)(f h:Ev→Mo A):Ev→Mo A:=fun ρ=>mb (f ρ) fun x=>mb (h ρ) fun y=>g x y
theorem CU{K:Frag}{r:R2}{g:A→A→Mo A}{ta tb:TE}(ho:xA K W r g)(h1:eS K (Den K) W ta fa)(h2:eS K (Den K) W tb fb):eS K (Den K) W (yI r ta tb) (aD g fa fb):=by
 intro G ι Ω H σ ρ Q w q h;refine h1 G ι Ω H σ ρ _ w q (bG.mb h fun x Ω1 v H1 G1 ι1 x1 w1 d1 h1=>?_);refine h2 G1 ι1 Ω1 H1 σ ρ _ w1 (q.ext x1) (bG.mb h1 fun y Ω2 u H2 G2 ι2 x2 w2 d2 h2=>?_);exact ho G2 ι2 Ω2 H2 σ v u x y Q w2 (d1.ext x2) d2 h2
theorem aO{op:Operator}{g:A→A→Mo A}(ho:kG X W (binaryOp op) g)(ha:VE X W a fa)(hb:VE X W b fb):VE X W (.BinOp a op b pos) (aD g fa fb):=by
 obtain⟨r,o1,o2⟩:=ho;obtain⟨t,p1,s1⟩:=ha;obtain⟨u,p2,s2⟩:=hb;exact⟨_,Pj o1 p1 p2,CU o2 s1 s2⟩
@[simp] def gI(C:Int→Int→Prop) [∀i j,Decidable (C i j)](g:Int→Int→A):A→A→Mo A
 | .int i,.int j=>mb (hE (C i j)) fun _=>ret (g i j)
 | _,_=>stuck
theorem DJ{K:Frag}{C:Int→Int→Prop} [∀i j,Decidable (C i j)]{g:Int→Int→V}{g':Int→Int→A}(hg:∀G ι i j,Den K G ι (g i j) (g' i j)):xA K W (rI C g) (gI C g'):=by
 intro G ι Ω H σ x y a b Q w d1 d2 h;cases a with
 | int i =>
  cases b with
  | int j =>
   simp only [Den]at d1 d2;obtain⟨hc,h2⟩:=bG.hE h;exact⟨i,j,d1,d2,hc,gG w (hg _ _ _ _) h2⟩
  | _=>exact False.elim h
 | _=>exact False.elim h
@[simp] def wI(g:Int→Int→A):A→A→Mo A
 | .int i,.int j=>ret (g i j)
 | _,_=>stuck
theorem yS{K:Frag}{g:Int→Int→V}{g':Int→Int→A}(hg:∀G ι i j,Den K G ι (g i j) (g' i j)):xA K W (pM g) (wI g'):=by
 intro G ι Ω H σ x y a b Q w d1 d2 h;cases a with
 | int i =>
  cases b with
  | int j =>
   simp only [Den]at d1 d2;exact⟨i,j,d1,d2,gG w (hg _ _ _ _) h⟩
  | _=>exact False.elim h
 | _=>exact False.elim h
instance:∀i j,Decidable (kJ i j):=fun i j=>by unfold kJ;infer_instance
instance:∀i j,Decidable (nW i j):=fun i j=>by unfold nW;infer_instance
instance:∀i j,Decidable (xQ i j):=fun i j=>by unfold xQ;infer_instance
@[simp] def jG:=wI fun i j => .int (i - j)
@[simp] def oR:=gI kJ fun i j => .int (i*j)
@[simp] def pZ:=gI nW fun i j => .int (i/j)
@[simp] def fY:=gI (fun _ j=>0<j) fun i j => .int (i%j)
@[simp] def AB:=gI xQ fun i j => .int (i ^ j.toNat)
theorem lN:kG X W (binaryOp .Sub) jG:=⟨_,Ql,yS fun _ _ _ _=>by simp only [Den]⟩
theorem pN:kG X W (binaryOp .Mult) oR:=⟨_,Qo,DJ fun _ _ _ _=>by simp only [Den]⟩
theorem qY:kG X W (binaryOp .FloorDiv) pZ:=⟨_,Qu,DJ fun _ _ _ _=>by simp only [Den]⟩
theorem gH:kG X W (binaryOp .Mod) fY:=⟨_,Qp,DJ fun _ _ _ _=>by simp only [Den]⟩
theorem DM:kG X W (binaryOp .Pow) AB:=⟨_,Qm,DJ fun _ _ _ _=>by simp only [Den]⟩
@[simp] def pS:A→Bool
 | .eO _=>true
 | _=>false
theorem WW{a:A}(h:pS a=false):∀ns,a ≠ .eO ns:=fun ns e=>by subst e;cases h
@[simp] def OP(c:Bool)(a b:A):Mo A:=fun Ω=>match bP Ω a,bP Ω b with
  | some xs,some ys=>if pS a||pS b||decide (sizeLine<xs.length+ys.length)then none else tK c (xs++ys) Ω
  | _,_=>none
@[simp] def OR(c:Bool):A→A→Mo A
 | .int i,.int j=>ret (.int (i+j))
 | .tup xs,.tup ys=>mb (hE (0<xs.length∧xs.length+ys.length≤sizeLine)) fun _=>JQ (xs++ys)
 | a,b=>OP c a b
theorem Qk{K:Frag}{c:Bool}:xA K W WI (OP c):=by
 intro G ι Ω H σ x y a b Q w d1 d2 h;unfold OP at h
 match e1:bP Ω a,e2:bP Ω b with
 | none,_=>rw [e1]at h;exact False.elim h
 | some xs,none=>rw [e1,e2]at h;exact False.elim h
 | some xs,some ys =>
  rw [e1,e2]at h;simp only at h
  by_cases hb:(pS a||pS b||decide (sizeLine<xs.length+ys.length))=true
  ·rw [if_pos hb]at h;exact False.elim h
  ·rw [if_neg hb]at h;simp only [Bool.or_eq_true,wO,not_or,Bool.not_eq_true]at hb;obtain⟨p,us,rfl,h2,h3⟩:=WL w d1 e1 (WW hb.1.1);obtain⟨q,ws,rfl,h5,h6⟩:=WL w d2 e2 (WW hb.1.2);exact⟨p,q,us,ws,rfl,rfl,h2,h5,by rw [h3.length,h6.length];omega,fun r hr=>yW w hr (h3.append h6) h⟩
theorem cH(c:Bool):kG X W (binaryOp .Add) (OR c):=by
 refine⟨_,Qy.or (Qx.or Qw),?_⟩;intro G ι Ω H σ x y a b Q w d1 d2 h;unfold OR at h;split at h
 ·simp only [Den]at d1 d2;exact .inl ⟨_,_,d1,d2,gG w (by simp only [Den]) h⟩
 ·rename_i xs ys;simp only [Den]at d1 d2;obtain⟨p,us,rfl,h2,h3⟩:=d1;obtain⟨q,ws,rfl,h5,h6⟩:=d2;obtain⟨⟨c1,c2⟩,h⟩:=bG.hE h;refine .inr (.inr ⟨p,q,us,ws,rfl,rfl,dF.of (w.sub _ _ h2),dF.of (w.sub _ _ h5),?_,by rw [h3.length,h6.length];exact c2,fun e=>?_,fun _ r hr=>JP w hr (h3.append h6) h⟩)
  ·intro e;subst e;have:=h3.length;simp at this;omega
  ·subst e;refine gG w ?_ h;simp only [Den];exact⟨p,us,rfl,h2,by simpa using h3.append h6⟩
 ·exact .inr (.inl (Qk G ι Ω H σ x y _ _ Q w d1 d2 h))
end
def bR:Nat→A→Bool
 | _,.int _=>true
 | _,.bl _=>true
 | _,.bS=>true
 | _,.str x=>PyData.canLay0 (.str x)
 | n+1,.tup ds=>ds.all (bR n)
 | n+1,.lst ds=>ds.all (bR n)
 | _,_=>false
def rY(f:A→A→Bool):List A→List A→Bool
 | [],[]=>true
 | x::xs,y::ys=>f x y&&rY f xs ys
 | _,_=>false
def fQ:Nat→A→A→Bool
 | _,.int i,.int j=>i == j
 | _,.bl i,.bl j=>i == j
 | _,.bl i,.int j=>(if i then 1 else 0) == j
 | _,.int i,.bl j=>i == (if j then 1 else 0)
 | _,.bS,.bS=>true
 | _,.str x,.str y=>x == y
 | n+1,.tup xs,.tup ys=>rY (fQ n) xs ys
 | n+1,.lst xs,.lst ys=>rY (fQ n) xs ys
 | _,_,_=>false
def toPy:Nat→A→PyData
 | _,.int i => .int i
 | _,.bl i => .bool i
 | _,.str x => .str x
 | n+1,.tup ds => .tuple (ds.map (toPy n))
 | n+1,.lst ds => .list (ds.map (toPy n))
 | _,_ => .none
theorem PV:∀(ds:List A) (n:Nat),(∀d∈ds,bR n d=true→PyData.canLay0 (toPy n d)=true)→ds.all (bR n)=true→PyData.canLayAll0 (ds.map (toPy n))=true
 | [],_,_,_=>rfl
 | d::ds,n,ih,h=>by
  simp only [List.all_cons,jP]at h;simp only [gM,PyData.canLayAll0,jP];exact⟨ih d lQ h.1,PV ds n (fun e he=>ih e (fC _ he)) h.2⟩
theorem CJ:∀(n:Nat) (a:A),bR n a=true→PyData.canLay0 (toPy n a)=true:=by
 intro n
 induction n with
 | zero=>intro a h;cases a <;> first | rfl | exact h | cases h
 | succ n ih =>
  intro a h;cases a with
  | tup ds=>exact PV ds n (fun d _=>ih d) h
  | lst ds=>exact PV ds n (fun d _=>ih d) h
  | str x=>exact h
  | int i=>rfl
  | bl b=>rfl
  | bS=>rfl
  | _=>cases h
theorem PD:∀(ds:List A) (n:Nat),(∀d∈ds,(toPy n d).depth≤n)→PyData.depthAll (ds.map (toPy n))≤n
 | [],_,_=>xB _
 | d::ds,n,ih=>by
  simp only [gM,PyData.depthAll];exact Nat.max_le.mpr ⟨ih d lQ,PD ds n fun e he=>ih e (fC _ he)⟩
theorem UE:∀(n:Nat) (a:A),(toPy n a).depth≤n:=by
 intro n
 induction n with
 | zero=>intro a;cases a <;> exact iM _
 | succ n ih =>
  intro a;cases a with
  | tup ds=>exact QU (PD ds n fun d _=>ih d)
  | lst ds=>exact QU (PD ds n fun d _=>ih d)
  | _=>exact xB _
theorem Ax:∀(xs ys:List A) (n:Nat),(∀x∈xs,∀y∈ys,PyData.eqv (toPy n x) (toPy n y)=fQ n x y)→PyData.eqvAll (xs.map (toPy n)) (ys.map (toPy n))=rY (fQ n) xs ys
 | [],[],_,_=>rfl
 | [],_::_,_,_=>rfl
 | _::_,[],_,_=>rfl
 | x::xs,y::ys,n,ih=>by
  simp only [gM,PyData.eqvAll,rY];rw [ih x lQ y lQ,Ax xs ys n fun a ha b hb=>ih a (fC _ ha) b (fC _ hb)]
theorem UD:∀(n:Nat) (a b:A),bR n a=true→bR n b=true→PyData.eqv (toPy n a) (toPy n b)=fQ n a b:=by
 intro n
 induction n with
 | zero=>intro a b ha hb;cases a <;> cases b <;> first | rfl | (simp [bR]at ha;done) | (simp [bR]at hb;done)
 | succ n ih =>
  intro a b ha hb;have lst:∀xs ys:List A,xs.all (bR n)=true→ys.all (bR n)=true→PyData.eqvAll (xs.map (toPy n)) (ys.map (toPy n))=rY (fQ n) xs ys:=fun xs ys h1 h2 =>
   Ax xs ys n fun x hx y hy=>ih x y (BC.mp h1 x hx) (BC.mp h2 y hy)
  cases a <;> cases b <;> first | rfl | (simp [bR]at ha;done) | (simp [bR]at hb;done) | exact lst _ _ ha hb
section
variable{X:Cx}{pins:List (Addr×Obj)}{σ:L2.St}{H:Hp}{s:Shared}{ι:List Addr}
theorem readsAll(n:Nat)(ih:∀(v:V) (u:Value) (a:A),bR n a=true→Den X.K H ι v a→RelV v u→∃as,Reads s.heap u (toPy n a) as) :
  ∀(ds:List A) (xs:List V) (us:List Value),ds.all (bR n)=true→aN X.K H ι xs ds→Vals xs us→∃as,ReadsAll s.heap us (ds.map (toPy n)) as
 | [],xs,us,_,d,r=>by
  rw [kE]at d;subst d;cases r;exact⟨_,.nil⟩
 | a::ds,xs,us,h,d,r=>by
  obtain⟨x,t,rfl,d1,d2⟩:=d.hX;simp only [List.all_cons,jP]at h;cases r with
  | cons r1 r2 =>
   obtain⟨as,q1⟩:=ih _ _ _ h.1 d1 r1;obtain⟨bs,q2⟩:=readsAll n ih ds _ _ h.2 d2 r2;exact⟨_,.cons q1 q2⟩
theorem DE(I:Inv X pins σ H s):∀(n:Nat) (v:V) (u:Value) (a:A),bR n a=true→Den X.K H ι v a→RelV v u→∃as,Reads s.heap u (toPy n a) as:=by
 intro n
 induction n with
 | zero =>
  intro v u a h d r;cases a with
  | int i=>simp only [Den]at d;subst d;obtain⟨t,rfl⟩:=r;exact⟨_,.int i t⟩
  | bl b=>simp only [Den]at d;subst d;cases r;exact⟨_,.bool b⟩
  | str x=>simp only [Den]at d;subst d;obtain⟨t,rfl⟩:=r;exact⟨_,.str x t⟩
  | bS=>simp only [Den]at d;subst d;cases r;exact⟨_,.none⟩
  | _=>cases h
 | succ n ih =>
  intro v u a h d r;cases a with
  | int i=>simp only [Den]at d;subst d;obtain⟨t,rfl⟩:=r;exact⟨_,.int i t⟩
  | bl b=>simp only [Den]at d;subst d;cases r;exact⟨_,.bool b⟩
  | str x=>simp only [Den]at d;subst d;obtain⟨t,rfl⟩:=r;exact⟨_,.str x t⟩
  | bS=>simp only [Den]at d;subst d;cases r;exact⟨_,.none⟩
  | tup ds =>
   simp only [Den]at d;obtain⟨p,xs,rfl,h2,h3⟩:=d;cases r;obtain⟨aI,rv,pl,hz⟩:=I.tuple (dF.of h2);obtain⟨as,q⟩:=readsAll n ih ds xs aI h h3 rv;obtain⟨o,ho,hc,m,hd⟩:=(show s.heap.IsTuple p aI.toArray from pl);exact⟨_,.tuple ho hc hd (by simpa using q)⟩
  | lst ds =>
   simp only [Den]at d;obtain⟨p,xs,rfl,h2,h3⟩:=d;cases r;obtain⟨aI,rv,pl,hz⟩:=I.list (dO.of h2);obtain⟨as,q⟩:=readsAll n ih ds xs aI h h3 rv;obtain⟨o,ho,hc,m,hd⟩:=pl.isList;exact⟨_,.list ho hc hd (by simpa using q)⟩
  | _=>cases h
end
def JE(K:Frag)(neg:Bool):R2:=fun x y H Q=>∃ι a b,bR 8 a=true∧bR 8 b=true∧Den K H ι x a∧Den K H ι y b∧Q (.bl (if neg then !fQ 8 a b else fQ 8 a b)) H
theorem Qv{X:Cx}(hu:X.A.units+64<cLine):eT X (compareOp .Eq) (JE X.K false):=by
 intro pins s σ H x y v u Q I rx ry h;obtain⟨ι,a,b,h1,h2,d1,d2,q⟩:=h;obtain⟨as,q1⟩:=DE I 8 x v a h1 d1 rx;obtain⟨bs,q2⟩:=DE I 8 y u b h2 d2 ry;have e1:=UE 8 a;refine SeqAt.compareEq_reads q1 q2 (CJ 8 a h1) (CJ 8 b h2) (by omega) ?_;rw [UD 8 a b h1 h2];exact⟨.bl (fQ 8 a b),H,I,rfl,q⟩
theorem Qn{X:Cx}(hu:X.A.units+64<cLine):eT X (compareOp .NotEq) (JE X.K true):=by
 intro pins s σ H x y v u Q I rx ry h;obtain⟨ι,a,b,h1,h2,d1,d2,q⟩:=h;obtain⟨as,q1⟩:=DE I 8 x v a h1 d1 rx;obtain⟨bs,q2⟩:=DE I 8 y u b h2 d2 ry;have e1:=UE 8 a;refine SeqAt.compareNe_reads q1 q2 (CJ 8 a h1) (CJ 8 b h2) (by omega) ?_;rw [UD 8 a b h1 h2];exact⟨.bl (!fQ 8 a b),H,I,rfl,q⟩
def jW(f:A→Option A):List A→Option (List A)
 | []=>some []
 | x::xs=>match f x,jW f xs with
  | some y,some ys=>some (y::ys)
  | _,_=>none
def res(Ω:aG):Nat→A→Option A
 | 0,a=>if bR 8 a=true then some a else none
 | n+1,a=>if bR 8 a=true then some a else match a with
  | .tup ds=>(jW (res Ω n) ds).map .tup
  | .lst ds=>(jW (res Ω n) ds).map .lst
  | .aM k=>match Ω[k]? with
   | some (.lst ds)=>(jW (res Ω n) ds).map .lst
   | _=>none
  | _=>none
section
variable{K:Frag}{G H:Hp}{ι:List Addr}{Ω:aG}
theorem Wd.Au(w:Wd K G ι Ω H):Ext G ι H ι:=⟨w.sub,fun _ _ h=>h⟩
theorem DT{f:A→Option A}(ih:∀v a b,Den K G ι v a→f a=some b→Den K H ι v b):∀(ds es:List A) (xs:List V),aN K G ι xs ds→jW f ds=some es→aN K H ι xs es
 | [],es,xs,d,h=>by
  simp only [jW,iY]at h;subst h;rw [kE]at d ⊢;exact d
 | a::ds,es,xs,d,h=>by
  obtain⟨x,t,rfl,d1,d2⟩:=d.hX;simp only [jW]at h;split at h
  ·rename_i y ys e1 e2;cases h;exact .cons (ih _ _ _ d1 e1) (DT ih ds ys t d2 e2)
  ·cases h
theorem VX(w:Wd K G ι Ω H):∀(n:Nat) (v:V) (a b:A),Den K G ι v a→res Ω n a=some b→Den K H ι v b:=by
 intro n
 induction n with
 | zero =>
  intro v a b d h;simp only [res]at h;split at h
  ·cases h;exact d.ext w.Au
  ·cases h
 | succ n ih =>
  intro v a b d h;simp only [res]at h;split at h
  ·cases h;exact d.ext w.Au
  ·split at h
   ·rename_i ds _;simp only [sG]at h;obtain⟨es,h1,rfl⟩:=h;simp only [Den]at d ⊢;obtain⟨p,xs,q1,q2,q3⟩:=d;exact⟨p,xs,q1,w.sub _ _ q2,DT ih ds es xs q3 h1⟩
   ·rename_i ds _;simp only [sG]at h;obtain⟨es,h1,rfl⟩:=h;simp only [Den]at d ⊢;obtain⟨p,xs,q1,q2,q3⟩:=d;exact⟨p,xs,q1,w.sub _ _ q2,DT ih ds es xs q3 h1⟩
   ·rename_i k _;split at h
    ·rename_i ds e;simp only [sG]at h;obtain⟨es,h1,rfl⟩:=h;simp only [Den]at d ⊢;obtain⟨p,q1,q2⟩:=d;obtain⟨g,xs,q3,q4⟩:=w.aM k _ p e q2;exact⟨p,xs,q1,q3,DT ih ds es xs q4 h1⟩
    ·cases h
   ·cases h
end
def oS(neg:Bool)(a b:A):Mo A:=fun Ω=>match res Ω 6 a,res Ω 6 b with
 | some x,some y=>if(bR 8 x&&bR 8 y)=true then some (.ok (.bl (if neg then !fQ 8 x y else fQ 8 x y)),Ω)else none
 | _,_=>none
def fZ:=oS false
def oQ:=oS true
section
variable{X:Cx}{W:WX}{e a b c:Expr}{pos:Pos}{fa fb fc:Ev→Mo A}{ta tb:Ev→Mo Bool}
theorem WR{K:Frag}{neg:Bool}:xA K W (JE K neg) (oS neg):=by
 intro G ι Ω H σ x y a b Q w d1 d2 h;unfold oS at h;split at h
 ·rename_i a' b' e1 e2;split at h
  ·rename_i hp;rw [jP]at hp;exact⟨ι,a',b',hp.1,hp.2,VX w 6 x a a' d1 e1,VX w 6 y b b' d2 e2,h _ H G ι (Ext.refl _ _) w (by simp only [Den])⟩
  ·exact False.elim h
 ·exact False.elim h
theorem lO(hu:X.A.units+64<cLine):kG X W (compareOp .Eq) fZ:=⟨_,Qv hu,WR⟩
theorem DN(hu:X.A.units+64<cLine):kG X W (compareOp .NotEq) oQ:=⟨_,Qn hu,WR⟩
@[simp] def uH:=wI fun i j => .bl (decide (i<j))
@[simp] def EV:=wI fun i j => .bl (decide (i≤j))
@[simp] def AE:=wI fun i j => .bl (decide (j<i))
@[simp] def Aj:=wI fun i j => .bl (decide (j≤i))
theorem vW:kG X W (compareOp .Lt) uH:=⟨_,Qq,yS fun _ _ _ _=>by simp only [Den]⟩
theorem JM:kG X W (compareOp .LtE) EV:=⟨_,Qr,yS fun _ _ _ _=>by simp only [Den]⟩
theorem DO:kG X W (compareOp .Gt) AE:=⟨_,Qs,yS fun _ _ _ _=>by simp only [Den]⟩
theorem Rf:kG X W (compareOp .GtE) Aj:=⟨_,Qt,yS fun _ _ _ _=>by simp only [Den]⟩
def zI:A→Option Bool
 | .bS=>some true
 | _=>some false
@[simp] def OQ:A→Mo Bool
 | .bl b=>ret b
 | _=>stuck
@[simp] def cG(f:Ev→Mo A):Ev→Mo Bool:=fun ρ=>mb (f ρ) OQ
theorem VB{K:Frag}{t:TE}(h:eS K (Den K) W t fa):eS K tH W (UK t) (cG fa):=by
 intro G ι Ω H σ ρ Q w r q;refine h G ι Ω H σ ρ _ w r (bG.mb q fun x Ω1 v H1 G1 ι1 x1 w1 d1 h1=>?_);cases x with
 | bl b=>simp only [Den]at d1;exact⟨b,d1,gG w1 rfl h1⟩
 | _=>exact False.elim h1
theorem yB{op:CmpOp}{g:A→A→Mo A}(ho:kG X W (compareOp op) g)(ha:VE X W a fa)(hb:VE X W b fb)(hm:behindInMarks op b=false):VE X W (.Compare a [op] [b] pos) (aD g fa fb):=by
 obtain⟨r,o1,o2⟩:=ho;obtain⟨t,p1,s1⟩:=ha;obtain⟨u,p2,s2⟩:=hb;exact⟨_,Pu o1 p1 p2 hm,CU o2 s1 s2⟩
theorem eI{op:CmpOp}{g:A→A→Mo A}(ho:kG X W (compareOp op) g)(ha:VE X W a fa)(hb:VE X W b fb)(hm:behindInMarks op b=false):VT X W (.Compare a [op] [b] pos) (cG (aD g fa fb)):=by
 obtain⟨r,o1,o2⟩:=ho;obtain⟨t,p1,s1⟩:=ha;obtain⟨u,p2,s2⟩:=hb;exact⟨_,Nz o1 p1 p2 hm,VB (CU o2 s1 s2)⟩
theorem lI(h:VE X W e fa)(he:∀whole,isTrue e X.env whole=(do let v ← whole;standAt e.pos;holding [v] (truthy v)):=by intro _;rfl):VT X W e (cG fa):=by
 obtain⟨t,p,s⟩:=h;exact⟨_,Nx p he,VB s⟩
@[simp] def HN(f g:Ev→Mo Bool):Ev→Mo Bool:=fun ρ=>mb (f ρ) fun c=>if c then g ρ else ret false
@[simp] def nF(f g:Ev→Mo Bool):Ev→Mo Bool:=fun ρ=>mb (f ρ) fun c=>if c then ret true else g ρ
@[simp] def mI(f:Ev→Mo Bool):Ev→Mo Bool:=fun ρ=>mb (f ρ) fun c=>ret (!c)
variable{rest:List Expr}
theorem SW(h:VT X W a ta):VW X W (.BoolOp .And [a] pos) ta:=let ⟨t,p,s⟩:=h; ⟨t,pw_and1 p,s⟩
theorem sS(h:VT X W a ta):VW X W (.BoolOp .Or [a] pos) ta:=let ⟨t,p,s⟩:=h; ⟨t,pw_or1 p,s⟩
theorem SX(h1:VT X W a ta)(h2:VW X W (.BoolOp .And (b::rest) pos) tb):VW X W (.BoolOp .And (a::b::rest) pos) (HN ta tb):=by
 obtain⟨t,p1,s1⟩:=h1;obtain⟨u,p2,s2⟩:=h2;refine⟨_,pw_and p1 p2,fun G ι Ω H σ ρ Q w r h=>?_⟩;refine s1 G ι Ω H σ ρ _ w r (bG.mb h fun c Ω1 c' H1 G1 ι1 x1 w1 d1 h1=>?_);cases(show c'=c from d1);cases c with
 | true=>exact s2 G1 ι1 Ω1 H1 σ ρ Q w1 (r.ext x1) h1
 | false=>exact gG w1 rfl h1
theorem nZ(h1:VT X W a ta)(h2:VW X W (.BoolOp .Or (b::rest) pos) tb):VW X W (.BoolOp .Or (a::b::rest) pos) (nF ta tb):=by
 obtain⟨t,p1,s1⟩:=h1;obtain⟨u,p2,s2⟩:=h2;refine⟨_,pw_or p1 p2,fun G ι Ω H σ ρ Q w r h=>?_⟩;refine s1 G ι Ω H σ ρ _ w r (bG.mb h fun c Ω1 c' H1 G1 ι1 x1 w1 d1 h1=>?_);cases(show c'=c from d1);cases c with
 | false=>exact s2 G1 ι1 Ω1 H1 σ ρ Q w1 (r.ext x1) h1
 | true=>exact gG w1 rfl h1
theorem VW.vt(h:VW X W e ta):VT X W e ta:=let ⟨t,p,s⟩:=h; ⟨t,p.pt,s⟩
theorem nD(h:VT X W a ta):VT X W (.UnaryOp .Not a pos) (mI ta):=by
 obtain⟨t,p,s⟩:=h;refine⟨_,Ny p,fun G ι Ω H σ ρ Q w r h=>?_⟩;refine s G ι Ω H σ ρ _ w r (bG.mb h fun c Ω1 c' H1 G1 ι1 x1 w1 d1 h1=>?_);cases(show c'=c from d1);exact gG w1 rfl h1
@[simp] def CF(f g:Ev→Mo A):Ev→Mo A:=fun ρ=>mb (f ρ) fun x=>mb (OQ x) fun c=>if c then g ρ else ret (.bl false)
@[simp] def TN(f g:Ev→Mo A):Ev→Mo A:=fun ρ=>mb (f ρ) fun x=>mb (OQ x) fun c=>if c then ret (.bl true)else g ρ
theorem SY{op}(h:VE X W a fa):VE X W (.BoolOp op [a] pos) fa:=let ⟨t,p,s⟩:=h; ⟨t,Pk p,s⟩
theorem HL(h1:VE X W a fa)(h2:VE X W (.BoolOp .And (b::rest) pos) fb):VE X W (.BoolOp .And (a::b::rest) pos) (CF fa fb):=by
 obtain⟨t,p1,s1⟩:=h1;obtain⟨u,p2,s2⟩:=h2;refine⟨_,Qc p1 p2,fun G ι Ω H σ ρ Q w r h=>?_⟩;refine s1 G ι Ω H σ ρ _ w r (bG.mb h fun x Ω1 v H1 G1 ι1 x1 w1 d1 h1=>?_);cases x with
 | bl c =>
  simp only [Den]at d1;refine⟨c,d1,?_⟩;cases c with
  | true=>exact s2 G1 ι1 Ω1 H1 σ ρ Q w1 (r.ext x1) h1
  | false=>exact gG w1 (by simp only [Den]) h1
 | _=>exact False.elim h1
theorem Gj(h1:VE X W a fa)(h2:VE X W (.BoolOp .Or (b::rest) pos) fb):VE X W (.BoolOp .Or (a::b::rest) pos) (TN fa fb):=by
 obtain⟨t,p1,s1⟩:=h1;obtain⟨u,p2,s2⟩:=h2;refine⟨_,Ph p1 p2,fun G ι Ω H σ ρ Q w r h=>?_⟩;refine s1 G ι Ω H σ ρ _ w r (bG.mb h fun x Ω1 v H1 G1 ι1 x1 w1 d1 h1=>?_);cases x with
 | bl c =>
  simp only [Den]at d1;refine⟨c,d1,?_⟩;cases c with
  | false=>exact s2 G1 ι1 Ω1 H1 σ ρ Q w1 (r.ext x1) h1
  | true=>exact gG w1 (by simp only [Den]) h1
 | _=>exact False.elim h1
@[simp] def HM(t:Ev→Mo Bool)(f g:Ev→Mo A):Ev→Mo A:=fun ρ=>mb (t ρ) fun c=>if c then f ρ else g ρ
theorem TC(hc:VT X W c ta)(h1:VE X W a fa)(h2:VE X W b fb):VE X W (.IfExp c a b pos) (HM ta fa fb):=by
 obtain⟨t0,p0,s0⟩:=hc;obtain⟨t,p1,s1⟩:=h1;obtain⟨u,p2,s2⟩:=h2;refine⟨_,Pq p0 p1 p2,fun G ι Ω H σ ρ Q w r h=>?_⟩;refine s0 G ι Ω H σ ρ _ w r (bG.mb h fun c Ω1 c' H1 G1 ι1 x1 w1 d1 h1=>?_);cases(show c'=c from d1);cases c with
 | true=>exact s1 G1 ι1 Ω1 H1 σ ρ Q w1 (r.ext x1) h1
 | false=>exact s2 G1 ι1 Ω1 H1 σ ρ Q w1 (r.ext x1) h1
@[simp] def kL(f:Ev→Mo A):Ev→Mo A:=fun ρ=>mb (f ρ) fun x=>match x with
 | .int i=>ret (.int (-i))
 | _=>stuck
theorem lK(h:VE X W a fa):VE X W (.UnaryOp .USub a pos) (kL fa):=by
 obtain⟨t,p,s⟩:=h;refine⟨_,Pe Gq p,fun G ι Ω H σ ρ Q w r h=>?_⟩;refine s G ι Ω H σ ρ _ w r (bG.mb h fun x Ω1 v H1 G1 ι1 x1 w1 d1 h1=>?_);cases x with
 | int c =>
  simp only [Den]at d1;exact⟨c,d1,gG w1 (by simp only [Den]) h1⟩
 | _=>exact False.elim h1
end
inductive Out where
 | nx | bk | ct | ret (a:A) | exc (x:Exc)
abbrev OS:=Option (Out×Ev×aG)
abbrev MS:=Ev→aG→OS
def abS(K:Frag)(W:WX)(G:Hp)(ι:List Addr)(D:Ends)(σ:L2.St)(H:Hp):Out→Prop
 | .nx=>D.nx σ H
 | .bk=>D.bk σ H
 | .ct=>D.ct σ H
 | .ret a=>∀v,Den K G ι v a→D.rt v H
 | .exc x=>∀cls dx,Ex K G ι H x cls dx→W σ cls dx H
def dJ(K:Frag)(W:WX)(G:Hp)(ι:List Addr)(D:Ends):OS→Prop
 | some (o,ρ',Ω')=>∀σ' H' G' ι',Ext G ι G' ι'→Wd K G' ι' Ω' H'→eX K G' ι' σ' ρ'→abS K W G' ι' D σ' H' o
 | none=>False
@[simp] def sM{α:Type}(m:Mo α)(ρ:Ev)(k:α→aG→OS):aG→OS:=fun Ω=>match m Ω with
 | some (.ok a,Ω1)=>k a Ω1
 | some (.exc x,Ω1)=>some (.exc x,ρ,Ω1)
 | none=>none
section
variable{K:Frag}{W:WX}{G:Hp}{ι:List Addr}{Ω:aG}{σ:L2.St}{ρ:Ev}{D:Ends}
theorem dJ.ext{G1:Hp}{ι1:List Addr}{r:OS}(h:dJ K W G ι D r)(e:Ext G ι G1 ι1):dJ K W G1 ι1 D r:=by
 match r,h with
 | some (o,ρ',Ω'),h=>exact fun σ' H' G' ι' x w d=>h σ' H' G' ι' (e.trans x) w d
theorem dJ.sM{α β:Type}{rel:Rl α β}{m:Mo α}{k:α→aG→OS}{Q1:β→Hp→Prop}(h:dJ K W G ι D (V2.sM m ρ k Ω))(r:eX K G ι σ ρ)
  (hk:∀a Ω1 v H1 G1 ι1,Ext G ι G1 ι1→Wd K G1 ι1 Ω1 H1→rel G1 ι1 v a→dJ K W G1 ι1 D (k a Ω1)→Q1 v H1):bG K rel W G ι σ Q1 (m Ω):=by
 unfold V2.sM at h
 revert h
 generalize m Ω=q;intro h
 match q,h with
 | some (.ok a,Ω1),h=>exact fun v H1 G1 ι1 x w d=>hk a Ω1 v H1 G1 ι1 x w d (dJ.ext h x)
 | some (.exc x,Ω1),h=>exact fun cls dx H' G' ι' e w d=>h σ H' G' ι' e w (r.ext e) cls dx d
end
def mE(K:Frag)(W:WX)(t:TS)(f:MS):Prop:=∀G ι Ω H σ ρ D,Wd K G ι Ω H→eX K G ι σ ρ→dJ K W G ι D (f ρ Ω)→t D σ H
def VS(X:Cx)(W:WX)(st:Stmt)(f:MS):Prop:=∃t,PS X st t∧mE X.K W t f
def jK(X:Cx)(W:WX)(st:List Stmt)(f:MS):Prop:=∃t,gL X st t∧mE X.K W t f
def AQ(K:Frag)(W:WX)(t:TG)(g:A→MS):Prop:=∀G ι Ω H σ ρ v a D,Wd K G ι Ω H→eX K G ι σ ρ→Den K G ι v a→dJ K W G ι D (g a ρ Ω)→t v σ H D.nx
def abR(K:Frag)(W:WX)(t:sF)(g:List A→MS):Prop:=∀G ι Ω H σ ρ vs as D,Wd K G ι Ω H→eX K G ι σ ρ→aN K G ι vs as→dJ K W G ι D (g as ρ Ω)→t vs σ H D.nx
def VG(X:Cx)(W:WX)(tg:Expr)(g:A→MS):Prop:=∃t,PG X tg t∧AQ X.K W t g
def GB(X:Cx)(W:WX)(Hr:List Expr)(g:List A→MS):Prop:=∃t,AU X Hr t∧abR X.K W t g
@[simp] def jT:MS:=fun ρ Ω=>some (.nx,ρ,Ω)
@[simp] def aX(f g:MS):MS:=fun ρ Ω=>match f ρ Ω with
 | some (.nx,ρ1,Ω1)=>g ρ1 Ω1
 | r=>r
section
variable{X:Cx}{W:WX}{st:Stmt}{rest:List Stmt}{f g:MS}{e:Expr}{fe:Ev→Mo A}{pos:Pos}
theorem qZ{K:Frag}{G H:Hp}{ι:List Addr}{Ω:aG}{σ:L2.St}{ρ:Ev}{D:Ends}(w:Wd K G ι Ω H)(r:eX K G ι σ ρ)(h:dJ K W G ι D (some (.nx,ρ,Ω))):D.nx σ H:=h σ H G ι (Ext.refl _ _) w r
theorem kK:jK X W [] jT:=⟨_,Ob,fun _ _ _ _ _ _ _ w r h=>qZ w r h⟩
theorem Mh{K:Frag}{t u:TS}(h1:mE K W t f)(h2:mE K W u g):mE K W (UL t u) (aX f g):=by
 intro G ι Ω H σ ρ D w r h;refine h1 G ι Ω H σ ρ _ w r ?_;unfold aX at h
 revert h
 generalize f ρ Ω=q;intro h
 match q,h with
 | some (.nx,ρ1,Ω1),h=>exact fun σ' H' G' ι' x w' r'=>h2 G' ι' Ω1 H' σ' ρ1 D w' r' (dJ.ext h x)
 | some (.bk,ρ1,Ω1),h=>exact h
 | some (.ct,ρ1,Ω1),h=>exact h
 | some (.ret a,ρ1,Ω1),h=>exact h
 | some (.exc a,ρ1,Ω1),h=>exact h
theorem bA(h1:VS X W st f)(h2:jK X W rest g):jK X W (st::rest) (aX f g):=by
 obtain⟨t,p1,s1⟩:=h1;obtain⟨u,p2,s2⟩:=h2;exact⟨_,Oc p1 p2,Mh s1 s2⟩
theorem bW(h1:VS X W st f):jK X W [st] f:=let ⟨t,p,s⟩:=h1; ⟨t,Oa p,s⟩
@[simp] def oD(fe:Ev→Mo A):MS:=fun ρ=>sM (fe ρ) ρ fun _ Ω=>some (.nx,ρ,Ω)
theorem pE(h:VE X W e fe)(hs:swapsWith e none pos.line X.env=pure false:=by rfl):VS X W (.Expr e pos) (oD fe):=by
 obtain⟨t,p,s⟩:=h;refine⟨_,Oi p hs,fun G ι Ω H σ ρ D w r h=>?_⟩;exact s G ι Ω H σ ρ _ w r (dJ.sM h r fun a Ω1 v H1 G1 ι1 x1 w1 d1 h1=>qZ w1 (r.ext x1) h1)
@[simp] def dG(fe:Ev→Mo A):MS:=fun ρ=>sM (fe ρ) ρ fun a Ω=>some (.ret a,ρ,Ω)
theorem dN(h:VE X W e fe):VS X W (.Return (some e) pos) (dG fe):=by
 obtain⟨t,p,s⟩:=h;refine⟨_,Of p,fun G ι Ω H σ ρ D w r h=>?_⟩;exact s G ι Ω H σ ρ _ w r (dJ.sM h r fun a Ω1 v H1 G1 ι1 x1 w1 d1 h1=>h1 σ H1 G1 ι1 (Ext.refl _ _) w1 (r.ext x1) v d1)
@[simp] def iA(c:Ev→Mo Bool)(f g:MS):MS:=fun ρ=>sM (c ρ) ρ fun b Ω=>if b then f ρ Ω else g ρ Ω
theorem iR{c:Expr}{a b:List Stmt}{fc:Ev→Mo Bool}(hc:VT X W c fc)(h1:jK X W a f)(h2:jK X W b g):VS X W (.If c a b pos) (iA fc f g):=by
 obtain⟨t0,p0,s0⟩:=hc;obtain⟨t,p1,s1⟩:=h1;obtain⟨u,p2,s2⟩:=h2;refine⟨_,Og p0 p1 p2,fun G ι Ω H σ ρ D w r h=>?_⟩;refine s0 G ι Ω H σ ρ _ w r (dJ.sM h r fun c Ω1 c' H1 G1 ι1 x1 w1 d1 h1=>?_);cases(show c'=c from d1);cases c with
 | true=>exact s1 G1 ι1 Ω1 H1 σ ρ D w1 (r.ext x1) h1
 | false=>exact s2 G1 ι1 Ω1 H1 σ ρ D w1 (r.ext x1) h1
@[simp] def gN(i:Nat):A→MS:=fun a ρ Ω=>some (.nx,ρ.set i (some a),Ω)
theorem fL{i:Nat}{x:Str}(hN:X.N.Nodup)(hi:X.N[i]? = some x)(hx:Loc X.env.scope x)(hf:X.fn x=true∨X.env.scope.names.lookup x=some .local:=by first | exact .inl rfl | exact .inr rfl | assumption):VG X W (.Name x pos) (gN i) :=
 ⟨_,Pd hN hi hx hf,fun _ _ _ _ _ _ _ _ _ w r d h=>qZ w (r.set i d) h⟩
@[simp] def uG:List A→MS:=fun as ρ Ω=>match as with
 | []=>some (.nx,ρ,Ω)
 | _=>none
@[simp] def gC(g:A→MS)(gs:List A→MS):List A→MS:=fun as=>match as with
 | a::r=>aX (g a) (gs r)
 | []=>fun _ _=>none
theorem BY:GB X W [] uG:=⟨_,Oz,fun G ι Ω H σ ρ vs as D w r d h=>by
 cases as with
 | nil=>rw [kE]at d;exact⟨d,qZ w r h⟩
 | cons=>exact False.elim h⟩
theorem lJ{es:List Expr}{g:A→MS}{gs:List A→MS}(h1:VG X W e g)(h2:GB X W es gs)
  (hs:(assignEach (e::es) X.env).map (·.2)=assign e X.env::(assignEach es X.env).map (·.2):=by rfl):GB X W (e::es) (gC g gs):=by
 obtain⟨t,p1,s1⟩:=h1;obtain⟨u,p2,s2⟩:=h2;refine⟨_,Pa p1 p2 hs,fun G ι Ω H σ ρ vs as D w r d h=>?_⟩;cases as with
 | nil=>exact False.elim h
 | cons a as =>
  obtain⟨x,xs,rfl,d1,d2⟩:=d.hX;refine⟨x,xs,rfl,s1 G ι Ω H σ ρ x a { D with nx:=fun σ' H'=>u xs σ' H' D.nx } w r d1 ?_⟩;simp only [gC,aX]at h
  revert h
  generalize g a ρ Ω=q;intro h
  match q,h with
  | some (.nx,ρ1,Ω1),h=>exact fun σ' H' G' ι' x w' r'=>s2 G' ι' Ω1 H' σ' ρ1 xs as D w' r' (d2.ext x) (dJ.ext h x)
  | some (.bk,ρ1,Ω1),h=>exact h
  | some (.ct,ρ1,Ω1),h=>exact h
  | some (.ret a,ρ1,Ω1),h=>exact h
  | some (.exc a,ρ1,Ω1),h=>exact h
@[simp] def rS(n:Nat)(gs:List A→MS):A→MS:=fun a ρ Ω=>match a with
 | .tup ds=>if ds.length=n then gs ds ρ Ω else none
 | _=>none
theorem BZ{es:List Expr}{k:Nat}{n:Nat}{gs:List A→MS}(hc:X.calm=true)(h:GB X W es gs)
  (hn:(assignEach es X.env).length=n:=by rfl) (tQ:(assignEach es X.env).findIdx? (·.1)=none:=by rfl):VG X W (.Tuple es k pos) (rS n gs):=by
 obtain⟨t,p,s⟩:=h;refine⟨_,Pb hc p hn tQ,fun G ι Ω H σ ρ v a D w r d h=>?_⟩;unfold rS at h;cases a with
 | tup ds =>
  simp only at h
  by_cases hl:ds.length=n
  ·rw [if_pos hl]at h;simp only [Den]at d;obtain⟨p,xs,rfl,h2,h3⟩:=d;exact⟨p,xs,rfl,dF.of (w.sub _ _ h2),by rw [h3.length];exact hl,s G ι Ω H σ ρ xs ds D w r h3 h⟩
  ·rw [if_neg hl]at h;exact False.elim h
 | _=>exact False.elim h
@[simp] def setCell(o i v:A)(Ω:aG):Option aG:=match o,i with
 | .aM k,.int n=>match Ω[k]? with
  | some (.lst ds)=>match jE ds.length n with
   | some j=>some (Ω.set k (.lst (ds.set j v)))
   | none=>none
  | _=>none
 | _,_=>none
@[simp] def ET(fo fi:Ev→Mo A):A→MS:=fun a ρ=>sM (fo ρ) ρ fun o=>sM (fi ρ) ρ fun i Ω=>match setCell o i a Ω with
 | some Ω'=>some (.nx,ρ,Ω')
 | none=>none
theorem HI{o i:Expr}{fo fi:Ev→Mo A}(ho:VE X W o fo)(hi:VE X W i fi)
  (ha:∀v,assign (.Subscript o i pos) X.env v=(do
   let ov ← holding [v] (eval o X.env)
   let iv ← holding [v,ov] (eval i X.env)
   standAt pos
   holding [v,ov,iv] (setItem ov iv v)
   release [v,ov,iv] []):=by intro _;rfl):VG X W (.Subscript o i pos) (ET fo fi):=by
 obtain⟨t,p1,s1⟩:=ho;obtain⟨u,p2,s2⟩:=hi;refine⟨_,Pc p1 p2 set_list ha,fun G ι Ω H σ ρ v a D w r d h=>?_⟩;refine s1 G ι Ω H σ ρ _ w r (dJ.sM h r fun x Ω1 v1 H1 G1 ι1 x1 w1 d1 h1=>?_);refine s2 G1 ι1 Ω1 H1 σ ρ _ w1 (r.ext x1) (dJ.sM h1 (r.ext x1) fun y Ω2 v2 H2 G2 ι2 x2 w2 d2 h2=>?_);unfold setCell at h2;cases x with
 | aM k =>
  cases y with
  | int n =>
   simp only at h2;cases e:Ω2[k]? with
   | none=>rw [e]at h2;exact False.elim h2
   | some c =>
    rw [e]at h2;cases c with
    | lst ds =>
     simp only at h2;cases e2:jE ds.length n with
     | none=>rw [e2]at h2;exact False.elim h2
     | some j =>
      rw [e2]at h2;have Bj:=d1.ext x2;simp only [Den]at Bj d2;obtain⟨p,rfl,hk⟩:=Bj;obtain⟨gg,xs,h5,h6⟩:=w2.aM k _ p e hk;refine⟨p,xs,n,j,rfl,d2,h5,by rw [h6.length];exact e2,?_⟩;refine qZ (w2.put (c := .lst (ds.set j a)) hk gg ⟨gg,_,gR,?_⟩) (r.ext (x1.trans x2)) h2;exact aN.set (d.ext (x1.trans x2)) j h6
    | _=>exact False.elim h2
  | _=>exact False.elim h2
 | _=>exact False.elim h2
@[simp] def bU(fe:Ev→Mo A)(g:A→MS):MS:=fun ρ=>sM (fe ρ) ρ fun a Ω=>g a ρ Ω
theorem VF{K:Frag}{te:TE}{t:TG}{g:A→MS}(h1:eS K (Den K) W te fe)(h2:AQ K W t g):mE K W (IA te t) (bU fe g):=by
 intro G ι Ω H σ ρ D w r h;exact h1 G ι Ω H σ ρ _ w r (dJ.sM h r fun a Ω1 v H1 G1 ι1 x1 w1 d1 h1=>h2 G1 ι1 Ω1 H1 σ ρ v a D w1 (r.ext x1) d1 h1)
theorem xX{tg:Expr}{g:A→MS}(he:VE X W e fe)(hg:VG X W tg g)(hs:swapsWithSole [tg] e pos.line X.env=pure false:=by rfl)(hw:swappedStores [tg] e X.env=pure none:=by rfl)
  (h1:(assignEach [tg] X.env).map (·.2)=[assign tg X.env]:=by rfl):VS X W (.Assign [tg] e pos) (bU fe g):=by
 obtain⟨t,p1,s1⟩:=he;obtain⟨u,p2,s2⟩:=hg;exact⟨_,Oj p1 p2 hs hw h1,VF s1 s2⟩
theorem cJ{i:Nat}{x:Str}{pos':Pos}(hN:X.N.Nodup)(hi:X.N[i]? = some x)(hx:Loc X.env.scope x)(he:VE X W e fe)(hs:swapsWith e (some (.Name x pos')) pos.line X.env=pure false:=by rfl)(hf:X.fn x=true∨X.env.scope.names.lookup x=some .local:=by first | exact .inl rfl | exact .inr rfl | assumption) :
  VS X W (.Assign [.Name x pos'] e pos) (bU fe (gN i)):=by
 obtain⟨t,p1,s1⟩:=he;exact⟨_,Oe hN hi hx p1 hs hf,VF s1 fun _ _ _ _ _ _ _ _ _ w r d h=>qZ w (r.set i d) h⟩
structure Src where
 ds:List A
 ok:aG→Prop
structure vB(K:Frag)(G:Hp)(ι:List Addr)(J:It)(S:Src):Prop where
 go:∀G' ι' Ω' H',Ext G ι G' ι'→Wd K G' ι' Ω' H'→S.ok Ω'→∀i,i<S.ds.length→J.go i H'
 stop:∀G' ι' Ω' H',Ext G ι G' ι'→Wd K G' ι' Ω' H'→S.ok Ω'→∀i,S.ds.length≤i→J.stop i H'
 qQ:∀G' ι' Ω' H',Ext G ι G' ι'→Wd K G' ι' Ω' H'→S.ok Ω'→∀i x H2 d,S.ds[i]? = some d→J.qQ i H' x H2→∃G2,Ext G' ι' G2 ι'∧Wd K G2 ι' Ω' H2∧Den K G2 ι' x d
def JC(K:Frag):Rl Src It:=fun G ι J S=>vB K G ι J S
theorem vB.ext{K:Frag}{G G1:Hp}{ι ι1:List Addr}{J:It}{S:Src}(h:vB K G ι J S)(e:Ext G ι G1 ι1):vB K G1 ι1 J S :=
 ⟨fun G' ι' Ω' H' x=>h.go G' ι' Ω' H' (e.trans x),fun G' ι' Ω' H' x=>h.stop G' ι' Ω' H' (e.trans x),fun G' ι' Ω' H' x=>h.qQ G' ι' Ω' H' (e.trans x)⟩
def VI(X:Cx)(W:WX)(tg iter:Expr)(f:Ev→Mo Src):Prop:=∃t,PI X tg iter t∧eS X.K (JC X.K) W t f
open Classical in
noncomputable def dC(ok:aG→Prop)(g:A→MS)(b:MS):List A→MS
 | [],ρ,Ω=>if ok Ω then some (.nx,ρ,Ω)else none
 | x::xs,ρ,Ω=>if ok Ω then(match g x ρ Ω with
  | some (.nx,ρ0,Ω0)=>(match b ρ0 Ω0 with
   | some (.nx,ρ1,Ω1)=>dC ok g b xs ρ1 Ω1
   | some (.ct,ρ1,Ω1)=>dC ok g b xs ρ1 Ω1
   | some (.bk,ρ1,Ω1)=>some (.nx,ρ1,Ω1)
   | r=>r)
  | some (.exc e,ρ0,Ω0)=>some (.exc e,ρ0,Ω0)
  | _=>none)else none
@[simp] noncomputable def oC(fi:Ev→Mo Src)(g:A→MS)(b:MS):MS:=fun ρ=>sM (fi ρ) ρ fun S Ω=>dC S.ok g b S.ds ρ Ω
theorem Zh{K:Frag}{G:Hp}{ι:List Addr}{D:Ends}{ok:aG→Prop}{g:A→MS}{b:MS}{xs:List A}{ρ:Ev}{Ω:aG}(h:dJ K W G ι D (dC ok g b xs ρ Ω)):ok Ω:=by
 cases xs with
 | nil =>
  unfold dC at h
  by_cases hp:ok Ω
  ·exact hp
  ·rw [if_neg hp]at h;exact False.elim h
 | cons =>
  unfold dC at h
  by_cases hp:ok Ω
  ·exact hp
  ·rw [if_neg hp]at h;exact False.elim h
theorem Ml{K:Frag}{wi:TI}{tg:TG}{tb:TS}{fi:Ev→Mo Src}{g:A→MS}{b:MS}(hi:eS K (JC K) W wi fi)(hg:AQ K W tg g)(hb:mE K W tb b):mE K W (UO wi tg tb) (oC fi g b):=by
 intro G ι Ω H σ ρ D w r h;refine hi G ι Ω H σ ρ _ w r (dJ.sM h r fun S Ω1 J H1 G1 ι1 x1 w1 j1 h1=>?_);refine⟨fun i m σ' H'=>m=S.ds.length - i∧i≤S.ds.length∧∃G' ι' Ω' ρ',Ext G1 ι1 G' ι'∧Wd K G' ι' Ω' H'∧eX K G' ι' σ' ρ'∧dJ K W G' ι' D (dC S.ok g b (S.ds.drop i) ρ' Ω'),
  ⟨_,rfl,xB _,G1,ι1,Ω1,ρ,Ext.refl _ _,w1,r.ext x1,by simpa using h1⟩,?_⟩
 rintro i m σ' H' ⟨rfl,Wb,G',ι',Ω',ρ',e',w',r',h'⟩;have aK:=Zh h'
 by_cases aZ:i<S.ds.length
 ·right
  refine⟨j1.go G' ι' Ω' H' e' w' aK i aZ,fun σ2 H2=>∃G2 ι2 Ω2 ρ2,Ext G1 ι1 G2 ι2∧Wd K G2 ι2 Ω2 H2∧eX K G2 ι2 σ2 ρ2∧dJ K W G2 ι2 D (dC S.ok g b (S.ds.drop (i+1)) ρ2 Ω2),fun σ2 H2 n=>?_,fun x H2 y=>?_⟩
  ·exact⟨S.ds.length - (i+1),by omega,rfl,aZ,n⟩
  ·obtain⟨G2,e2,w2,d2⟩:=j1.qQ G' ι' Ω' H' e' w' aK i x H2 S.ds[i] (eV aZ) y;rw [kZ aZ]at h';unfold dC at h';rw [if_pos aK]at h';refine hg G2 ι' Ω' H2 σ' ρ' x S.ds[i] { D with nx:=fun σ3 H3=>tb _ σ3 H3 } w2 (r'.ext e2) d2 ?_
   revert h'
   generalize g S.ds[i] ρ' Ω'=q;intro h'
   match q,h' with
   | some (.nx,ρ3,Ω3),h' =>
    intro σ3 H3 G3 ι3 x3 w3 r3;refine hb G3 ι3 Ω3 H3 σ3 ρ3 _ w3 r3 ?_;simp only at h'
    revert h'
    generalize b ρ3 Ω3=q2;intro h'
    match q2,h' with
    | some (.nx,ρ4,Ω4),h'=>exact fun σ4 H4 G4 ι4 x4 w4 r4=>⟨G4,ι4,Ω4,ρ4,(e'.trans (e2.trans x3)).trans x4,w4,r4,dJ.ext h' ((e2.trans x3).trans x4)⟩
    | some (.ct,ρ4,Ω4),h'=>exact fun σ4 H4 G4 ι4 x4 w4 r4=>⟨G4,ι4,Ω4,ρ4,(e'.trans (e2.trans x3)).trans x4,w4,r4,dJ.ext h' ((e2.trans x3).trans x4)⟩
    | some (.bk,ρ4,Ω4),h'=>exact fun σ4 H4 G4 ι4 x4 w4 r4=>h' σ4 H4 G4 ι4 ((e2.trans x3).trans x4) w4 r4
    | some (.ret a,ρ4,Ω4),h'=>exact fun σ4 H4 G4 ι4 x4 w4 r4=>h' σ4 H4 G4 ι4 ((e2.trans x3).trans x4) w4 r4
    | some (.exc a,ρ4,Ω4),h'=>exact fun σ4 H4 G4 ι4 x4 w4 r4=>h' σ4 H4 G4 ι4 ((e2.trans x3).trans x4) w4 r4
   | some (.exc a,ρ3,Ω3),h'=>exact fun σ4 H4 G4 ι4 x4 w4 r4=>h' σ4 H4 G4 ι4 (e2.trans x4) w4 r4
 ·have pV:i=S.ds.length:=by omega
  subst pV
  left
  rw [xJ]at h';unfold dC at h';rw [if_pos aK]at h';exact⟨j1.stop G' ι' Ω' H' e' w' aK _ cP,qZ w' r' h'⟩
theorem vN{tg iter:Expr}{body:List Stmt}{fi:Ev→Mo Src}{g:A→MS}{b:MS}(hp:PassesOwn (model X.prog X.w) X.A X.env X.xe)(hc:X.calm=true)(hi:VI X W tg iter fi)(hg:VG X W tg g)(hb:jK X W body b)
  (hs:∀x,foldedSetIterable iter X.env x=pure x:=by intro _;rfl):VS X W (.For tg iter body [] pos) (oC fi g b):=by
 obtain⟨t1,p1,s1⟩:=hi;obtain⟨t2,p2,s2⟩:=hg;obtain⟨t3,p3,s3⟩:=hb;exact⟨_,Oh hp hc p1 p2 p3 hs,Ml s1 s2 s3⟩
def gY(c:Ev→Mo Bool)(b:MS):Nat→MS
 | 0,_,_=>none
 | n+1,ρ,Ω=>sM (c ρ) ρ (fun k Ω1=>if k then(match b ρ Ω1 with
   | some (.nx,ρ1,Ω2)=>gY c b n ρ1 Ω2
   | some (.ct,ρ1,Ω2)=>gY c b n ρ1 Ω2
   | some (.bk,ρ1,Ω2)=>some (.nx,ρ1,Ω2)
   | r=>r)else some (.nx,ρ,Ω1)) Ω
theorem Mf{K:Frag}{tc:TT}{tb:TS}{c:Ev→Mo Bool}{b:MS}(n:Ev→aG→Nat)(hc:eS K tH W tc c)(hb:mE K W tb b):mE K W (UJ tc tb) (fun ρ Ω=>gY c b (n ρ Ω) ρ Ω):=by
 intro G ι Ω H σ ρ D w r h;refine⟨fun m σ' H'=>∃G' ι' Ω' ρ',Ext G ι G' ι'∧Wd K G' ι' Ω' H'∧eX K G' ι' σ' ρ'∧dJ K W G' ι' D (gY c b m ρ' Ω'),⟨_,G,ι,Ω,ρ,Ext.refl _ _,w,r,h⟩,?_⟩;rintro m σ' H' ⟨G',ι',Ω',ρ',e',w',r',h'⟩;cases m with
 | zero=>exact False.elim h'
 | succ m =>
  unfold gY at h';refine hc G' ι' Ω' H' σ' ρ' _ w' r' (dJ.sM h' r' fun k Ω1 k' H1 G1 ι1 x1 w1 d1 h1=>?_);cases(show k'=k from d1);cases k with
  | false=>exact qZ w1 (r'.ext x1) h1
  | true =>
   refine⟨fun σ2 H2=>∃G2 ι2 Ω2 ρ2,Ext G ι G2 ι2∧Wd K G2 ι2 Ω2 H2∧eX K G2 ι2 σ2 ρ2∧dJ K W G2 ι2 D (gY c b m ρ2 Ω2),fun σ2 H2 q=>⟨m,Nat.lt_succ_self _,q⟩,?_⟩;refine hb G1 ι1 Ω1 H1 σ' ρ' _ w1 (r'.ext x1) ?_;simp only [cR]at h1
   revert h1
   generalize b ρ' Ω1=q;intro h1
   match q,h1 with
   | some (.nx,ρ4,Ω4),h1=>exact fun σ4 H4 G4 ι4 x4 w4 r4=>⟨G4,ι4,Ω4,ρ4,(e'.trans x1).trans x4,w4,r4,dJ.ext h1 x4⟩
   | some (.ct,ρ4,Ω4),h1=>exact fun σ4 H4 G4 ι4 x4 w4 r4=>⟨G4,ι4,Ω4,ρ4,(e'.trans x1).trans x4,w4,r4,dJ.ext h1 x4⟩
   | some (.bk,ρ4,Ω4),h1=>exact fun σ4 H4 G4 ι4 x4 w4 r4=>h1 σ4 H4 G4 ι4 x4 w4 r4
   | some (.ret a,ρ4,Ω4),h1=>exact fun σ4 H4 G4 ι4 x4 w4 r4=>h1 σ4 H4 G4 ι4 x4 w4 r4
   | some (.exc a,ρ4,Ω4),h1=>exact fun σ4 H4 G4 ι4 x4 w4 r4=>h1 σ4 H4 G4 ι4 x4 w4 r4
theorem HH{ce:Expr}{body:List Stmt}{c:Ev→Mo Bool}{b:MS}(n:Ev→aG→Nat)(hp:PassesOwn (model X.prog X.w) X.A X.env X.xe)(hc:VT X W ce c)(hb:jK X W body b):VS X W (.While ce body [] pos) (fun ρ Ω=>gY c b (n ρ Ω) ρ Ω):=by
 obtain⟨t1,p1,s1⟩:=hc;obtain⟨t2,p2,s2⟩:=hb;exact⟨_,Od hp p1 p2,Mf n s1 s2⟩
@[simp] def srcOf(a:A)(ds:List A):Src:=⟨ds,fun Ω=>fA Ω a=some ds⟩
theorem tD{Ω:aG}{a:A}{ds:List A}(h:bP Ω a=some ds):fA Ω a=some ds:=by
 cases a with
 | tup es=>simp [bP]at h
 | _=>exact h
theorem YA{Ω:aG}{a:A}{ds:List A}(h:fA Ω a=some ds)(ha:∀es,a ≠ .tup es):bP Ω a=some ds:=by
 cases a with
 | tup es=>exact absurd rfl (ha es)
 | _=>exact h
theorem Ow{tg l:Expr}{tl:TE}(hl:PE X l tl):PI X tg l (fun σ H R=>tl σ H fun x H1=>∃a,x = .ref a∧(((∃xs,dO X.K H1 a xs)∧R (RL X.K a) H1)∨((∃xs,dF X.K H1 a xs)∧R (RK X.K a) H1))):=by
 intro pins s σ H R I h;refine bE (hl pins s σ H _ I h) fun v s1 ⟨x,H1,I1,r1,q1⟩=>?_;obtain⟨a,e,q⟩:=q1;subst e;cases r1
 rcases q with⟨⟨xs,hq⟩,q⟩ | ⟨⟨xs,hq⟩,q⟩
 ·obtain⟨aI,rv,p,hz⟩:=I1.list hq;refine wpAny_pyIter_list p.isList ?_;refine⟨s1.heap.objs.size,[s1.heap.objs.size],_,_,H1,rfl,I1.kept (t':=s1.toks) fun b o e=>iZ _ e,Gz a _,⟨_,nS _ rfl,rfl,rfl⟩,fun b hb=>?_,q⟩;have e:b=s1.heap.objs.size:=by simpa using hb
  subst e;exact I1.OU cP (I1.aK.fresh cP)
 ·obtain⟨aI,rv,p,hz⟩:=I1.tuple hq;refine wpAny_pyIter_tuple (show s1.heap.IsTuple a aI.toArray from p) ?_;refine⟨s1.heap.objs.size,[s1.heap.objs.size],_,_,H1,rfl,I1.kept (t':=s1.toks) fun b o e=>iZ _ e,Gx a _,⟨_,nS _ rfl,rfl,rfl⟩,fun b hb=>?_,q⟩;have e:b=s1.heap.objs.size:=by simpa using hb
  subst e;exact I1.OU cP (I1.aK.fresh cP)
@[simp] def mH(f:Ev→Mo A):Ev→Mo Src:=fun ρ=>mb (f ρ) fun a Ω=>match fA Ω a with
 | some ds=>some (.ok (srcOf a ds),Ω)
 | none=>none
theorem Ud{K:Frag}{G:Hp}{ι:List Addr}{p:Addr}{a:A}{ds:List A}(d:Den K G ι (.ref p) a)(ha:∀es,a ≠ .tup es):vB K G ι (RL K p) (srcOf a ds):=by
 have key:∀G' ι' Ω' H',Ext G ι G' ι'→Wd K G' ι' Ω' H'→fA Ω' a=some ds→∃xs,dO K H' p xs∧aN K G' ι' xs ds:=fun G' ι' Ω' H' e w h=>by
  obtain⟨q,xs,h1,h2,h3⟩:=tO w (d.ext e) (YA h ha);cases h1;exact⟨xs,h2,h3⟩
 refine⟨fun G' ι' Ω' H' e w h i hi=>?_,fun G' ι' Ω' H' e w h i hi=>?_,fun G' ι' Ω' H' e w h i x H2 y hy hd=>?_⟩
 ·obtain⟨xs,h2,h3⟩:=key G' ι' Ω' H' e w h;have hl:i<xs.length:=by rw [h3.length];exact hi
  exact⟨xs,xs[i],h2,eV hl⟩
 ·obtain⟨xs,h2,h3⟩:=key G' ι' Ω' H' e w h;exact⟨xs,h2,by rw [h3.length];exact hi⟩
 ·obtain⟨xs,h2,h3⟩:=key G' ι' Ω' H' e w h;obtain⟨e1,e2⟩:=hd;subst e1;obtain⟨z,q1,q2⟩:=h3.get hy;rw [e2 xs h2]at q1;cases q1;exact⟨G',Ext.refl _ _,w,q2⟩
theorem Uc{K:Frag}{G:Hp}{ι:List Addr}{p:Addr}{ds es:List A}(d:Den K G ι (.ref p) (.tup es)):vB K G ι (RK K p) (srcOf (.tup es) ds):=by
 have key:∀G' ι' Ω' H',Ext G ι G' ι'→Wd K G' ι' Ω' H'→fA Ω' (.tup es)=some ds→∃xs,dF K H' p xs∧aN K G' ι' xs ds:=fun G' ι' Ω' H' e w h=>by
  simp only [fA,iY]at h;subst h;have d':=d.ext e;simp only [Den]at d';obtain⟨q,xs,h1,h2,h3⟩:=d';cases h1;exact⟨xs,dF.of (w.sub _ _ h2),h3⟩
 refine⟨fun G' ι' Ω' H' e w h i hi=>?_,fun G' ι' Ω' H' e w h i hi=>?_,fun G' ι' Ω' H' e w h i x H2 y hy hd=>?_⟩
 ·obtain⟨xs,h2,h3⟩:=key G' ι' Ω' H' e w h;have hl:i<xs.length:=by rw [h3.length];exact hi
  exact⟨xs,xs[i],h2,eV hl⟩
 ·obtain⟨xs,h2,h3⟩:=key G' ι' Ω' H' e w h;exact⟨xs,h2,by rw [h3.length];exact hi⟩
 ·obtain⟨xs,h2,h3⟩:=key G' ι' Ω' H' e w h;obtain⟨e1,e2⟩:=hd;subst e1;obtain⟨z,q1,q2⟩:=h3.get hy;rw [e2 xs h2]at q1;cases q1;exact⟨G',Ext.refl _ _,w,q2⟩
theorem pF{tg l:Expr}{fe:Ev→Mo A}(h:VE X W l fe):VI X W tg l (mH fe):=by
 obtain⟨t,p,s⟩:=h;refine⟨_,Ow p,fun G ι Ω H σ ρ R w r h=>?_⟩;refine s G ι Ω H σ ρ _ w r (bG.mb h fun a Ω1 v H1 G1 ι1 x1 w1 d1 h1=>?_);cases e:fA Ω1 a with
 | none=>simp only [e]at h1;exact False.elim h1
 | some ds =>
  simp only [e]at h1;obtain⟨q,xs,h2,h3,h4⟩:=CT w1 d1 e;subst h2;refine⟨q,rfl,?_⟩;cases a with
  | tup es =>
   right
   simp only [Den]at d1;obtain⟨q',Fi,e1,e2,e3⟩:=id d1;cases e1;exact⟨⟨_,dF.of (w1.sub _ _ e2)⟩,h1 _ H1 G1 ι1 (Ext.refl _ _) w1 (Uc (by simpa only [Den]using d1))⟩
  | _ =>
   left
   obtain⟨q',Fi,e1,e2,e3⟩:=tO w1 d1 (YA e (by intro _ z;cases z));cases e1;exact⟨⟨_,e2⟩,h1 _ H1 G1 ι1 (Ext.refl _ _) w1 (Ud d1 (by intro _ z;cases z))⟩
@[simp] def nH(lo:Int)(n:Nat):Src:=⟨(List.range n).map fun(i:Nat)=>A.int (lo+(i:Int)),fun _=>True⟩
def kO(i:Int):Prop:=-(2 ^ 62)≤i∧i<2 ^ 62
instance (i:Int):Decidable (kO i):=by unfold kO;infer_instance
theorem YH{K:Frag}{G:Hp}{ι:List Addr}{lo:Int}{n:Nat}:vB K G ι (BF lo n) (nH lo n):=by
 refine⟨fun _ _ _ _ _ _ _ i hi=>show i<n by simpa [nH]using hi,fun _ _ _ _ _ _ _ i hi=>show n≤i by simpa [nH]using hi,fun G' ι' Ω' H' e w h i x H2 y hy hd=>?_⟩;obtain⟨e1,e2⟩:=hd;subst e1 e2;refine⟨G',Ext.refl _ _,w,?_⟩;simp only [nH,pB]at hy;cases e:(List.range n)[i]? with
 | none=>rw [e]at hy;cases hy
 | some j =>
  rw [e]at hy;cases hy;have:=(eA.mp e).2;simp at this;subst this;simp only [Den]
@[simp] def CC(f:Ev→Mo (List A)):Ev→Mo Src:=fun ρ=>mb (f ρ) fun as=>match as with
 | [.int j]=>mb (hE (kO j)) fun _=>ret (nH 0 j.toNat)
 | _=>stuck
@[simp] def CB(f:Ev→Mo (List A)):Ev→Mo Src:=fun ρ=>mb (f ρ) fun as=>match as with
 | [.int i,.int j]=>mb (hE (kO i∧kO j)) fun _=>ret (nH i (j - i).toNat)
 | _=>stuck
theorem Gi{tg a:Expr}{fs:Ev→Mo (List A)}{p:Pos}(hg:Gl X "range")(hm:X.mg "range" = none)(ha:VA X W [a] fs)(hs:starEach [a] X.env=[(false,eval a X.env)]:=by rfl):VI X W tg (.Call (.Name "range" p) [a] [] pos) (CC fs):=by
 obtain⟨t,p,s⟩:=ha;refine⟨_,Oy hg hm p hs,fun G ι Ω H σ ρ R w r h=>?_⟩;refine s G ι Ω H σ ρ _ w r (bG.mb h fun as Ω1 vs H1 G1 ι1 x1 w1 d1 h1=>?_);split at h1
 ·rename_i j;obtain⟨v,t,rfl,q1,q2⟩:=d1.hX;rw [kE]at q2;subst q2;simp only [Den]at q1;subst q1;obtain⟨hc,h2⟩:=bG.hE h1;exact⟨j,rfl,hc.1,hc.2,gG w1 YH h2⟩
 ·exact False.elim h1
theorem Gh{tg a b:Expr}{fs:Ev→Mo (List A)}{p:Pos}(hg:Gl X "range")(hm:X.mg "range" = none)(ha:VA X W [a,b] fs)(hs:starEach [a,b] X.env=[(false,eval a X.env),(false,eval b X.env)]:=by rfl)(tR:starEach [b] X.env=[(false,eval b X.env)]:=by rfl):VI X W tg (.Call (.Name "range" p) [a,b] [] pos) (CB fs):=by
 obtain⟨t,p,s⟩:=ha;refine⟨_,Ox hg hm p hs tR,fun G ι Ω H σ ρ R w r h=>?_⟩;refine s G ι Ω H σ ρ _ w r (bG.mb h fun as Ω1 vs H1 G1 ι1 x1 w1 d1 h1=>?_);split at h1
 ·rename_i i j;obtain⟨v,t,rfl,q1,q2⟩:=d1.hX;obtain⟨v',t',rfl,q3,q4⟩:=q2.hX;rw [kE]at q4;subst q4;simp only [Den]at q1 q3;subst q1 q3;obtain⟨hc,h2⟩:=bG.hE h1;exact⟨i,j,rfl,⟨hc.1.1,hc.1.2,hc.2.1,hc.2.2⟩,gG w1 YH h2⟩
 ·exact False.elim h1
end
section
variable{X:Cx}{W:WX}{e a b:Expr}{es:List Expr}{pos:Pos}{fa fb:Ev→Mo A}{fs:Ev→Mo (List A)}
@[simp] def aR(a i:A):Mo A:=fun Ω=>match fA Ω a,i with
 | some ds,.int n=>match bZ ds n with
  | some d=>some (.ok d,Ω)
  | none=>none
 | _,_=>none
theorem abJ{K:Frag}{G:Hp}{ι:List Addr}{xs:List V}{ds:List A}{n:Int}{d:A}(h:aN K G ι xs ds)(e:bZ ds n=some d):∃x,bZ xs n=some x∧Den K G ι x d:=by
 unfold bZ at e ⊢;rw [h.length];cases q:jE ds.length n with
 | none=>rw [q]at e;cases e
 | some j=>rw [q]at e;exact h.get e
theorem aS(ha:VE X W a fa)(hb:VE X W b fb)(hs:Dp b):VE X W (.Subscript a b pos) (aD aR fa fb):=by
 obtain⟨t,p1,s1⟩:=ha;obtain⟨u,p2,s2⟩:=hb;refine⟨_,Pn Ua p1 p2 hs,CU ?_ s1 s2⟩;intro G ι Ω H σ x y a i Q w d1 d2 h;unfold aR at h;split at h
 ·rename_i ds n e1;split at h
  ·rename_i d e;simp only [Den]at d2;have fin:∀v,Den X.K G ι v d→Q v H:=fun v hv=>h v H G ι (Ext.refl _ _) w hv;obtain⟨p,xs,rfl,hq,hd⟩:=CT w d1 e1;obtain⟨v,q1,q2⟩:=abJ hd e
   rcases hq with hq | hq
   ·exact .inl ⟨p,xs,n,v,rfl,d2,hq,q1,fin v q2⟩
   ·exact .inr (.inl ⟨p,xs,n,v,rfl,d2,hq,q1,fin v q2⟩)
  ·exact False.elim h
 ·exact False.elim h
def VO(X:Cx)(W:WX)(e:Option Expr)(f:Ev→Mo (Option Int)):Prop:=∃t,PO X e t∧eS X.K (fun _ _ o o'=>o=o') W t f
theorem BX:VO X W none (fun _=>ret none):=⟨_,Oo,fun _ _ _ _ _ _ _ w _ q=>gG w rfl q⟩
@[simp] def yD(f:Ev→Mo A):Ev→Mo (Option Int):=fun ρ=>mb (f ρ) fun x=>match x with
 | .int i=>ret (some i)
 | _=>stuck
theorem BW(h:VE X W e fa):VO X W (some e) (yD fa):=by
 obtain⟨t,p,s⟩:=h;refine⟨_,Om p,fun G ι Ω H σ ρ Q w r h=>?_⟩;refine s G ι Ω H σ ρ _ w r (bG.mb h fun x Ω1 v H1 G1 ι1 x1 w1 d1 h1=>?_);cases x with
 | int i=>simp only [Den]at d1;exact⟨i,d1,gG w1 rfl h1⟩
 | _=>exact False.elim h1
def qF(ds:List A)(lo hi:Option Int):List A:=(ds.drop (HT.bC ds.length 0 lo)).take (HT.bC ds.length ds.length hi - HT.bC ds.length 0 lo)
theorem Bk{K:Frag}{G:Hp}{ι:List Addr}{xs:List V}{ds:List A}(h:aN K G ι xs ds)(lo hi:Option Int):aN K G ι (rZ xs lo hi) (qF ds lo hi):=by
 unfold rZ qF;rw [h.length];exact(h.drop _).take _
@[simp] def Ah(c:Bool)(a:A)(lo hi:Option Int):Mo A:=fun Ω=>match a with
 | .tup ds=>if HT.bC ds.length 0 lo=0∧HT.bC ds.length ds.length hi=ds.length then none else some (.ok (.tup (qF ds lo hi)),Ω)
 | a=>match bP Ω a with
  | some ds=>tK c (qF ds lo hi) Ω
  | none=>none
@[simp] def yC(c:Bool)(f:Ev→Mo A)(l h:Ev→Mo (Option Int)):Ev→Mo A:=fun ρ=>mb (f ρ) fun a=>mb (l ρ) fun lo=>mb (h ρ) fun hi=>Ah c a lo hi
theorem CA(c:Bool){lo hi:Option Expr}{fl fh:Ev→Mo (Option Int)}{p2:Pos}(he:VE X W e fa)(hl:VO X W lo fl)(hh:VO X W hi fh):VE X W (.Subscript e (.Slice lo hi none p2) pos) (yC c fa fl fh):=by
 obtain⟨t,p1,s1⟩:=he;obtain⟨u,p2,s2⟩:=hl;obtain⟨u',p3,s3⟩:=hh;refine⟨_,Pg (Md.or Mc) p1 p2 p3,fun G ι Ω H σ ρ Q w r h=>?_⟩;refine s1 G ι Ω H σ ρ _ w r (bG.mb h fun x Ω1 v H1 G1 ι1 x1 w1 d1 h1=>?_);refine s2 G1 ι1 Ω1 H1 σ ρ _ w1 (r.ext x1) (bG.mb h1 fun o Ω2 o' H2 G2 ι2 x2 w2 d2 h2=>?_);cases(show o'=o from d2);refine s3 G2 ι2 Ω2 H2 σ ρ _ w2 ((r.ext x1).ext x2) (bG.mb h2 fun k Ω3 k' H3 G3 ι3 x3 w3 d3 h3=>?_);cases(show k'=k from d3);have d:=d1.ext (x2.trans x3);unfold Ah at h3;cases x with
 | tup ds =>
  simp only at h3;split at h3
  ·exact False.elim h3
  ·rename_i hn;simp only [Den]at d;obtain⟨p,xs,rfl,q2,q3⟩:=d;exact .inr ⟨p,xs,rfl,dF.of (w3.sub _ _ q2),by rw [q3.length];exact hn,fun l hl=>JP w3 hl (Bk q3 o k) h3⟩
 | _ =>
  simp only at h3;split at h3
  ·rename_i ds e;obtain⟨p,xs,rfl,q2,q3⟩:=tO w3 d e;exact .inl ⟨p,xs,rfl,q2,fun l hl=>yW w3 hl (Bk q3 o k) h3⟩
  ·exact False.elim h3
def Ez(K:Frag)(W:WX)(r:List V→Hp→VK→Prop)(g:List A→Mo A):Prop :=
 ∀G ι Ω H σ xs as Q,Wd K G ι Ω H→aN K G ι xs as→bG K (Den K) W G ι σ Q (g as Ω)→r xs H Q
def qO(X:Cx)(W:WX)(f:Value)(g:List A→Mo A):Prop:=∃r,lF X f r∧Ez X.K W r g
@[simp] def aU(g:List A→Mo A)(f:Ev→Mo (List A)):Ev→Mo A:=fun ρ=>mb (f ρ) g
theorem VC{K:Frag}{r:List V→Hp→VK→Prop}{g:List A→Mo A}{t:TA}(hg:Ez K W r g)(h:eS K (aN K) W t fs):eS K (Den K) W (HZ r t) (aU g fs):=by
 intro G ι Ω H σ ρ Q w q h2;exact h G ι Ω H σ ρ _ w q (bG.mb h2 fun as Ω1 vs H1 G1 ι1 x1 w1 d1 h1=>hg G1 ι1 Ω1 H1 σ vs as Q w1 d1 h1)
theorem eG{id:String}{x:Str}{g:List A→Mo A}{p:Pos}(hc:qO X W (.builtin id) g)(hg:Gl X x)(hm:X.mg x=none)(hv:bootBuiltins x=some (.builtin id))(ha:VA X W (e::es) fs)(hn:x ≠ "__name__":=by decide)(jY:(x == ("__debug__" : Str))=false:=by decide)
  (he:starEach (e::es) X.env=(false,eval e X.env)::starEach es X.env:=by rfl) (jF:(backTo pos (starEach es X.env)).any (·.1)=false:=by rfl):VE X W (.Call (.Name x p) (e::es) [] pos) (aU g fs):=by
 obtain⟨r,c1,c2⟩:=hc;obtain⟨t,p1,s1⟩:=ha;exact⟨_,Px c1 hg hm hv p1 hn jY he jF,VC c2 s1⟩
theorem HJ{T:String}{x:Str}{g:List A→Mo A}{p:Pos}(hc:qO X W (.type T) g)(hg:Gl X x)(hm:X.mg x=none)(hv:bootBuiltins x=some (.type T))(ha:VA X W (e::es) fs)(hn:x ≠ "__name__":=by decide)(jY:(x == ("__debug__" : Str))=false:=by decide)
  (he:starEach (e::es) X.env=(false,eval e X.env)::starEach es X.env:=by rfl) (jF:(backTo pos (starEach es X.env)).any (·.1)=false:=by rfl):VE X W (.Call (.Name x p) (e::es) [] pos) (aU g fs):=by
 obtain⟨r,c1,c2⟩:=hc;obtain⟨t,p1,s1⟩:=ha;exact⟨_,Pw c1 hg hm hv p1 hn jY he jF,VC c2 s1⟩
theorem wN{K:Frag}{G:Hp}{ι:List Addr}{xs:List V}{d:A}(h:aN K G ι xs [d]):∃x,xs=[x]∧Den K G ι x d:=by
 obtain⟨x,r,rfl,h1,h2⟩:=h.hX;rw [kE]at h2;subst h2;exact⟨x,rfl,h1⟩
theorem PF{K:Frag}{G:Hp}{ι:List Addr}{xs:List V}{d d':A}(h:aN K G ι xs [d,d']):∃x y,xs=[x,y]∧Den K G ι x d∧Den K G ι y d':=by
 obtain⟨x,r,rfl,h1,h2⟩:=h.hX;obtain⟨y,rfl,h3⟩:=wN h2;exact⟨x,y,rfl,h1,h3⟩
@[simp] def kB(as:List A):Mo A:=fun Ω=>match as with
 | [a]=>(match fA Ω a with
  | some ds=>some (.ok (.int ds.length),Ω)
  | none=>none)
 | _=>none
theorem lZ:qO X W (.builtin "len") kB:=by
 refine⟨_,aa3,?_⟩;intro G ι Ω H σ xs as Q w d h;unfold kB at h;split at h
 ·rename_i a;split at h
  ·rename_i ds e;obtain⟨x,rfl,d1⟩:=wN d;obtain⟨p,ys,rfl,h2,h3⟩:=CT w d1 e;exact⟨p,ys,rfl,h2,h _ H G ι (Ext.refl _ _) w (by simp only [Den,h3.length])⟩
  ·exact False.elim h
 ·exact False.elim h
@[simp] def rT(as:List A):Mo A:=match as with
 | [.int i,.int j]=>ret (.int (max i j))
 | _=>stuck
@[simp] def OL(as:List A):Mo A:=match as with
 | [.int i,.int j]=>ret (.int (min i j))
 | _=>stuck
theorem wU(hc:X.calm=true):qO X W (.builtin "max") rT:=by
 refine⟨_,aa1 hc,?_⟩;intro G ι Ω H σ xs as Q w d h;unfold rT at h;split at h
 ·rename_i i j;obtain⟨x,y,rfl,d1,d2⟩:=PF d;simp only [Den]at d1 d2;subst d1 d2;refine⟨i,j,rfl,?_⟩;have e:(if j>i then j else i)=max i j:=by split <;> omega
  rw [e];exact gG w (by simp only [Den]) h
 ·exact False.elim h
theorem aa6(hc:X.calm=true):qO X W (.builtin "min") OL:=by
 refine⟨_,aaZ hc,?_⟩;intro G ι Ω H σ xs as Q w d h;unfold OL at h;split at h
 ·rename_i i j;obtain⟨x,y,rfl,d1,d2⟩:=PF d;simp only [Den]at d1 d2;subst d1 d2;refine⟨i,j,rfl,?_⟩;have e:(if j<i then j else i)=min i j:=by split <;> omega
  rw [e];exact gG w (by simp only [Den]) h
 ·exact False.elim h
def intsOf:List A→Option (List Int)
 | []=>some []
 | .int i::r=>(intsOf r).map (i :: ·)
 | _=>none
theorem ME{K:Frag}{G:Hp}{ι:List Addr}:∀{ds:List A} {xs:List V} {ns:List Int},intsOf ds=some ns→aN K G ι xs ds→xs=ns.map V.int
 | [],xs,ns,h,d=>by
  simp only [intsOf,iY]at h;subst h;rw [kE]at d;subst d;rfl
 | a::ds,xs,ns,h,d=>by
  obtain⟨x,t,rfl,d1,d2⟩:=d.hX;cases a with
  | int i =>
   simp only [intsOf,sG]at h;obtain⟨ms,h1,rfl⟩:=h;simp only [Den]at d1;subst d1;rw [ME h1 d2];rfl
  | _=>simp [intsOf]at h
theorem YI(ns:List Int):intsOf (ns.map A.int)=some ns:=by
 induction ns with
 | nil=>rfl
 | cons n ns ih=>simp [intsOf,ih]
@[simp] def AD(c:Bool)(as:List A):Mo A:=fun Ω=>match as with
 | [a]=>(match fA Ω a with
  | some ds=>tK c ds Ω
  | none=>none)
 | _=>none
theorem PY(c:Bool):qO X W (.type "list") (AD c):=by
 refine⟨_,aa2,?_⟩;intro G ι Ω H σ xs as Q w d h;unfold AD at h;split at h
 ·rename_i a;split at h
  ·rename_i ds e;obtain⟨x,rfl,d1⟩:=wN d;obtain⟨p,ys,rfl,h2,h3⟩:=CT w d1 e;exact⟨p,ys,rfl,h2,fun l hl=>yW w hl h3 h⟩
  ·exact False.elim h
 ·exact False.elim h
def iT(Ω:aG):A→Option String
 | .int _=>some "int"
 | .bl _=>some "bool"
 | .str _=>some "str"
 | .bS=>some "NoneType"
 | .tup _=>some "tuple"
 | .lst _=>some "list"
 | .aM k=>match Ω[k]? with
  | some (.lst _)=>some "list"
  | some (.gZ _)=>some "dict"
  | _=>none
 | _=>none
theorem Gw{K:Frag}{G H:Hp}{ι:List Addr}{Ω:aG}{v:V}{a:A}{t:String}(w:Wd K G ι Ω H)(d:Den K G ι v a)(h:iT Ω a=some t):kW K H v (.type t):=by
 cases a with
 | int i=>simp only [iT,iY]at h;subst h;simp only [Den]at d;subst d;exact .int i
 | bl i=>simp only [iT,iY]at h;subst h;simp only [Den]at d;subst d;exact .bl i
 | str i=>simp only [iT,iY]at h;subst h;simp only [Den]at d;subst d;exact .str i
 | bS=>simp only [iT,iY]at h;subst h;simp only [Den]at d;subst d;exact .bS
 | tup ds=>simp only [iT,iY]at h;subst h;simp only [Den]at d;obtain⟨p,xs,rfl,h2,_⟩:=d;exact .tup (w.sub _ _ h2)
 | lst ds=>simp only [iT,iY]at h;subst h;simp only [Den]at d;obtain⟨p,xs,rfl,h2,_⟩:=d;exact .lst (w.sub _ _ h2)
 | aM k =>
  simp only [Den]at d;obtain⟨p,rfl,hk⟩:=d;simp only [iT]at h;split at h
  ·rename_i ds e;cases h;obtain⟨g,xs,h3,_⟩:=w.aM k _ p e hk;exact .lst h3
  ·rename_i ds e;cases h;obtain⟨g,xs,h3,_⟩:=w.aM k _ p e hk;exact .dK h3
  ·cases h
 | _=>simp [iT]at h
theorem LM(K:Frag):kitOne K (.type "int") (.type "int")=some true:=by unfold kitOne;rw [if_pos (beq_self_eq_true _)]
theorem LR(K:Frag):kitOne K (.type "bool") (.type "int")=some true:=by kernel_rfl
theorem LB(K:Frag):kitOne K (.type "str") (.type "int")=some false:=by kernel_rfl
theorem LX(K:Frag):kitOne K (.type "NoneType") (.type "int")=some false:=by kernel_rfl
theorem KU(K:Frag):kitOne K (.type "tuple") (.type "int")=some false:=by kernel_rfl
theorem LH(K:Frag):kitOne K (.type "list") (.type "int")=some false:=by kernel_rfl
theorem LN(K:Frag):kitOne K (.type "int") (.type "bool")=some false:=by kernel_rfl
theorem LS(K:Frag):kitOne K (.type "bool") (.type "bool")=some true:=by unfold kitOne;rw [if_pos (beq_self_eq_true _)]
theorem LC(K:Frag):kitOne K (.type "str") (.type "bool")=some false:=by kernel_rfl
theorem LY(K:Frag):kitOne K (.type "NoneType") (.type "bool")=some false:=by kernel_rfl
theorem KW(K:Frag):kitOne K (.type "tuple") (.type "bool")=some false:=by kernel_rfl
theorem LI(K:Frag):kitOne K (.type "list") (.type "bool")=some false:=by kernel_rfl
theorem LJ(K:Frag):kitOne K (.type "int") (.type "tuple")=some false:=by kernel_rfl
theorem LO(K:Frag):kitOne K (.type "bool") (.type "tuple")=some false:=by kernel_rfl
theorem KY(K:Frag):kitOne K (.type "str") (.type "tuple")=some false:=by kernel_rfl
theorem LU(K:Frag):kitOne K (.type "NoneType") (.type "tuple")=some false:=by kernel_rfl
theorem KO(K:Frag):kitOne K (.type "tuple") (.type "tuple")=some true:=by unfold kitOne;rw [if_pos (beq_self_eq_true _)]
theorem LD(K:Frag):kitOne K (.type "list") (.type "tuple")=some false:=by kernel_rfl
theorem LL(K:Frag):kitOne K (.type "int") (.type "list")=some false:=by kernel_rfl
theorem LQ(K:Frag):kitOne K (.type "bool") (.type "list")=some false:=by kernel_rfl
theorem LA(K:Frag):kitOne K (.type "str") (.type "list")=some false:=by kernel_rfl
theorem LW(K:Frag):kitOne K (.type "NoneType") (.type "list")=some false:=by kernel_rfl
theorem KR(K:Frag):kitOne K (.type "tuple") (.type "list")=some false:=by kernel_rfl
theorem LG(K:Frag):kitOne K (.type "list") (.type "list")=some true:=by unfold kitOne;rw [if_pos (beq_self_eq_true _)]
theorem LK(K:Frag):kitOne K (.type "int") (.type "str")=some false:=by kernel_rfl
theorem LP(K:Frag):kitOne K (.type "bool") (.type "str")=some false:=by kernel_rfl
theorem KZ(K:Frag):kitOne K (.type "str") (.type "str")=some true:=by unfold kitOne;rw [if_pos (beq_self_eq_true _)]
theorem LV(K:Frag):kitOne K (.type "NoneType") (.type "str")=some false:=by kernel_rfl
theorem KQ(K:Frag):kitOne K (.type "tuple") (.type "str")=some false:=by kernel_rfl
theorem LF(K:Frag):kitOne K (.type "list") (.type "str")=some false:=by kernel_rfl
inductive dD:String→String→Bool→Prop where
 | LM:dD "int" "int" true
 | LR:dD "bool" "int" true
 | LB:dD "str" "int" false
 | LX:dD "NoneType" "int" false
 | KU:dD "tuple" "int" false
 | LH:dD "list" "int" false
 | LN:dD "int" "bool" false
 | LS:dD "bool" "bool" true
 | LC:dD "str" "bool" false
 | LY:dD "NoneType" "bool" false
 | KW:dD "tuple" "bool" false
 | LI:dD "list" "bool" false
 | LJ:dD "int" "tuple" false
 | LO:dD "bool" "tuple" false
 | KY:dD "str" "tuple" false
 | LU:dD "NoneType" "tuple" false
 | KO:dD "tuple" "tuple" true
 | LD:dD "list" "tuple" false
 | LL:dD "int" "list" false
 | LQ:dD "bool" "list" false
 | LA:dD "str" "list" false
 | LW:dD "NoneType" "list" false
 | KR:dD "tuple" "list" false
 | LG:dD "list" "list" true
 | LK:dD "int" "str" false
 | LP:dD "bool" "str" false
 | KZ:dD "str" "str" true
 | LV:dD "NoneType" "str" false
 | KQ:dD "tuple" "str" false
 | LF:dD "list" "str" false
theorem dD.ok(K:Frag){t n:String}{b:Bool}(h:dD t n b):kitOne K (.type t) (.type n)=some b:=by
 cases h
 ·exact V2.LM K
 ·exact V2.LR K
 ·exact V2.LB K
 ·exact V2.LX K
 ·exact V2.KU K
 ·exact V2.LH K
 ·exact V2.LN K
 ·exact V2.LS K
 ·exact V2.LC K
 ·exact V2.LY K
 ·exact V2.KW K
 ·exact V2.LI K
 ·exact V2.LJ K
 ·exact V2.LO K
 ·exact V2.KY K
 ·exact V2.LU K
 ·exact V2.KO K
 ·exact V2.LD K
 ·exact V2.LL K
 ·exact V2.LQ K
 ·exact V2.LA K
 ·exact V2.LW K
 ·exact V2.KR K
 ·exact V2.LG K
 ·exact V2.LK K
 ·exact V2.LP K
 ·exact V2.KZ K
 ·exact V2.LV K
 ·exact V2.KQ K
 ·exact V2.LF K
def mR(t n:String):Option Bool:=if t = "int"∧n = "int" then some true else if t = "bool"∧n = "int" then some true else if t = "str"∧n = "int" then some false else if t = "NoneType"∧n = "int" then some false else if t = "tuple"∧n = "int" then some false else if t = "list"∧n = "int" then some false else if t = "int"∧n = "bool" then some false else if t = "bool"∧n = "bool" then some true else if t = "str"∧n = "bool" then some false else if t = "NoneType"∧n = "bool" then some false else if t = "tuple"∧n = "bool" then some false else if t = "list"∧n = "bool" then some false else if t = "int"∧n = "tuple" then some false else if t = "bool"∧n = "tuple" then some false else if t = "str"∧n = "tuple" then some false else if t = "NoneType"∧n = "tuple" then some false else if t = "tuple"∧n = "tuple" then some true else if t = "list"∧n = "tuple" then some false else if t = "int"∧n = "list" then some false else if t = "bool"∧n = "list" then some false else if t = "str"∧n = "list" then some false else if t = "NoneType"∧n = "list" then some false else if t = "tuple"∧n = "list" then some false else if t = "list"∧n = "list" then some true else if t = "int"∧n = "str" then some false else if t = "bool"∧n = "str" then some false else if t = "str"∧n = "str" then some true else if t = "NoneType"∧n = "str" then some false else if t = "tuple"∧n = "str" then some false else if t = "list"∧n = "str" then some false else none
theorem Ug{t n:String}{b:Bool}(h:mR t n=some b):dD t n b:=by
 unfold mR at h
 by_cases h0:t = "int"∧n = "int"
 ·rw [if_pos h0]at h;cases h;obtain⟨rfl,rfl⟩:=h0;exact .LM
 rw [if_neg h0]at h
 by_cases h1:t = "bool"∧n = "int"
 ·rw [if_pos h1]at h;cases h;obtain⟨rfl,rfl⟩:=h1;exact .LR
 rw [if_neg h1]at h
 by_cases h2:t = "str"∧n = "int"
 ·rw [if_pos h2]at h;cases h;obtain⟨rfl,rfl⟩:=h2;exact .LB
 rw [if_neg h2]at h
 by_cases h3:t = "NoneType"∧n = "int"
 ·rw [if_pos h3]at h;cases h;obtain⟨rfl,rfl⟩:=h3;exact .LX
 rw [if_neg h3]at h
 by_cases h4:t = "tuple"∧n = "int"
 ·rw [if_pos h4]at h;cases h;obtain⟨rfl,rfl⟩:=h4;exact .KU
 rw [if_neg h4]at h
 by_cases h5:t = "list"∧n = "int"
 ·rw [if_pos h5]at h;cases h;obtain⟨rfl,rfl⟩:=h5;exact .LH
 rw [if_neg h5]at h
 by_cases h6:t = "int"∧n = "bool"
 ·rw [if_pos h6]at h;cases h;obtain⟨rfl,rfl⟩:=h6;exact .LN
 rw [if_neg h6]at h
 by_cases h7:t = "bool"∧n = "bool"
 ·rw [if_pos h7]at h;cases h;obtain⟨rfl,rfl⟩:=h7;exact .LS
 rw [if_neg h7]at h
 by_cases h8:t = "str"∧n = "bool"
 ·rw [if_pos h8]at h;cases h;obtain⟨rfl,rfl⟩:=h8;exact .LC
 rw [if_neg h8]at h
 by_cases h9:t = "NoneType"∧n = "bool"
 ·rw [if_pos h9]at h;cases h;obtain⟨rfl,rfl⟩:=h9;exact .LY
 rw [if_neg h9]at h
 by_cases OH:t = "tuple"∧n = "bool"
 ·rw [if_pos OH]at h;cases h;obtain⟨rfl,rfl⟩:=OH;exact .KW
 rw [if_neg OH]at h
 by_cases OG:t = "list"∧n = "bool"
 ·rw [if_pos OG]at h;cases h;obtain⟨rfl,rfl⟩:=OG;exact .LI
 rw [if_neg OG]at h
 by_cases OF:t = "int"∧n = "tuple"
 ·rw [if_pos OF]at h;cases h;obtain⟨rfl,rfl⟩:=OF;exact .LJ
 rw [if_neg OF]at h
 by_cases OE:t = "bool"∧n = "tuple"
 ·rw [if_pos OE]at h;cases h;obtain⟨rfl,rfl⟩:=OE;exact .LO
 rw [if_neg OE]at h
 by_cases OD:t = "str"∧n = "tuple"
 ·rw [if_pos OD]at h;cases h;obtain⟨rfl,rfl⟩:=OD;exact .KY
 rw [if_neg OD]at h
 by_cases OC:t = "NoneType"∧n = "tuple"
 ·rw [if_pos OC]at h;cases h;obtain⟨rfl,rfl⟩:=OC;exact .LU
 rw [if_neg OC]at h
 by_cases OB:t = "tuple"∧n = "tuple"
 ·rw [if_pos OB]at h;cases h;obtain⟨rfl,rfl⟩:=OB;exact .KO
 rw [if_neg OB]at h
 by_cases OA:t = "list"∧n = "tuple"
 ·rw [if_pos OA]at h;cases h;obtain⟨rfl,rfl⟩:=OA;exact .LD
 rw [if_neg OA]at h
 by_cases NZ:t = "int"∧n = "list"
 ·rw [if_pos NZ]at h;cases h;obtain⟨rfl,rfl⟩:=NZ;exact .LL
 rw [if_neg NZ]at h
 by_cases NY:t = "bool"∧n = "list"
 ·rw [if_pos NY]at h;cases h;obtain⟨rfl,rfl⟩:=NY;exact .LQ
 rw [if_neg NY]at h
 by_cases NX:t = "str"∧n = "list"
 ·rw [if_pos NX]at h;cases h;obtain⟨rfl,rfl⟩:=NX;exact .LA
 rw [if_neg NX]at h
 by_cases NW:t = "NoneType"∧n = "list"
 ·rw [if_pos NW]at h;cases h;obtain⟨rfl,rfl⟩:=NW;exact .LW
 rw [if_neg NW]at h
 by_cases NV:t = "tuple"∧n = "list"
 ·rw [if_pos NV]at h;cases h;obtain⟨rfl,rfl⟩:=NV;exact .KR
 rw [if_neg NV]at h
 by_cases NU:t = "list"∧n = "list"
 ·rw [if_pos NU]at h;cases h;obtain⟨rfl,rfl⟩:=NU;exact .LG
 rw [if_neg NU]at h
 by_cases NT:t = "int"∧n = "str"
 ·rw [if_pos NT]at h;cases h;obtain⟨rfl,rfl⟩:=NT;exact .LK
 rw [if_neg NT]at h
 by_cases NS:t = "bool"∧n = "str"
 ·rw [if_pos NS]at h;cases h;obtain⟨rfl,rfl⟩:=NS;exact .LP
 rw [if_neg NS]at h
 by_cases NR:t = "str"∧n = "str"
 ·rw [if_pos NR]at h;cases h;obtain⟨rfl,rfl⟩:=NR;exact .KZ
 rw [if_neg NR]at h
 by_cases NQ:t = "NoneType"∧n = "str"
 ·rw [if_pos NQ]at h;cases h;obtain⟨rfl,rfl⟩:=NQ;exact .LV
 rw [if_neg NQ]at h
 by_cases NP:t = "tuple"∧n = "str"
 ·rw [if_pos NP]at h;cases h;obtain⟨rfl,rfl⟩:=NP;exact .KQ
 rw [if_neg NP]at h
 by_cases NO:t = "list"∧n = "str"
 ·rw [if_pos NO]at h;cases h;obtain⟨rfl,rfl⟩:=NO;exact .LF
 rw [if_neg NO]at h;cases h
theorem Uh(K:Frag){t n:String}{b:Bool}(h:mR t n=some b):kitOne K (.type t) (.type n)=some b:=(Ug h).ok K
@[simp] def uI(as:List A):Mo A:=fun Ω=>match as with
 | [a,.ty n]=>(match (iT Ω a).bind fun t=>mR t n with
  | some b=>some (.ok (.bl b),Ω)
  | none=>none)
 | _=>none
theorem AL:qO X W (.builtin "isinstance") uI:=by
 refine⟨_,aa4,?_⟩;intro G ι Ω H σ xs as Q w d h;unfold uI at h;split at h
 ·rename_i a n;split at h
  ·rename_i b e;rw [AV]at e;obtain⟨t,e1,e2⟩:=e;obtain⟨x,y,rfl,d1,d2⟩:=PF d;simp only [Den]at d2;subst d2;exact⟨x,n,_,b,rfl,Gw w d1 e1,Uh _ e2,h _ H G ι (Ext.refl _ _) w (by simp only [Den])⟩
  ·exact False.elim h
 ·exact False.elim h
def AW(K:Frag)(W:WX)(r:V→List V→Hp→VK→Prop)(g:A→List A→Mo A):Prop :=
 ∀G ι Ω H σ x xs a as Q,Wd K G ι Ω H→Den K G ι x a→aN K G ι xs as→bG K (Den K) W G ι σ Q (g a as Ω)→r x xs H Q
def mS(Ω:aG)(a:A):Prop:=∃ds,bP Ω a=some ds
open Classical in
@[simp] noncomputable def lL(g:A→List A→Mo A)(fo:Ev→Mo A)(f:Ev→Mo (List A)):Ev→Mo A:=fun ρ=>mb (fo ρ) fun o Ω=>if mS Ω o then mb (f ρ) (fun as=>g o as) Ω else none
theorem TU{K:Frag}{G H:Hp}{ι:List Addr}{Ω:aG}{v:V}{a:A}(w:Wd K G ι Ω H)(d:Den K G ι v a)(h:mS Ω a):CH K "list" v H:=by
 obtain⟨ds,e⟩:=h;obtain⟨p,xs,rfl,q,_⟩:=tO w d e;exact .inl ⟨rfl,xs,q⟩
theorem HK{name:Str}{apos:Pos}{id:String}{r:V→List V→Hp→VK→Prop}{g:A→List A→Mo A}(pa:PlainAttrs "list")(slot:Slot "list" name id)(tP:typeOf (.builtin id)=pure (.type "method_descriptor"))(hm:sH X id r)(hv:AW X.K W r g)(ho:VE X W a fa)
  (uB:attributeBase a name X.env (eval a X.env)=eval a X.env:=by rfl) (tV:(apos.endLine == pos.line)=true:=by rfl):VE X W (.Call (.Attribute a name apos) [] [] pos) (lL g fa fun _=>ret []):=by
 obtain⟨t,p1,s1⟩:=ho;refine⟨_,Py pa slot tP hm p1 uB tV,fun G ι Ω H σ ρ Q w r h=>?_⟩;refine s1 G ι Ω H σ ρ _ w r (bG.mb h fun x Ω1 v H1 G1 ι1 x1 w1 d1 h1=>?_);split at h1
 ·rename_i hl;exact⟨TU w1 d1 hl,hv G1 ι1 Ω1 H1 σ v [] x [] Q w1 d1 .nil h1⟩
 ·exact False.elim h1
theorem qU{name:Str}{apos:Pos}{id:String}{r:V→List V→Hp→VK→Prop}{g:A→List A→Mo A}(pa:PlainAttrs "list")(slot:Slot "list" name id)(tP:typeOf (.builtin id)=pure (.type "method_descriptor"))(hm:sH X id r)(hv:AW X.K W r g)(ho:VE X W a fa)(ha:VA X W (e::es) fs)
  (uB:attributeBase a name X.env (eval a X.env)=eval a X.env:=by rfl)
  (NI:((backTo pos (starEach (e::es) X.env)).all (fun x=>!x.1)&&(backToKw pos (keywordEach [] X.env)).all (fun x=>x.1.isSome)
   && decide ((e::es).length+([]:List Keyword).length+(if([]:List Keyword).isEmpty then 0 else 1)<30))=true:=by rfl)
  (tV:(apos.endLine == pos.line)=true:=by rfl) (hs:starEach (e::es) X.env=(false,eval e X.env)::starEach es X.env:=by rfl) (MP:(backTo pos (starEach es X.env)).any (·.1)=false:=by rfl) :
  VE X W (.Call (.Attribute a name apos) (e::es) [] pos) (lL g fa fs):=by
 obtain⟨t,p1,s1⟩:=ho;obtain⟨u,p2,s2⟩:=ha;refine⟨_,Pz pa slot tP hm p1 p2 uB NI tV hs MP,fun G ι Ω H σ ρ Q w r h=>?_⟩;refine s1 G ι Ω H σ ρ _ w r (bG.mb h fun x Ω1 v H1 G1 ι1 x1 w1 d1 h1=>?_);split at h1
 ·rename_i hl;refine⟨TU w1 d1 hl,s2 G1 ι1 Ω1 H1 σ ρ _ w1 (r.ext x1) (bG.mb h1 fun as Ω2 vs H2 G2 ι2 x2 w2 d2 h2=>?_)⟩;exact hv G2 ι2 Ω2 H2 σ v vs x as Q w2 (d1.ext x2) d2 h2
 ·exact False.elim h1
def iX(Ω:aG):A→Option (Nat×List A)
 | .aM k=>match Ω[k]? with
  | some (.lst ds)=>some (k,ds)
  | _=>none
 | _=>none
theorem PQ{K:Frag}{G H:Hp}{ι:List Addr}{Ω:aG}{v:V}{a:A}{k:Nat}{ds:List A}(w:Wd K G ι Ω H)(d:Den K G ι v a)(h:iX Ω a=some (k,ds)):∃p xs,v = .ref p∧ι[k]? = some p∧G p=none∧H p=some (.lst xs)∧aN K G ι xs ds:=by
 cases a with
 | aM j =>
  simp only [iX]at h;split at h
  ·rename_i es e;cases h;simp only [Den]at d;obtain⟨p,rfl,hk⟩:=d;obtain⟨g,xs,h3,h4⟩:=w.aM k _ p e hk;exact⟨p,xs,rfl,hk,g,h3,h4⟩
  ·cases h
 | _=>simp [iX]at h
@[simp] def oU(o:A)(as:List A):Mo A:=fun Ω=>match iX Ω o,as with
 | some (k,ds),[y]=>if ds.length<sizeLine then some (.ok .bS,Ω.set k (.lst (ds++[y])))else none
 | _,_=>none
theorem rD:AW X.K W WJ oU:=by
 intro G ι Ω H σ x xs a as Q w d1 d2 h;unfold oU at h;split at h
 ·rename_i k ds y e;split at h
  ·rename_i hl;obtain⟨p,zs,rfl,hk,g,h3,h4⟩:=PQ w d1 e;obtain⟨u,rfl,du⟩:=wN d2;refine⟨p,zs,u,rfl,rfl,h3,by rw [h4.length];exact hl,?_⟩;exact h _ _ G ι (Ext.refl _ _) (w.put (c := .lst (ds++[y])) hk g ⟨g,_,gR,h4.append (.cons du .nil)⟩) (by simp only [Den])
  ·exact False.elim h
 ·exact False.elim h
@[simp] def EU(o:A)(as:List A):Mo A:=fun Ω=>match iX Ω o,as with
 | some (k,ds),[]=>match ds[ds.length - 1]? with
  | some y=>some (.ok y,Ω.set k (.lst ds.dropLast))
  | none=>none
 | _,_=>none
theorem XS:AW X.K W WC EU:=by
 intro G ι Ω H σ x xs a as Q w d1 d2 h;unfold EU at h;split at h
 ·rename_i k ds e;split at h
  ·rename_i y hy;obtain⟨p,zs,rfl,hk,g,h3,h4⟩:=PQ w d1 e;rw [kE]at d2;subst d2;obtain⟨u,q1,q2⟩:=h4.get hy;refine⟨p,zs,u,rfl,rfl,h3,by rw [h4.length];exact q1,?_⟩;exact h _ _ G ι (Ext.refl _ _) (w.put (c := .lst ds.dropLast) hk g ⟨g,_,gR,h4.dropLast⟩) q2
  ·exact False.elim h
 ·exact False.elim h
@[simp] def OO(o:A)(as:List A):Mo A:=fun Ω=>match iX Ω o,as with
 | some (k,ds),[]=>some (.ok .bS,Ω.set k (.lst []))
 | _,_=>none
theorem Sm:AW X.K W WH OO:=by
 intro G ι Ω H σ x xs a as Q w d1 d2 h;unfold OO at h;split at h
 ·rename_i k ds e;obtain⟨p,zs,rfl,hk,g,h3,h4⟩:=PQ w d1 e;rw [kE]at d2;subst d2;refine⟨p,zs,rfl,rfl,h3,?_⟩;exact h _ _ G ι (Ext.refl _ _) (w.put (c := .lst []) hk g ⟨g,_,gR,.nil⟩) (by simp only [Den])
 ·exact False.elim h
end
mutual
def Cl(n:Nat):A→Prop
 | .aM k=>k<n
 | .tup ds=>dP n ds
 | .lst ds=>dP n ds
 | _=>True
def dP(n:Nat):List A→Prop
 | []=>True
 | d::ds=>Cl n d∧dP n ds
end
section
variable{K:Frag}{G:Hp}{ι:List Addr}
mutual
theorem Den.cl:∀{v:V} {d:A},Den K G ι v d→Cl ι.length d
 | _,.int _,_=>by simp only [Cl]
 | _,.bl _,_=>by simp only [Cl]
 | _,.str _,_=>by simp only [Cl]
 | _,.bS,_=>by simp only [Cl]
 | _,.ty _,_=>by simp only [Cl]
 | _,.adr _,_=>by simp only [Cl]
 | _, .FC _ _ _ _,_=>by simp only [Cl]
 | _,.gl _,_=>by simp only [Cl]
 | _,.eO _,_=>by simp only [Cl]
 | _,.tup ds,h=>by
  simp only [Den]at h;simp only [Cl];obtain⟨a,xs,_,_,h3⟩:=h;exact aN.cl h3
 | _,.lst ds,h=>by
  simp only [Den]at h;simp only [Cl];obtain⟨a,xs,_,_,h3⟩:=h;exact aN.cl h3
 | _,.aM k,h=>by
  simp only [Den]at h;simp only [Cl];obtain⟨a,_,h2⟩:=h;exact(eA.mp h2).1
theorem aN.cl:∀{xs:List V} {ds:List A},aN K G ι xs ds→dP ι.length ds
 | _,[],_=>by simp only [dP]
 | _,d::ds,h=>by
  simp only [aN]at h;simp only [dP];obtain⟨x,r,_,h2,h3⟩:=h;exact⟨Den.cl h2,aN.cl h3⟩
end
mutual
theorem Den.cut{ι':List Addr}{n:Nat}(e:∀k,k<n→ι[k]? = ι'[k]?):∀{v:V} {d:A},Den K G ι' v d→Cl n d→Den K G ι v d
 | _,.int _,h,_=>by simpa only [Den]using h
 | _,.bl _,h,_=>by simpa only [Den]using h
 | _,.str _,h,_=>by simpa only [Den]using h
 | _,.bS,h,_=>by simpa only [Den]using h
 | _,.ty _,h,_=>by simpa only [Den]using h
 | _,.adr _,h,_=>by simpa only [Den]using h
 | _, .FC _ _ _ _,h,_=>by simpa only [Den]using h
 | _,.gl _,h,_=>by simpa only [Den]using h
 | _,.eO _,h,_=>by simpa only [Den]using h
 | _,.tup ds,h,c=>by
  simp only [Den]at h ⊢;simp only [Cl]at c;obtain⟨a,xs,h1,h2,h3⟩:=h;exact⟨a,xs,h1,h2,aN.cut e h3 c⟩
 | _,.lst ds,h,c=>by
  simp only [Den]at h ⊢;simp only [Cl]at c;obtain⟨a,xs,h1,h2,h3⟩:=h;exact⟨a,xs,h1,h2,aN.cut e h3 c⟩
 | _,.aM k,h,c=>by
  simp only [Den]at h ⊢;simp only [Cl]at c;obtain⟨a,h1,h2⟩:=h;exact⟨a,h1,(e k c).trans h2⟩
theorem aN.cut{ι':List Addr}{n:Nat}(e:∀k,k<n→ι[k]? = ι'[k]?):∀{xs:List V} {ds:List A},aN K G ι' xs ds→dP n ds→aN K G ι xs ds
 | _,[],h,_=>by simpa only [aN]using h
 | _,d::ds,h,c=>by
  simp only [aN]at h ⊢;simp only [dP]at c;obtain⟨x,r,h1,h2,h3⟩:=h;exact⟨x,r,h1,Den.cut e h2 c.1,aN.cut e h3 c.2⟩
end
def GY(n:Nat):Fd→Prop
 | .val a=>Cl n a
 | .lst ds=>dP n ds
 | .gZ aL=>dP n (aL.map (·.2))
def vI(n:Nat):List (Str×Fd)→Prop
 | []=>True
 | p::r=>GY n p.2∧vI n r
def Ey(n:Nat):Cell→Prop
 | .lst ds=>dP n ds
 | .gZ aL=>dP n (aL.map (·.2))
 | .ins _ fs=>vI n fs
 | _=>True
theorem iO.cl{H:Hp}{v:V}{fd:Fd}(h:iO K G ι H v fd):GY ι.length fd:=by
 cases fd with
 | val a=>exact Den.cl h
 | lst ds=>obtain⟨_,_,_,_,_,_,q⟩:=h;exact q.cl
 | gZ aL=>obtain⟨_,_,_,_,_,_,_,q⟩:=h;exact q.cl
theorem jN.cl{H:Hp}:∀{ws:List (Str×V)} {fs:List (Str×Fd)},jN K G ι H ws fs→vI ι.length fs
 | [],[],_=>trivial
 | (_,_)::_,(_,_)::_,h=>⟨h.2.1.cl,h.2.2.cl⟩
 | [],_::_,h=>h.elim
 | _::_,[],h=>h.elim
theorem qN.cl{H:Hp}{a:Addr}{c:Cell}(h:qN K G ι H a c):Ey ι.length c:=by
 cases c with
 | lst ds=>obtain⟨_,_,_,q⟩:=h;exact q.cl
 | gZ aL=>obtain⟨_,_,_,_,q⟩:=h;exact q.cl
 | ins cls fs=>obtain⟨_,_,_,_,_,_,q⟩:=h;exact q.cl
 | tab x pos qual=>trivial
 | dead=>trivial
theorem iO.cut{H:Hp}{ι':List Addr}{n:Nat}{v:V}{fd:Fd}(h:iO K G ι' H v fd)(e:∀k,k<n→ι[k]? = ι'[k]?)(hi:∀b,b∉ι'→b∉ι)(c:GY n fd):iO K G ι H v fd:=by
 cases fd with
 | val a=>exact Den.cut e h c
 | lst ds=>obtain⟨b,xs,h1,h2,h3,h4,h5⟩:=h;exact⟨b,xs,h1,h2,hi b h3,h4,h5.cut e c⟩
 | gZ aL=>obtain⟨b,ws,h1,h2,h3,h4,h5,h6⟩:=h;exact⟨b,ws,h1,h2,hi b h3,h4,h5,h6.cut e c⟩
theorem jN.cut{H:Hp}{ι':List Addr}{n:Nat}(e:∀k,k<n→ι[k]? = ι'[k]?)(hi:∀b,b∉ι'→b∉ι):∀{ws:List (Str×V)} {fs:List (Str×Fd)},jN K G ι' H ws fs→vI n fs→jN K G ι H ws fs
 | [],[],_,_=>trivial
 | (_,_)::_,(_,_)::_,h,c=>⟨h.1,h.2.1.cut e hi c.1,jN.cut e hi h.2.2 c.2⟩
 | [],_::_,h,_=>h.elim
 | _::_,[],h,_=>h.elim
theorem Ext.cut{G':Hp}{ι':List Addr}(e:Ext G ι G' ι'):∀k,k<ι.length→ι[k]? = ι'[k]?:=fun k hk=>by
 rw [eV hk,e.pre k _ (eV hk)]
theorem Wd.cut{G' H H':Hp}{ι':List Addr}{Ω Ω':aG}(w:Wd K G ι Ω H)(w':Wd K G' ι' Ω' H')(e:Ext G ι G' ι')(ht:Ω'.take Ω.length=Ω):Wd K G' ι Ω H' where
 sub:=w'.sub
 inj:=w.inj
 len:=w.len
 live:=fun a ha=>by
  obtain⟨k,hk,ea⟩:=sL ha;exact w'.live a (kI (e.pre k a (by rw [← ea];exact eV hk)))
 aM:=fun k c a h1 h2=>by
  have hk:k<Ω.length:=(eA.mp h1).1;have uD:Ω'[k]? = some c:=by
   rw [← ht,Ee]at h1;rw [if_pos hk]at h1;exact h1
  have q:=w'.aM k c a uD (e.pre k a h2);have q0:=w.aM k c a h1 h2;cases c with
  | lst ds =>
   obtain⟨g,xs,h3,h4⟩:=q;obtain⟨_,_,_,h5⟩:=q0;exact⟨g,xs,h3,h4.cut e.cut h5.cl⟩
  | gZ aL =>
   obtain⟨g,ws,h3,h4,h5⟩:=q;obtain⟨_,_,_,_,h6⟩:=q0;exact⟨g,ws,h3,h4,h5.cut e.cut h6.cl⟩
  | ins cls fs =>
   obtain⟨g,C,dx,ws,h0,h3,h4⟩:=q;obtain⟨_,_,_,_,_,_,h6⟩:=q0;exact⟨g,C,dx,ws,h0,h3,h4.cut (n:=ι.length) e.cut (fun b hb z=>hb (by
    obtain⟨k,hk,ea⟩:=sL z;exact kI (e.pre k b (by rw [← ea];exact eV hk)))) h6.cl⟩
  | tab x pos qual=>exact q
  | dead=>trivial
 sep:=fun b k i k' i' h1 h2=>by
  have back:∀{k i},fR H' ι Ω k i b→fR H' ι' Ω' k i b:=fun{k i} h=>h.to (fun a ha=>⟨e.pre k a ha,fun _ z=>z⟩) fun cls fs q=>by
   have hk:k<Ω.length:=(eA.mp q).1;rw [← ht,Ee,if_pos hk]at q;exact q
  exact w'.sep b k i k' i' (back h1) (back h2)
end
open Classical in
noncomputable def trim(Ω:aG):Option (Rs A×aG)→Option (Rs A×aG)
 | some (.ok a,Ω')=>if Ω'.take Ω.length=Ω∧Cl Ω.length a then some (.ok a,Ω)else some (.ok a,Ω')
 | some (.exc x,Ω')=>if Ω'.take Ω.length=Ω∧dP Ω.length (x.fs.map (·.2))then some (.exc x,Ω)else some (.exc x,Ω')
 | none=>none
theorem Hf{K:Frag}{W:WX}{G H:Hp}{ι:List Addr}{Ω:aG}{σ:L2.St}{Q:VK}{r:Option (Rs A×aG)}(w:Wd K G ι Ω H)(h:bG K (Den K) W G ι σ Q (trim Ω r)):bG K (Den K) W G ι σ Q r:=by
 match r,h with
 | some (.ok a,Ω'),h =>
  simp only [trim]at h;split at h
  ·rename_i hc;exact fun v H' G' ι' e w' d=>h v H' G' ι ⟨e.same,fun _ _ q=>q⟩ (w.cut w' e hc.1) (d.cut e.cut (by rw [w.len];exact hc.2))
  ·exact h
 | some (.exc x,Ω'),h =>
  simp only [trim]at h;split at h
  ·rename_i hc;intro cls dx H' G' ι' e w' d;refine h cls dx H' G' ι ⟨e.same,fun _ _ q=>q⟩ (w.cut w' e hc.1) d
  ·exact h
@[simp] def oF:OS→Option (Rs A×aG)
 | some (.nx,_,Ω)=>some (.ok .bS,Ω)
 | some (.ret a,_,Ω)=>some (.ok a,Ω)
 | some (.exc x,_,Ω)=>some (.exc x,Ω)
 | _=>none
@[simp] def AG(n:Nat)(ds:List A):Ev:=ds.map some++List.replicate (n - ds.length) none
@[simp] noncomputable def eQ(n:Nat)(b:MS):List A→Mo A:=fun ds Ω=>trim Ω (oF (b (AG n ds) Ω))
def nG(K:Frag)(n:Nat)(F:List A→Mo A):Sp:=fun vs H Q E=>vs.length=n∧∃G ι Ω ds,Wd K G ι Ω H∧aN K G ι vs ds∧bG K (Den K) (fun _=>E) G ι [] Q (F ds Ω)
abbrev cL(P:Program)(w:World)(K:Frag)(mg:Str→Option Value)(base:Heap)(x:Str)(k:Nat)(ps:List Str)(F:List A→Mo A):Prop:=BP P w K mg base x k ps (nG K ps.length F)
theorem Zn{K:Frag}{G:Hp}{ι:List Addr}{N:List Str}{vs:List V}{ds:List A}(d:aN K G ι vs ds):eX K G ι (L2.start N vs) (AG N.length ds):=by
 unfold L2.start AG;have hl:=d.length;refine⟨by simp [hl],fun i a h=>?_⟩
 by_cases hi:i<ds.length
 ·rw [gO (by simpa using hi)]at h;rw [pB]at h;cases e:ds[i]? with
  | none=>rw [e]at h;cases h
  | some a' =>
   rw [e]at h;cases h;obtain⟨v,q1,q2⟩:=d.get e;refine⟨v,?_,q2⟩;rw [gO (by simp;omega),pB,q1];rfl
 ·rw [kY (by simpa using hi)]at h;have:=kI h;simp at this
theorem Bx{K:Frag}{N:List Str}{t:TS}{b:MS}{H:Hp}{vs:List V}{Q:VK}{E:XK}{n:Nat}(s:mE K (fun _=>E) t b)(h:nG K n (eQ N.length b) vs H Q E):t { nx:=fun _ H'=>Q .bS H',rt:=Q } (L2.start N vs) H:=by
 obtain⟨hl,G,ι,Ω,ds,w,d,q⟩:=h;refine s G ι Ω H _ (AG N.length ds) _ w (Zn d) ?_;have q':=Hf w q
 revert q'
 generalize b (AG N.length ds) Ω=r;intro q'
 match r,q' with
 | some (.nx,ρ',Ω'),q'=>exact fun σ' H' G' ι' e w' r'=>q' .bS H' G' ι' e w' (by simp only [Den])
 | some (.ret a,ρ',Ω'),q'=>exact fun σ' H' G' ι' e w' r' v d'=>q' v H' G' ι' e w' d'
 | some (.exc x,ρ',Ω'),q'=>exact fun σ' H' G' ι' e w' r' cls dx d'=>q' cls dx H' G' ι' e w' d'
 | some (.bk,ρ',Ω'),q'=>exact False.elim q'
 | some (.ct,ρ',Ω'),q'=>exact False.elim q'
section
variable{P:Program}{w:World}{K:Frag}{mg:Str→Option Value}{base:Heap}
theorem Ao{x:Str}{st:Stmt}{N ps:List Str}{k:Nat}{b:MS}{f:Addr}{fd:FuncData}(F:lD K x x st f fd)(S:dM N ps (aY st))
  (gX:∀(f:Addr) (aV:Value) (A:Around) (outer:List Env) (s:Shared) (H:Hp) (E:XK),cW k (A.deeper (envOfC x (aY st) s.heap.objs.size f aV)) →
   jK (qE P w K mg base N x (aY st) f aV A outer s H E) (fun _=>E) (eR st) b):fD P w K mg base (mG P w) (k+1) f fd ps (nG K ps.length (eQ N.length b)):=by
 obtain⟨oc,od,kV,doc,pm,an,aV,ct,jU,rfl,lk,gW⟩:=F.ex;refine EY lk gW S (fun vs H Q E h=>h.1) fun A outer s H vs Q E hr iH=>?_;obtain⟨t,p,q⟩:=gX f aV A outer s H E hr;exact⟨t,KD p,Bx q iH⟩
theorem cL.of{x:Str}{st:Stmt}{N ps:List Str}{k:Nat}{b:MS}(h:HasFn K mg x st)(S:dM N ps (aY st))
  (bind:∀(kV doc pm:Value) (an:Option Addr) (aV ct:Value) (us:List Value),us.length=ps.length→bindArgs (fnOf x x (kF st) (eR st) (aY st) .none kV doc pm an aV ct) ⟨us,[]⟩=pure (ps.zip us))
  (gX:∀(f:Addr) (aV:Value) (A:Around) (outer:List Env) (s:Shared) (H:Hp) (E:XK),cW k (A.deeper (envOfC x (aY st) s.heap.objs.size f aV)) →
   jK (qE P w K mg base N x (aY st) f aV A outer s H E) (fun _=>E) (eR st) b):cL P w K mg base x (k+1) ps (eQ N.length b):=by
 obtain⟨f,fd,hm,F⟩:=h.ex;exact⟨f,fd,Ao F S gX,hm,F.kp,F.binds bind⟩
abbrev acC(P:Program)(w:World)(K:Frag)(mg:Str→Option Value)(base:Heap)(x:Str)(k:Nat)(ps:List Str)(F:List A→Mo A):Prop:=Def P w K mg base x k ps (fun vs H Q _=>nG K ps.length F vs H Q fun _ _ _=>False)
theorem Bv{k:Nat}{f:Addr}{fd:FuncData}{ps:List Str}{sp:Sp}(F:fD P w K mg base (mG P w) k f fd ps sp):fD P w K mg base qP k f fd ps (fun vs H Q _=>sp vs H Q fun _ _ _=>False) :=
 ⟨fun vs H Q E h=>F.len _ _ _ _ h,fun A outer s H args us vs Q E hr e0 hb r iH=>FK (F.run A outer s H args us vs Q _ hr e0 hb r iH) fun r s' hq=>by
  cases r with
  | error ev=>obtain⟨x,cls,dx,H',_,_,_,_,_,_,q⟩:=hq;exact q.elim
  | ok fl=>cases fl <;> exact hq⟩
theorem cL.calm{x:Str}{k:Nat}{ps:List Str}{F:List A→Mo A}(D:cL P w K mg base x k ps F):acC P w K mg base x k ps F:=by
 obtain⟨f,fd,h1,h2,h3,h4⟩:=D.ex;exact⟨f,fd,Bv h1,h2,h3,h4⟩
def CQ(K:Frag):Sp:=fun vs H Q _=>∃(a:Addr) (ns:List Int),vs=[.ref a]∧dO K H a (ns.map V.int)∧ns.length≤63∧∀H',Q (.bl true) H'
theorem Tg{fa:Addr}{fd:FuncData}{k:Nat}{F:List A→Mo A}(h1:fD P w K mg base (mG P w) k fa fd ["_law_script"] (nG K 1 F))(hF:∀ns:List Int,ns.length≤63→∃Ω,F [.eO ns] []=some (.ok (.bl true),Ω)) :
  fD P w K mg base qP k fa fd ["_law_script"] (CQ K):=by
 refine(Bv h1).imp fun vs H Q E hq=>?_;obtain⟨a,ns,rfl,hs,hl,q⟩:=hq;obtain⟨Ω,e⟩:=hF ns hl;refine⟨rfl,H,[],[],[.eO ns],⟨dZ.refl _,List.nodup_nil,rfl,fun a ha=>by simp at ha,fun k c a h=>by simp at h,fun b k i k' i' h=>by obtain⟨_,_,_,_,_,_,_,_,_,q,_⟩:=h;simp at q⟩,.cons (by simp only [Den];exact⟨a,rfl,hs⟩) .nil,?_⟩;rw [e];intro v H' G' ι' _ _ d;simp only [Den]at d;subst d;exact q H'
end
section
variable{X:Cx}{W:WX}{x:Str}{p pos:Pos}{e:Expr}{es:List Expr}{fs:Ev→Mo (List A)}
@[simp] def bY(n:Nat)(F:List A→Mo A):List A→Mo A:=fun as=>if as.length=n then F as else stuck
theorem Bw{K:Frag}{G G1:Hp}{ι ι1:List Addr}{σ:L2.St}{Q:VK}{r:Option (Rs A×aG)}{W:WX}(h:bG K (Den K) W G ι σ Q r)(x1:Ext G ι G1 ι1):bG K (Den K) (fun _=>fun cls dx H'=>W σ cls dx H') G1 ι1 [] Q r:=by
 match r,h with
 | some (.ok a,Ω2),h=>exact fun v H' G' ι' x2 w2 d2=>h v H' G' ι' (x1.trans x2) w2 d2
 | some (.exc a,Ω2),h=>exact fun cls dx H' G' ι' x2 w2 d2=>h cls dx H' G' ι' (x1.trans x2) w2 d2
theorem cF{k:Nat}{ps:List Str}{F:List A→Mo A}(T:sE X W)(D:cL X.prog X.w X.K X.mg X.base x k ps F)(hr:cW k X.A)(hg:Gl X x)(ha:VA X W (e::es) fs)
  (jY:(x == ("__debug__" : Str))=false:=by decide) (he:starEach (e::es) X.env=(false,eval e X.env)::starEach es X.env:=by rfl) (jF:(backTo pos (starEach es X.env)).any (·.1)=false:=by rfl):VE X W (.Call (.Name x p) (e::es) [] pos) (aU (bY ps.length F) fs):=by
 obtain⟨t,p1,s1⟩:=ha;refine⟨_,Pt T D hr hg p1 jY he jF,fun G ι Ω H σ ρ Q w r h=>?_⟩;refine s1 G ι Ω H σ ρ _ w r (bG.mb h fun as Ω1 vs H1 G1 ι1 x1 w1 d1 h1=>?_);unfold bY at h1;split at h1
 ·rename_i hl;exact⟨by rw [d1.length];exact hl,G1,ι1,Ω1,as,w1,d1,Bw h1 (Ext.refl _ _)⟩
 ·exact False.elim h1
theorem Pr{k:Nat}{ps:List Str}{sp:Sp}(T:sE X W)(D:BP X.prog X.w X.K X.mg X.base x k ps sp)(hr:cW k X.A)(hg:Gl X x)(jY:(x == ("__debug__" : Str))=false:=by decide) :
  PE X (.Call (.Name x p) [] [] pos) (UQ sp W UM):=by
 obtain⟨f,fd,F,hm,hk,hb⟩:=D.ex;intro pins s σ H Q I h;refine HE (YC I hg hm ?_ jY);refine PySem.W.callWith_K0 I.gT hk ?_;have h':sp [] H Q fun cls dx H'=>W σ cls dx H':=h;have hl:=F.len _ _ _ _ h';have AA:=hb s [] I.gT (by rw [nR];exact hl);rw [nR]at AA;refine wpAny_call (FK (F.run X.A X.stack s H ⟨[],[]⟩ [] [] Q _ hr I.Az AA .nil h') fun r s' hq=>?_);cases r with
 | error ev =>
  obtain⟨a,cls,dx,H',rfl,os,bare,un,aK,ex,q'⟩:=hq;have I2:=(I.PX os un aK bare (fun b z=>absurd z (by simp))).WM;exact T.to _ _ ⟨σ,H',a,cls,dx,rfl,I2,(ex.first I T.ex).any,q'⟩
 | ok fl =>
  cases fl with
  | ret u=>exact I.after hq
  | next=>exact False.elim hq
  | brk=>exact False.elim hq
  | cont=>exact False.elim hq
theorem Gk{k:Nat}{ps:List Str}{F:List A→Mo A}(T:sE X W)(D:cL X.prog X.w X.K X.mg X.base x k ps F)(hr:cW k X.A)(hg:Gl X x)(jY:(x == ("__debug__" : Str))=false:=by decide):VE X W (.Call (.Name x p) [] [] pos) (aU (bY ps.length F) fun _=>ret []):=by
 refine⟨_,Pr T D hr hg jY,fun G ι Ω H σ ρ Q w r h=>?_⟩;refine bG.mb (rel:=aN X.K) (Q1:=fun vs H1=>nG X.K ps.length F vs H1 Q fun cls dx H'=>W σ cls dx H') h (fun as Ω1 vs H1 G1 ι1 x1 w1 d1 h1=>?_) [] H G ι (Ext.refl _ _) w .nil;unfold bY at h1;split at h1
 ·rename_i hl;exact⟨by rw [d1.length];exact hl,G1,ι1,Ω1,as,w1,d1,Bw h1 (Ext.refl _ _)⟩
 ·exact False.elim h1
abbrev cI(i:Int):Ev→Mo A:=fun _=>ret (.int i)
abbrev cB(i:Bool):Ev→Mo A:=fun _=>ret (.bl i)
abbrev cT(n:String):Ev→Mo A:=fun _=>ret (.ty n)
abbrev a0:Ev→Mo (List A):=fun _=>ret []
abbrev CS:Ev→Mo (Option Int):=fun _=>ret none
end
end V2
namespace V2
open PySem L2
section
variable{α β:Type}{Ω Ω':aG}{a:A}
@[simp] theorem adI(x:α)(k:α→Mo β):mb (ret x) k=k x:=rfl
theorem XM{m:Mo α}{k:α→Mo β}{x:α}(h:m Ω=some (.ok x,Ω')):mb m k Ω=k x Ω':=by unfold mb;rw [h]
@[simp] theorem adJ(x:α)(k:α→Mo β):mb (need (some x)) k=k x:=rfl
theorem XN{p:Prop} [Decidable p](k:Unit→Mo β)(h:p):mb (hE p) k=k ():=by funext Ω;simp [mb,hE,h]
@[simp] theorem ac8(x:α):(ret x:Mo α) Ω=some (.ok x,Ω):=rfl
@[simp] theorem ac1:trim Ω (some (.ok a,Ω))=some (.ok a,Ω):=by simp only [trim];split <;> rfl
theorem yF{Δ:aG}(h:Cl Ω.length a):trim Ω (some (.ok a,Ω++Δ))=some (.ok a,Ω):=by
 simp only [trim];rw [if_pos ⟨by simp,h⟩]
@[simp] theorem ac7(x:α)(ρ:Ev)(k:α→aG→OS):sM (ret x) ρ k=k x:=rfl
theorem Na{m:Mo α}{ρ:Ev}{k:α→aG→OS}{x:α}(h:m Ω=some (.ok x,Ω')):sM m ρ k Ω=k x Ω':=by unfold sM;rw [h]
@[simp] theorem Qh(ρ:Ev):oF (some (.ret a,ρ,Ω))=some (.ok a,Ω):=rfl
@[simp] theorem adA(ρ:Ev):oF (some (.nx,ρ,Ω))=some (.ok .bS,Ω):=rfl
theorem cY{f g:MS}{ρ ρ1:Ev}(h:f ρ Ω=some (.nx,ρ1,Ω')):aX f g ρ Ω=g ρ1 Ω':=by unfold aX;rw [h]
theorem uR{α:Type}(xs:List α)(n:Nat):bZ xs (n:Int)=xs[n]?:=by
 unfold bZ jE;rw [if_pos (by omega)]
 by_cases h:(n:Int)<xs.length
 ·rw [if_pos h];simp
 ·rw [if_neg h];simp;omega
theorem Cu{α:Type}(xs:List α)(n:Nat):bZ xs (OfNat.ofNat n:Int)=xs[n]?:=uR xs n
theorem abG{α:Type}(xs:List α):bZ xs 0=xs[0]?:=uR xs 0
theorem abI{α:Type}(xs:List α):bZ xs 1=xs[1]?:=uR xs 1
end
@[simp] theorem acS:mR "int" "int" = some true:=by simp [mR]
@[simp] theorem acT:mR "int" "bool" = some false:=by simp [mR]
@[simp] theorem acQ:mR "tuple" "tuple" = some true:=by simp [mR]
@[simp] theorem acR:mR "list" "list" = some true:=by simp [mR]
@[simp] theorem adO(Ω:aG)(ds:List A):bP Ω (.lst ds)=some ds:=rfl
@[simp] theorem adN(Ω:aG)(ns:List Int):bP Ω (.eO ns)=some (ns.map A.int):=rfl
@[simp] theorem adM(Ω:aG)(ds:List A):bP Ω (.tup ds)=none:=rfl
@[simp] theorem adP(Ω:aG)(i:Int):bP Ω (.int i)=none:=rfl
@[simp] theorem ac5(Ω:aG)(ds:List A):fA Ω (.lst ds)=some ds:=rfl
@[simp] theorem ac4(Ω:aG)(ns:List Int):fA Ω (.eO ns)=some (ns.map A.int):=rfl
@[simp] theorem ac3(Ω:aG)(ds:List A):fA Ω (.tup ds)=some ds:=rfl
@[simp] theorem Me(Ω:aG)(k:Nat):fA Ω (.aM k)=bP Ω (.aM k):=rfl
@[simp] theorem acY(Ω:aG)(i:Int):iT Ω (.int i)=some "int":=rfl
@[simp] theorem acZ(Ω:aG)(i:Bool):iT Ω (.bl i)=some "bool":=rfl
@[simp] theorem acV(Ω:aG)(i:Str):iT Ω (.str i)=some "str":=rfl
@[simp] theorem acW(Ω:aG):iT Ω .bS=some "NoneType":=rfl
@[simp] theorem acU(Ω:aG)(ds:List A):iT Ω (.tup ds)=some "tuple":=rfl
@[simp] theorem acX(Ω:aG)(ds:List A):iT Ω (.lst ds)=some "list":=rfl
@[simp] theorem adY:zI .bS=some true:=rfl
@[simp] theorem ad0(i:Int):zI (.int i)=some false:=rfl
@[simp] theorem adX(ds:List A):zI (.tup ds)=some false:=rfl
@[simp] theorem adZ(ds:List A):zI (.lst ds)=some false:=rfl
@[simp] theorem ad1(b:Bool):zI (.bl b)=some false:=rfl
theorem jD{Ω:aG}{k:Nat}{ds:List A}(h:Ω[k]? = some (.lst ds)):bP Ω (.aM k)=some ds:=by simp [bP,h]
theorem qG{Ω:aG}{k:Nat}{ds:List A}(h:Ω[k]? = some (.lst ds)):iX Ω (.aM k)=some (k,ds):=by simp [iX,h]
theorem pT{Ω:aG}{a:A}{ds:List A}(h:bP Ω a=some ds):mS Ω a:=⟨ds,h⟩
section
variable{ok:aG→Prop}{g:A→MS}{b:MS}{x:A}{xs:List A}{ρ ρ0 ρ1:Ev}{Ω Ω0 Ω1:aG}{a:A}
theorem Zi(h:ok Ω):dC ok g b [] ρ Ω=some (.nx,ρ,Ω):=by simp [dC,h]
theorem wL(h:ok Ω)(hg:g x ρ Ω=some (.nx,ρ0,Ω0))(hb:b ρ0 Ω0=some (.nx,ρ1,Ω1)):dC ok g b (x::xs) ρ Ω=dC ok g b xs ρ1 Ω1:=by simp [dC,h,hg,hb]
theorem Zj(h:ok Ω)(hg:g x ρ Ω=some (.nx,ρ0,Ω0))(hb:b ρ0 Ω0=some (.ct,ρ1,Ω1)):dC ok g b (x::xs) ρ Ω=dC ok g b xs ρ1 Ω1:=by simp [dC,h,hg,hb]
theorem As(I:Nat→Ev→aG→Prop)(aK:∀i ρ Ω,I i ρ Ω→ok Ω):∀(xs:List A) (j:Nat) (ρ:Ev) (Ω:aG),I j ρ Ω →
  (∀i x ρ Ω,xs[i]? = some x→I (j+i) ρ Ω→∃ρ0 Ω0 ρ1 Ω1,g x ρ Ω=some (.nx,ρ0,Ω0)∧(b ρ0 Ω0=some (.nx,ρ1,Ω1)∨b ρ0 Ω0=some (.ct,ρ1,Ω1))∧I (j+i+1) ρ1 Ω1) →
  ∃ρ' Ω',dC ok g b xs ρ Ω=some (.nx,ρ',Ω')∧I (j+xs.length) ρ' Ω'
 | [],j,ρ,Ω,h0,_=>⟨ρ,Ω,Zi (aK _ _ _ h0),h0⟩
 | x::xs,j,ρ,Ω,h0,turn=>by
  obtain⟨ρ0,Ω0,ρ1,Ω1,e1,e2,e3⟩:=turn 0 x ρ Ω rfl h0;obtain⟨ρ',Ω',q1,q2⟩:=As I aK xs (j+1) ρ1 Ω1 e3 fun i y ρ Ω hy hI=>by
   have:=turn (i+1) y ρ Ω (by simpa using hy) (by rw [show j+(i+1)=j+1+i by omega];exact hI);rwa [show j+(i+1)+1=j+1+i+1 by omega]at this
  refine⟨ρ',Ω',?_,by rw [eU,show j+(xs.length+1)=j+1+xs.length by omega];exact q2⟩
  rcases e2 with e2 | e2
  ·rw [wL (aK _ _ _ h0) e1 e2,q1]
  ·rw [Zj (aK _ _ _ h0) e1 e2,q1]
end
section
variable{c:Ev→Mo Bool}{b:MS}{n:Nat}{ρ ρ1:Ev}{Ω Ω1 Ω2:aG}{a:A}
theorem wK(hc:c ρ Ω=some (.ok true,Ω1))(hb:b ρ Ω1=some (.nx,ρ1,Ω2)):gY c b (n+1) ρ Ω=gY c b n ρ1 Ω2:=by simp [gY,hc,hb]
theorem FA(hc:c ρ Ω=some (.ok false,Ω1)):gY c b (n+1) ρ Ω=some (.nx,ρ,Ω1):=by simp [gY,hc]
end
open PySem PySem.Spec PyProof.Rows L2
def pQ(n:Nat)(js:List Nat)(ρ:Ev):Ev:=List.replicate n none++js.map (fun j=>(ρ[j]?).join)
def GA(X:Cx)(W:WX)(ifs:List Expr)(f:Ev→Mo Bool):Prop:=∃t,GD X ifs t∧eS X.K tH W t f
theorem xY{X:Cx}{W:WX}{c:Expr}{f:Ev→Mo Bool}(h:VT X W c f):GA X W [c] f:=let ⟨t,p,s⟩:=h; ⟨t,Ou p,s⟩
open Classical in
noncomputable def kD(ok:aG→Prop)(g:A→MS)(c:Ev→Mo Bool)(e:Ev→Mo A)(n:Nat):List A→Ev→aG→Option (Ev×aG)
 | [],ρ,Ω=>if ok Ω then some (ρ,Ω)else none
 | x::xs,ρ,Ω=>if ok Ω then(match g x ρ Ω with
  | some (.nx,ρ1,Ω1)=>(match c ρ1 Ω1 with
   | some (.ok true,Ω2)=>(match e ρ1 Ω2 with
    | some (.ok y,Ω3)=>(match Ω3[n]? with
     | some (.lst ys)=>if ys.length<sizeLine then kD ok g c e n xs ρ1 (Ω3.set n (.lst (ys++[y])))else none
     | _=>none)
    | _=>none)
   | some (.ok false,Ω2)=>kD ok g c e n xs ρ1 Ω2
   | _=>none)
  | _=>none)else none
open Classical in
noncomputable def KG(cf:Bool)(Ω1:aG)(r:Option (Ev×aG)):Option (Rs A×aG):=match r with
 | some (_,Ω')=>(match Ω'[Ω1.length]? with
  | some (.lst ys)=>if cf then some (.ok (.aM Ω1.length),Ω')else if Ω'.take Ω1.length=Ω1∧dP Ω1.length ys then some (.ok (.lst ys),Ω1)else some (.ok (.lst ys),Ω'.set Ω1.length .dead)
  | _=>none)
 | none=>none
noncomputable def oA(cf:Bool)(n:Nat)(js:List Nat)(fi:Ev→Mo Src)(g:A→MS)(c:Ev→Mo Bool)(e:Ev→Mo A):Ev→Mo A:=fun ρ=>mb (fi ρ) fun S Ω1=>KG cf Ω1 (kD S.ok g c e Ω1.length S.ds (pQ n js ρ) (Ω1++[.lst []]))
theorem Zg{ok:aG→Prop}{g:A→MS}{c:Ev→Mo Bool}{e:Ev→Mo A}{n:Nat}{xs:List A}{ρ:Ev}{Ω:aG}{r:Ev×aG}(h:kD ok g c e n xs ρ Ω=some r):ok Ω:=by
 cases xs with
 | nil=>unfold kD at h;by_cases hp:ok Ω;exact hp;rw [if_neg hp]at h;cases h
 | cons=>unfold kD at h;by_cases hp:ok Ω;exact hp;rw [if_neg hp]at h;cases h
theorem Tc{K:Frag}{G:Hp}{ι:List Addr}{σ:L2.St}{ρ:Ev}(ls:List Str)(js:List Nat)(r:eX K G ι σ ρ):eX K G ι (rF ls js σ) (pQ ls.length js ρ):=by
 unfold rF pQ;refine⟨by simp,fun i d h=>?_⟩
 by_cases hi:i<ls.length
 ·rw [gO (by simpa using hi)]at h;rw [List.getElem?_replicate,if_pos hi]at h;cases h
 ·rw [kY (by simpa using QV hi),List.length_replicate,pB]at h;cases e:js[i - ls.length]? with
  | none=>rw [e]at h;cases h
  | some j =>
   rw [e]at h;have h':(ρ[j]?).join=some d:=iL h;obtain⟨v,q1,q2⟩:=r.2 j d (join_some h');refine⟨v,?_,q2⟩;rw [kY (by simpa using QV hi),hJ,pB,e];show some (σ[j]?).join=_;rw [q1];rfl
section
variable{K:Frag}{W:WX}
theorem Mi{ls:List Str}{js:List Nat}{wi:TI}{tg:TG}{tc:TT}{te:TE}{fi:Ev→Mo Src}{g:A→MS}{c:Ev→Mo Bool}{e:Ev→Mo A}{cf:Bool}(W0:WX)(hi:eS K (JC K) W wi fi)(hg:AQ K W0 tg g)(hc:eS K tH W0 tc c)(he:eS K (Den K) W0 te e) :
  eS K (Den K) W (UN ls js wi tg tc te) (oA cf ls.length js fi g c e):=by
 intro G ι Ω H σ ρ Q w r h;refine hi G ι Ω H σ ρ _ w r (bG.mb h fun S Ω1 J H1 G1 ι1 x1 w1 j1 h1=>?_);intro D hD;unfold KG at h1;cases er:kD S.ok g c e Ω1.length S.ds (pQ ls.length js ρ) (Ω1++[.lst []])with
 | none=>rw [er]at h1;exact False.elim h1
 | some rr =>
 obtain⟨ρe,Ωe⟩:=rr;rw [er]at h1;simp only at h1;have Uz:Wd K G1 (ι1++[D]) (Ω1++[.lst []]) (upd H1 D (.lst [])):=w1.cell hD ⟨w1.uF hD,[],gR,.nil⟩;have r0:eX K G1 (ι1++[D]) (rF ls js σ) (pQ ls.length js ρ):=Tc ls js (r.ext (x1.trans (Ext.cell D)));have ZW:(ι1++[D])[Ω1.length]? = some D:=by rw [← w1.len];simp
 refine⟨fun i m σ' H'=>m=S.ds.length - i∧i≤S.ds.length∧∃G' ι' Ω' ρ',Ext G1 (ι1++[D]) G' ι'∧Wd K G' ι' Ω' H'∧eX K G' ι' σ' ρ'∧kD S.ok g c e Ω1.length (S.ds.drop i) ρ' Ω'=some (ρe,Ωe),
  ⟨_,rfl,xB _,G1,_,_,_,Ext.refl _ _,Uz,r0,by simpa using er⟩,?_⟩
 rintro i m σ' H' ⟨rfl,Wb,G',ι',Ω',ρ',e',w',r',h'⟩;have aK:=Zg h';have eJ:Ext G1 ι1 G' ι':=(Ext.cell D).trans e'
 by_cases aZ:i<S.ds.length
 ·right
  refine⟨j1.go G' ι' Ω' H' eJ w' aK i aZ,fun σ2 H2=>∃G2 ι2 Ω2 ρ2,Ext G1 (ι1++[D]) G2 ι2∧Wd K G2 ι2 Ω2 H2∧eX K G2 ι2 σ2 ρ2∧kD S.ok g c e Ω1.length (S.ds.drop (i+1)) ρ2 Ω2=some (ρe,Ωe),fun σ2 H2 n=>?_,fun x H2 y=>?_⟩
  ·exact⟨S.ds.length - (i+1),by omega,rfl,aZ,n⟩
  ·obtain⟨G2,e2,w2,d2⟩:=j1.qQ G' ι' Ω' H' eJ w' aK i x H2 S.ds[i] (eV aZ) y;rw [kZ aZ]at h';unfold kD at h';rw [if_pos aK]at h';refine hg G2 ι' Ω' H2 σ' ρ' x S.ds[i] ⟨_,fun _ _=>False,fun _ _=>False,fun _ _=>False⟩ w2 (r'.ext e2) d2 ?_
   revert h'
   generalize g S.ds[i] ρ' Ω'=q;intro h';split at h'
   ·rename_i ρ3 Ω3;intro σ3 H3 G3 ι3 x3 w3 r3;refine hc G3 ι3 Ω3 H3 σ3 ρ3 _ w3 r3 ?_
    revert h'
    generalize c ρ3 Ω3=q2;intro h';split at h'
    ·rename_i Ω4;intro b H4 G4 ι4 x4 w4 hb;cases(show b=true from hb);rw [if_pos rfl];refine he G4 ι4 Ω4 H4 σ3 ρ3 _ w4 (r3.ext x4) ?_
     revert h'
     generalize e ρ3 Ω4=q3;intro h';split at h'
     ·rename_i z Ω5;intro v H5 G5 ι5 x5 w5 d5;split at h'
      ·rename_i ys ey;split at h'
       ·rename_i hl;have eD:=(((e'.trans e2).trans x3).trans x4).trans x5;have hk:=eD.pre _ _ ZW;obtain⟨gg,xs,q1,q2⟩:=w5.aM _ _ D ey hk;refine⟨xs,q1,by rw [q2.length];exact hl,G5,ι5,_,ρ3,eD,w5.put (c := .lst (ys++[z])) hk gg ⟨gg,_,gR,q2.append (.cons d5 .nil)⟩,(r3.ext x4).ext x5,h'⟩
       ·cases h'
      ·cases h'
     ·cases h'
    ·rename_i Ω4;intro b H4 G4 ι4 x4 w4 hb;cases(show b=false from hb);rw [if_neg (by simp)];exact⟨G4,ι4,Ω4,ρ3,((e'.trans e2).trans x3).trans x4,w4,r3.ext x4,h'⟩
    ·cases h'
   ·cases h'
 ·have pV:i=S.ds.length:=by omega
  subst pV
  left
  refine⟨j1.stop G' ι' Ω' H' eJ w' aK _ cP,?_⟩;rw [xJ]at h';unfold kD at h';rw [if_pos aK]at h';cases h';split at h1
  ·rename_i ys ey;have hk:=e'.pre _ _ ZW;obtain⟨gg,xs,q1,q2⟩:=w'.aM _ _ D ey hk;split at h1
   ·exact h1 _ H' G' ι' eJ w' (by simp only [Den];exact⟨D,rfl,hk⟩)
   ·have wf:=w'.freeze hk gg q1;split at h1
    ·rename_i ZN;have eC:Ext G1 ι1 (upd G' D (.lst xs)) ι':=eJ.trans (Ext.new gg _);have wc:=w1.cut wf eC (by rw [List.take_set_of_le cP];exact ZN.1);refine h1 _ H' _ ι1 ⟨eC.same,fun _ _ q=>q⟩ wc ?_;simp only [Den];exact⟨D,xs,rfl,gR,(q2.ext (Ext.new gg _)).cut eC.cut (by rw [w1.len];exact ZN.2)⟩
    ·refine h1 _ H' _ ι' (eJ.trans (Ext.new gg _)) wf ?_;simp only [Den];exact⟨D,xs,rfl,gR,q2.ext (Ext.new gg _)⟩
  ·exact False.elim h1
end
def HY{α β:Type}(K:Frag)(rel:Rl α β)(W:WX)(f:Ev→Mo α):L2.St→Hp→(β→Hp→Prop)→Prop:=fun σ H Q=>∃G ι Ω ρ,Wd K G ι Ω H∧eX K G ι σ ρ∧bG K rel W G ι σ Q (f ρ Ω)
def UP(K:Frag)(W:WX)(g:A→MS):TG:=fun v σ H Q=>∃G ι Ω ρ a D,Wd K G ι Ω H∧eX K G ι σ ρ∧Den K G ι v a∧dJ K W G ι D (g a ρ Ω)∧D.nx=Q
theorem VD{α β:Type}{K:Frag}{rel:Rl α β}{W:WX}{f:Ev→Mo α}:eS K rel W (HY K rel W f) f:=fun G ι Ω H σ ρ Q w r h=>⟨G,ι,Ω,ρ,w,r,h⟩
theorem Mm{K:Frag}{W:WX}{g:A→MS}:AQ K W (UP K W g) g:=fun G ι Ω H σ ρ v a D w r d h=>⟨G,ι,Ω,ρ,a,D,w,r,d,h,rfl⟩
theorem VE.AK{X:Cx}{W:WX}{e:Expr}{f:Ev→Mo A}(h:VE X W e f):PE X e (HY X.K (Den X.K) W f):=by
 obtain⟨t,p,s⟩:=h;exact fun pins sh σ H Q I ⟨G,ι,Ω,ρ,w,r,q⟩=>p pins sh σ H Q I (s G ι Ω H σ ρ Q w r q)
theorem GA.AK{X:Cx}{W:WX}{ifs:List Expr}{f:Ev→Mo Bool}(h:GA X W ifs f):GD X ifs (HY X.K tH W f):=by
 obtain⟨t,p,s⟩:=h;exact fun pins sh σ H Q I ⟨G,ι,Ω,ρ,w,r,q⟩=>p pins sh σ H Q I (s G ι Ω H σ ρ Q w r q)
theorem VG.AK{X:Cx}{W:WX}{tg:Expr}{g:A→MS}(h:VG X W tg g):PG X tg (UP X.K W g):=by
 obtain⟨t,p,s⟩:=h;exact fun pins sh σ H v u Q I rv ⟨G,ι,Ω,ρ,a,D,w,r,d,q,e⟩=>p pins sh σ H v u Q I rv (e ▸ s G ι Ω H σ ρ v a D w r d q)
abbrev JN:WX:=fun _ _ _ _=>False
theorem yA{X:Cx}{W:WX}{elt tg iter:Expr}{ifs:List Expr}{scope:Scope}{pos:Pos}{fi:Ev→Mo Src}{g:A→MS}{c:Ev→Mo Bool}{e:Ev→Mo A}(cf:Bool)(ls:List Str)(js:List Nat)(hc:X.calm=true)(L:xM X scope ls js)(hi:VI X W tg iter fi)
  (hb:∀cl C s H fp,VG (iD X scope ls js cl C s H fp) JN tg g∧GA (iD X scope ls js cl C s H fp) JN ifs c∧VE (iD X scope ls js cl C s H fp) JN elt e)
  (hs:∀x,foldedSetIterable iter X.env x=pure x:=by intro _;rfl):VE X W (.ListComp elt [⟨tg,iter,ifs,0⟩] scope pos) (oA cf ls.length js fi g c e):=by
 obtain⟨t1,p1,s1⟩:=hi;exact⟨_,Pm hc L p1 (fun cl C s H fp=>⟨(hb cl C s H fp).1.AK,(hb cl C s H fp).2.1.AK,(hb cl C s H fp).2.2.AK⟩) hs,Mi _ s1 Mm VD VD⟩
end V2
namespace PyProof.Rows
open PySem
def kA:Bool→Keyed→Array Keyed→Nat→Nat→Nat→StateT SortSt Sem (Option Nat):=sortPriv% PySem.Builtin.gallop
def qW:Nat→StateT SortSt Sem Unit:=sortPriv% PySem.Builtin.setMinGallop
def yY:Array Keyed→Array Keyed→StateT SortSt Sem (Array Keyed):=sortPriv% PySem.Builtin.mergeLo
def yZ:Array Keyed→Array Keyed→StateT SortSt Sem (Array Keyed):=sortPriv% PySem.Builtin.mergeHi
structure TB(kd:SortKind)(a₀:Array Keyed)(st:SortSt):Prop where
 kind:kindOf st=kd
 failed:failedOf st=none
def dR(M:Model)(A:Around)(E:Value→Shared→Prop)(s:Shared)(kd:SortKind)(P:Keyed→Prop)(rk:Keyed→Int):Prop :=
 ∀x y,P x→P y→∀(st:SortSt) (Q:Option Bool→SortSt→Prop),kindOf st=kd→Q (some (decide (rk x<rk y))) st→wpS M A E s (lt' x y) Q st
theorem Ys(left:Bool)(key:Keyed)(arr:Array Keyed)(base n hint:Nat):kA left key arr base n hint=(do
 let beyond (i:Nat):StateT SortSt Sem (Option Bool):=do
  let x ← elem' arr (base+i)
  if left then lt' x key else return (← lt' key x).map (!·)
 let mut lT:=0
 let mut dU:=1
 let mut lo:=0
 let mut hi:=0
 let some right ← beyond hint | return none
 if right then
  let zB:=n - hint
  for _ in [0:n] do
   if dU≥zB then break
   let some more ← beyond (hint+dU) | return none
   if !more then break
   lT:=dU
   dU:=2*dU+1
  lo:=hint+lT+1
  hi:=hint+min dU zB
 else
  let zB:=hint+1
  for _ in [0:n] do
   if dU≥zB then break
   let some found ← beyond (hint - dU) | return none
   if found then break
   lT:=dU
   dU:=2*dU+1
  lo:=hint+1 - min dU zB
  hi:=hint - lT
 for _ in [0:n] do
  if lo≥hi then break
  let m:=lo+(hi - lo)/2
  let some more ← beyond m | return none
  if more then lo:=m+1 else hi:=m
 return some hi):=rfl
section
variable{M:Model}{A:Around}{E:Value→Shared→Prop}{s:Shared}{kd:SortKind}{P:Keyed→Prop}{rk:Keyed→Int}
theorem Gd(hL:dR M A E s kd P rk){st:SortSt}(hk:kindOf st=kd){left:Bool}{key:Keyed}{arr:Array Keyed}{base i:Nat}{x:Keyed}(mU:P key)(hx:arr[base+i]? = some x)(YT:P x){Q:Option Bool→SortSt→Prop}
  (h:Q (some (if left then decide (rk x<rk key)else !decide (rk key<rk x))) st):wpS M A E s (do
  let x ← elem' arr (base+i)
  if left then lt' x key else return (← lt' key x).map (!·)) Q st:=by
 have e:elem' arr (base+i)=pure x:=by rw [elem'_eq,hx]
 rw [e,pure_bind];cases left with
 | true=>exact hL x key YT mU st Q hk h
 | false=>exact aQ (hL key x mU YT st _ hk (bH h))
def Ag(left:Bool)(key:Keyed)(arr:Array Keyed)(base n Su pX:Nat):StateT SortSt Sem (Option Nat):=do
 let beyond (i:Nat):StateT SortSt Sem (Option Bool):=do
  let x ← elem' arr (base+i)
  if left then lt' x key else return (← lt' key x).map (!·)
 let mut lo:=Su
 let mut hi:=pX
 for _ in [0:n] do
  if lo≥hi then break
  let m:=lo+(hi - lo)/2
  let some more ← beyond m | return none
  if more then lo:=m+1 else hi:=m
 return some hi
theorem SQ{st:SortSt}{left:Bool}{key:Keyed}{arr:Array Keyed}{base n:Nat}(cV:Nat→Bool)
  (tZ:∀i,i<n→∀{Q:Option Bool→SortSt→Prop},Q (some (cV i)) st→wpS M A E s (do
  let x ← elem' arr (base+i)
  if left then lt' x key else return (← lt' key x).map (!·)) Q st) (mono:∀i j,i≤j→j<n→cV j=true→cV i=true) {Q:Option Nat→SortSt→Prop}
  (h:∀k,k≤n→(∀i,i<k→cV i=true)→(∀i,k≤i→i<n→cV i=false)→Q (some k) st) {lo hi:Nat} (h1:lo≤hi) (h2:hi≤n) (h3:∀i,i<lo→cV i=true) (h4:∀i,hi≤i→i<n→cV i=false) :
  wpS M A E s (Ag left key arr base n lo hi) Q st:=by
 unfold Ag;dsimp only;refine aQ (iQ (jQ
  (I:=fun i (c:Option (Option Nat)×Nat×Nat) aE=>aE=st∧c.1=none∧c.2.1≤c.2.2∧c.2.2≤n∧(∀i,i<c.2.1→cV i=true)∧(∀i,c.2.2≤i→i<n→cV i=false)∧c.2.2 - c.2.1≤n - i)
  (Q:=fun(c:Option (Option Nat)×Nat×Nat) aE=>aE=st∧c.1=none∧c.2.1=c.2.2∧c.2.2≤n∧(∀i,i<c.2.1→cV i=true)∧(∀i,c.2.2≤i→i<n→cV i=false)) ?step ?fin ⟨rfl,rfl,h1,h2,h3,h4,by dsimp only;omega⟩) ?post)
 case fin =>
  rintro⟨r,lo,hi⟩ aE ⟨e,e0,a1,a2,a3,a4,a5⟩;dsimp only at *;exact⟨e,e0,by omega,a2,a3,a4⟩
 case step =>
  rintro i ⟨r,lo,hi⟩ aE _ kT ⟨rfl,e0,a1,a2,a3,a4,a5⟩;dsimp only at *
  by_cases aZ:lo≥hi
  ·rw [if_pos aZ];exact wpS_pure ⟨rfl,rfl,by dsimp only;omega,a2,a3,a4⟩
  ·rw [if_neg aZ];refine aQ (tZ (lo+(hi - lo)/2) (by omega) ?_);dsimp only;cases hm:cV (lo+(hi - lo)/2)with
   | true =>
    simp only [cR];refine wpS_pure ⟨rfl,rfl,by dsimp only;omega,a2,fun j hj=>mono j _ (by dsimp only at hj;omega) (by omega) hm,a4,by dsimp only;omega⟩
   | false =>
    simp only [eB,cK];refine wpS_pure ⟨rfl,rfl,by dsimp only;omega,by dsimp only;omega,a3,fun j hj oO=>?_,by dsimp only;omega⟩;dsimp only at hj;cases Wv:cV j with
    | false=>rfl
    | true=>rw [mono _ j hj oO Wv]at hm;cases hm
 case post =>
  rintro⟨r,lo,hi⟩ aE ⟨rfl,e0,a1,a2,a3,a4⟩;dsimp only at *;subst e0;exact bH (h hi a2 (by rw [← a1];exact a3) a4)
theorem SN(hL:dR M A E s kd P rk){st:SortSt}(hk:kindOf st=kd){left:Bool}{key:Keyed}{arr:Array Keyed}{base n hint:Nat}(mU:P key)(Xc:∀i,i<n→∃x,arr[base+i]? = some x∧P x)(hh:hint<n)(cV:Nat→Bool)
  (hb:∀i x,i<n→arr[base+i]? = some x→cV i=if left then decide (rk x<rk key)else !decide (rk key<rk x)) (mono:∀i j,i≤j→j<n→cV j=true→cV i=true) {Q:Option Nat→SortSt→Prop}
  (h:∀k,k≤n→(∀i,i<k→cV i=true)→(∀i,k≤i→i<n→cV i=false)→Q (some k) st):wpS M A E s (kA left key arr base n hint) Q st:=by
 have tZ:∀i,i<n→∀{Q:Option Bool→SortSt→Prop},Q (some (cV i)) st→wpS M A E s (do
  let x ← elem' arr (base+i)
  if left then lt' x key else return (← lt' key x).map (!·)) Q st:=fun i hi Q q=>by
  obtain⟨x,hx,hp⟩:=Xc i hi;rw [hb i x hi hx]at q;exact Gd hL hk mU hx hp q
 rw [Ys];dsimp only;refine aQ (tZ hint hh ?_);dsimp only;cases ZR:cV hint with
 | true =>
  simp only [cR];refine aQ (iQ (jQ
   (I:=fun i (c:Option (Option Nat)×Nat×Nat) aE=>aE=st∧c.1=none∧cV (hint+c.2.1)=true∧c.2.1<c.2.2∧i+1≤c.2.2∧hint+c.2.1<n)
   (Q:=fun(c:Option (Option Nat)×Nat×Nat) aE=>aE=st∧c.1=none∧cV (hint+c.2.1)=true∧c.2.1<c.2.2∧hint+c.2.1<n∧(n - hint≤c.2.2∨cV (hint+c.2.2)=false)) ?step ?fin (show _∧_∧cV (hint+0)=true∧(0:Nat)<1∧0+1≤(1:Nat)∧hint+0<n from⟨rfl,rfl,ZR,by decide,by decide,hh⟩)) ?post)
  case fin =>
   rintro⟨r,lT,dU⟩ aE ⟨e,e0,a1,a2,a3,a4⟩;dsimp only at *;exact⟨e,e0,a1,a2,a4,.inl (by omega)⟩
  case step =>
   rintro i ⟨r,lT,dU⟩ aE _ kT ⟨rfl,e0,a1,a2,a3,a4⟩;dsimp only at *
   by_cases cU:dU≥n - hint
   ·rw [if_pos cU];exact bH ⟨rfl,rfl,a1,a2,a4,.inl cU⟩
   ·rw [if_neg cU];refine aQ (tZ (hint+dU) (by omega) ?_);dsimp only;cases hm:cV (hint+dU)with
    | true =>
     simp only [Bool.not_true,eB,cK];exact wpS_pure ⟨rfl,rfl,hm,by dsimp only;omega,by dsimp only;omega,by dsimp only;omega⟩
    | false =>
     simp only [Bool.not_false,cR];exact bH ⟨rfl,rfl,a1,a2,a4,.inr hm⟩
  case post =>
   rintro⟨r,lT,dU⟩ aE ⟨rfl,e0,a1,a2,a4,a5⟩;dsimp only at *;subst e0;refine SQ (lo:=hint+lT+1) (hi:=hint+min dU (n - hint)) cV (fun i hi=>tZ i hi) mono h (by omega) (by omega) (fun i hi=>mono i (hint+lT) (by omega) (by omega) a1) (fun i hi kT=>?_)
   rcases a5 with z | z
   ·omega
   ·cases NJ:cV i with
    | false=>rfl
    | true =>
     by_cases hle:hint+dU≤i
     ·rw [mono _ i hle kT NJ]at z;cases z
     ·omega
 | false =>
  simp only [eB,cK];refine aQ (iQ (jQ
   (I:=fun i (c:Option (Option Nat)×Nat×Nat) aE=>aE=st∧c.1=none∧cV (hint - c.2.1)=false∧c.2.1<c.2.2∧i+1≤c.2.2∧c.2.1≤hint)
   (Q:=fun(c:Option (Option Nat)×Nat×Nat) aE=>aE=st∧c.1=none∧cV (hint - c.2.1)=false∧c.2.1<c.2.2∧c.2.1≤hint∧(hint+1≤c.2.2∨(c.2.2≤hint∧cV (hint - c.2.2)=true))) ?step ?fin (show _∧_∧cV (hint - 0)=false∧(0:Nat)<1∧0+1≤(1:Nat)∧0≤hint from⟨rfl,rfl,ZR,by decide,by decide,xB _⟩)) ?post)
  case fin =>
   rintro⟨r,lT,dU⟩ aE ⟨e,e0,a1,a2,a3,a4⟩;dsimp only at *;exact⟨e,e0,a1,a2,a4,.inl (by omega)⟩
  case step =>
   rintro i ⟨r,lT,dU⟩ aE _ kT ⟨rfl,e0,a1,a2,a3,a4⟩;dsimp only at *
   by_cases cU:dU≥hint+1
   ·rw [if_pos cU];exact bH ⟨rfl,rfl,a1,a2,a4,.inl cU⟩
   ·rw [if_neg cU];refine aQ (tZ (hint - dU) (by omega) ?_);dsimp only;cases hm:cV (hint - dU)with
    | true =>
     simp only [cR];exact wpS_pure ⟨rfl,rfl,a1,a2,a4,.inr ⟨by dsimp only;omega,hm⟩⟩
    | false =>
     simp only [eB,cK];exact wpS_pure ⟨rfl,rfl,hm,by dsimp only;omega,by dsimp only;omega,by dsimp only;omega⟩
  case post =>
   rintro⟨r,lT,dU⟩ aE ⟨rfl,e0,a1,a2,a4,a5⟩;dsimp only at *;subst e0;refine SQ (lo:=hint+1 - min dU (hint+1)) (hi:=hint - lT) cV (fun i hi=>tZ i hi) mono h (by omega) (by omega) (fun i hi=>?_) (fun i hi kT=>?_)
   ·rcases a5 with z | ⟨z0,z⟩
    ·omega
    ·exact mono i (hint - dU) (by omega) (by omega) z
   ·cases NJ:cV i with
    | false=>rfl
    | true=>rw [mono _ i hi kT NJ]at a1;cases a1
end
theorem Sg(a b:Array Keyed):yY a b=(do
 rule "list.sort.merge-lo"
 let total:=a.size+b.size
 let done (out:Array Keyed) (ia ib:Nat):=out++a.extract ia a.size++b.extract ib b.size
 let EA (out:Array Keyed) (ia ib:Nat):=out++b.extract ib b.size++a.extract ia a.size
 let mut out:Array Keyed:=#[← elem' b 0]
 let mut ia:=0
 let mut ib:=1
 if ib == b.size then return done out ia ib
 if ia+1 == a.size then return EA out ia ib
 let mut minGallop:=gallopOf (← get)
 for _ in [0:total] do
  let mut mD:=0
  let mut mC:=0
  for _ in [0:total] do
   let some QH ← lt' (← elem' b ib) (← elem' a ia) | return done out ia ib
   if QH then
    out:=out.push (← elem' b ib);ib:=ib+1;mC:=mC+1;mD:=0
    if ib == b.size then return done out ia ib
    if mC≥minGallop then break
   else
    out:=out.push (← elem' a ia);ia:=ia+1;mD:=mD+1;mC:=0
    if ia+1 == a.size then return EA out ia ib
    if mD≥minGallop then break
  rule "list.sort.gallop"
  minGallop:=minGallop+1
  for _ in [0:total] do
   if minGallop>1 then minGallop:=minGallop - 1
   qW minGallop
   let some k ← kA false (← elem' b ib) a ia (a.size - ia) 0 | return done out ia ib
   mD:=k
   if k>0 then
    out:=out++a.extract ia (ia+k);ia:=ia+k
    if ia+1 == a.size then return EA out ia ib
    if ia == a.size then return done out ia ib
   out:=out.push (← elem' b ib);ib:=ib+1
   if ib == b.size then return done out ia ib
   let some k ← kA true (← elem' a ia) b ib (b.size - ib) 0 | return done out ia ib
   mC:=k
   if k>0 then
    out:=out++b.extract ib (ib+k);ib:=ib+k
    if ib == b.size then return done out ia ib
   out:=out.push (← elem' a ia);ia:=ia+1
   if ia+1 == a.size then return EA out ia ib
   if mD<7&&mC<7 then break
  minGallop:=minGallop+1
  qW minGallop
 unsupported "internal:list.sort.merge-bound"):=rfl
section
variable{α:Type}{rk:α→Int}{al bl out:List α}{ia ib:Nat}
abbrev bM(rk:α→Int)(l:List α):Prop:=l.Pairwise fun x y=>rk x≤rk y
structure MI(rk:α→Int)(al bl out:List α)(ia ib:Nat):Prop where
 la:ia≤al.length
 lb:ib≤bl.length
 perm:out.Perm (al.take ia++bl.take ib)
 qV:bM rk out
 low:∀x∈out,∀y∈al.drop ia++bl.drop ib,rk x≤rk y
theorem MI.DG(h:MI rk al bl out ia ib){y:α}(hy:bl[ib]? = some y)(sb:bM rk bl)(ha:∀x∈al.drop ia,rk y≤rk x):MI rk al bl (out++[y]) ia (ib+1):=by
 have NA:ib<bl.length:=(eA.mp hy).1;have ey:bl[ib]=y:=(eA.mp hy).2;have ed:bl.drop ib=y::bl.drop (ib+1):=by rw [kZ NA,ey]
 have et:bl.take (ib+1)=bl.take ib++[y]:=by rw [Ec,hy];rfl
 refine⟨h.la,NA,?_,?_,fun x hx z hz=>?_⟩
 ·rw [et,← eW];exact h.perm.append_right [y]
 ·refine oZ.mpr ⟨h.qV,by simp,fun x hx z hz=>?_⟩;simp only [kH]at hz;subst hz;exact h.low x hx z (by rw [ed];simp)
 ·have Uu:z∈al.drop ia++bl.drop ib:=by
   rw [ed]
   rcases eK.mp hz with q | q
   ·exact jM _ q
   ·exact iN _ (fC _ q)
  rcases eK.mp hx with q | q
  ·exact h.low x q z Uu
  ·simp only [kH]at q;subst q
   rcases eK.mp hz with q | q
   ·exact ha z q
   ·have:=(List.pairwise_iff_getElem (R:=fun x y=>rk x≤rk y)).mp sb;obtain⟨j,hj,rfl⟩:=sL q;rw [RE];rw [← ey];exact this ib (ib+1+j) NA (by simp at hj;omega) (by omega)
theorem MI.swap(h:MI rk al bl out ia ib):MI rk bl al out ib ia :=
 ⟨h.lb,h.la,h.perm.trans uY,h.qV,fun x hx y hy=>h.low x hx y (by
  rcases eK.mp hy with q | q
  ·exact iN _ q
  ·exact jM _ q)⟩
theorem MI.vU(h:MI rk al bl out ia ib){x:α}(hx:al[ia]? = some x)(sa:bM rk al)(hb:∀y∈bl.drop ib,rk x≤rk y):MI rk al bl (out++[x]) (ia+1) ib:=(h.swap.DG hx sa hb).swap
theorem MI.vS(h:MI rk al bl out ia ib)(sa:bM rk al):∀k,ia+k≤al.length→(∀j x,j<k→al[ia+j]? = some x→∀y∈bl.drop ib,rk x≤rk y)→MI rk al bl (out++(al.drop ia).take k) (ia+k) ib
 | 0,_,_=>by simpa using h
 | k+1,hk,hb=>by
  have ih:=h.vS sa k (by omega) fun j x hj=>hb j x (by omega);have hx:al[ia+k]? = some (al[ia+k]'(by omega)):=eV _;have e:(al.drop ia).take (k+1)=(al.drop ia).take k++[al[ia+k]'(by omega)]:=by
   rw [Ec,Eg,hx];rfl
  rw [e,← eW];exact ih.vU hx sa (hb k _ (by omega) hx)
theorem MI.Ms(h:MI rk al bl out ia ib)(sb:bM rk bl)(k:Nat)(hk:ib+k≤bl.length)(ha:∀j y,j<k→bl[ib+j]? = some y→∀x∈al.drop ia,rk y≤rk x):MI rk al bl (out++(bl.drop ib).take k) ia (ib+k):=(h.swap.vS sb k hk ha).swap
theorem MI.uL(h:MI rk al bl out ia ib)(sa:bM rk al)(he:ib=bl.length):(out++al.drop ia++bl.drop ib).Perm (al++bl)∧bM rk (out++al.drop ia++bl.drop ib):=by
 subst he;have e:bl.drop bl.length=[]:=xJ;rw [e,nR];have p:=h.perm;rw [List.take_length]at p;refine⟨?_,oZ.mpr ⟨h.qV,sa.sublist (List.drop_sublist _ _),fun x hx y hy=>h.low x hx y (jM _ hy)⟩⟩;have q:(al.take ia++bl++al.drop ia).Perm (al++bl):=by
  have:(al.take ia++bl++al.drop ia).Perm (al.take ia++al.drop ia++bl):=by
   rw [eW,eW];exact xK _ uY
  rwa [oY]at this
 exact(p.append_right _).trans q
theorem MI.EB(h:MI rk al bl out ia ib)(sb:bM rk bl)(he:ia+1=al.length)(hl:∀x∈al.drop ia,∀y∈bl,rk y≤rk x):(out++bl.drop ib++al.drop ia).Perm (al++bl)∧bM rk (out++bl.drop ib++al.drop ia):=by
 constructor
 ·have p:=h.perm;have q:(al.take ia++bl.take ib++(bl.drop ib++al.drop ia)).Perm (al++bl):=by
   have e1:al.take ia++bl.take ib++(bl.drop ib++al.drop ia)=al.take ia++(bl.take ib++bl.drop ib++al.drop ia):=by simp only [eW]
   rw [e1,oY];have:(al.take ia++(bl++al.drop ia)).Perm (al.take ia++(al.drop ia++bl)):=xK _ uY;rwa [← eW (al.take ia) (al.drop ia),oY]at this
  rw [eW];exact(p.append_right _).trans q
 ·refine oZ.mpr ⟨oZ.mpr ⟨h.qV,sb.sublist (List.drop_sublist _ _),fun x hx y hy=>h.low x hx y (iN _ hy)⟩,?_,fun x hx y hy=>?_⟩
  ·have e:(al.drop ia).length=1:=by simp;omega
   match hd:al.drop ia,e with
   | [z],_=>simp
  ·rcases eK.mp hx with q | q
   ·exact h.low x q y (jM _ hy)
   ·exact hl y hy x (List.mem_of_mem_drop q)
end
section
variable{M:Model}{A:Around}{E:Value→Shared→Prop}{s:Shared}
theorem fH{arr:Array Keyed}{i:Nat}{x:Keyed}{st:SortSt}{Q:Keyed→SortSt→Prop}(h:arr[i]? = some x)(q:Q x st):wpS M A E s (elem' arr i) Q st:=by
 rw [elem'_eq,h];exact bH q
theorem Mp(g:Nat):qW g=modify fun s=>SortSt.mk' (kindOf s) (arrOf s) (pendingOf s) g (failedOf s):=rfl
structure cA(st aE:SortSt):Prop where
 kind:kindOf aE=kindOf st
 arr:arrOf aE=arrOf st
 pend:pendingOf aE=pendingOf st
 failed:failedOf aE=failedOf st
theorem cA.refl(st:SortSt):cA st st:=⟨rfl,rfl,rfl,rfl⟩
theorem BR{g:Nat}{st:SortSt}{Q:Unit→SortSt→Prop}(h:∀aE,cA st aE→Q () aE):wpS M A E s (qW g) Q st:=by
 rw [Mp];exact vK (h _ ⟨rfl,rfl,rfl,rfl⟩)
theorem cA.trans{a b c:SortSt}(h:cA a b)(k:cA b c):cA a c:=⟨k.kind.trans h.kind,k.arr.trans h.arr,k.pend.trans h.pend,k.failed.trans h.failed⟩
end
theorem qC(out a b:Array Keyed)(ia ib:Nat):(out++a.extract ia a.size++b.extract ib b.size).toList=out.toList++a.toList.drop ia++b.toList.drop ib:=by
 simp [GZ,List.take_of_length_le]
theorem VJ(a:Array Keyed)(i k:Nat):(a.extract i (i+k)).toList=(a.toList.drop i).take k:=by
 simp [GZ]
abbrev GI:=Option (Array Keyed)×Array Keyed×Nat×Nat×Nat×Nat
def JX(a b:Array Keyed)(mg:Nat)(gS:Array Keyed)(iG iE:Nat):StateT SortSt Sem GI :=
 forIn [0:a.size+b.size] ((none,gS,iG,iE,0,0):GI) fun _ c=>do
  let y ← elem' b c.2.2.2.1
  let x ← elem' a c.2.2.1
  let r ← lt' y x
  match r with
  | some QH =>
   if QH=true then do
    let y ← elem' b c.2.2.2.1
    if(c.2.2.2.1+1 == b.size)=true then pure (ForInStep.done (some (c.2.1.push y++a.extract c.2.2.1 a.size++b.extract (c.2.2.2.1+1) b.size),c.2.1.push y,c.2.2.1,c.2.2.2.1+1,0,c.2.2.2.2.2+1))
    else if c.2.2.2.2.2+1≥mg then pure (ForInStep.done (none,c.2.1.push y,c.2.2.1,c.2.2.2.1+1,0,c.2.2.2.2.2+1))
    else pure (ForInStep.yield (none,c.2.1.push y,c.2.2.1,c.2.2.2.1+1,0,c.2.2.2.2.2+1))
   else do
    let x ← elem' a c.2.2.1
    if(c.2.2.1+1+1 == a.size)=true then pure (ForInStep.done (some (c.2.1.push x++b.extract c.2.2.2.1 b.size++a.extract (c.2.2.1+1) a.size),c.2.1.push x,c.2.2.1+1,c.2.2.2.1,c.2.2.2.2.1+1,0))
    else if c.2.2.2.2.1+1≥mg then pure (ForInStep.done (none,c.2.1.push x,c.2.2.1+1,c.2.2.2.1,c.2.2.2.2.1+1,0))
    else pure (ForInStep.yield (none,c.2.1.push x,c.2.2.1+1,c.2.2.2.1,c.2.2.2.2.1+1,0))
  | _=>pure (ForInStep.done (some (c.2.1++a.extract c.2.2.1 a.size++b.extract c.2.2.2.1 b.size),c.2.1,c.2.2.1,c.2.2.2.1,c.2.2.2.2.1,c.2.2.2.2.2))
structure uT(P:Keyed→Prop)(rk:Keyed→Int)(a b:Array Keyed):Prop where
 pa:∀x∈a.toList,P x
 pb:∀x∈b.toList,P x
 sa:bM rk a.toList
 sb:bM rk b.toList
 top:∀x∈a.toList.drop (a.size - 1),∀y∈b.toList,rk y≤rk x
def eH(rk:Keyed→Int)(a b m:Array Keyed):Prop:=m.toList.Perm (a.toList++b.toList)∧bM rk m.toList
section
variable{M:Model}{A:Around}{E:Value→Shared→Prop}{s:Shared}{kd:SortKind}{P:Keyed→Prop}{rk:Keyed→Int}{a b:Array Keyed}
theorem vQ{l:List Keyed}(h:bM rk l){i:Nat}{x:Keyed}(hx:l[i]? = some x):∀z∈l.drop i,rk x≤rk z:=fun z hz=>by
 have hi:i<l.length:=(eA.mp hx).1;have ex:l[i]=x:=(eA.mp hx).2;obtain⟨j,hj,rfl⟩:=sL hz;rw [RE,← ex]
 by_cases h0:j=0
 ·subst h0;exact hU _
 ·exact(List.pairwise_iff_getElem (R:=fun x y=>rk x≤rk y)).mp h i (i+j) hi (by simp at hj;omega) (by omega)
theorem Ft(hL:dR M A E s kd P rk)(T:uT P rk a b){st:SortSt}(hk:kindOf st=kd){mg:Nat}{gS:Array Keyed}{iG iE:Nat}(h0:MI rk a.toList b.toList gS.toList iG iE)(h1:iG+1<a.size)(h2:iE<b.size){Q:GI→SortSt→Prop}
  (hr:∀m o i j x y,eH rk a b m→Q (some m,o,i,j,x,y) st)
  (hn:∀out ia ib x y,MI rk a.toList b.toList out.toList ia ib→ia+1<a.size→ib<b.size→iG+iE≤ia+ib→Q (none,out,ia,ib,x,y) st):wpS M A E s (JX a b mg gS iG iE) Q st:=by
 unfold JX;refine jQ (I:=fun _ (c:GI) aE=>aE=st∧c.1=none∧MI rk a.toList b.toList c.2.1.toList c.2.2.1 c.2.2.2.1∧c.2.2.1+1<a.size∧c.2.2.2.1<b.size∧iG+iE≤c.2.2.1+c.2.2.2.1) ?step ?fin ⟨rfl,rfl,h0,h1,h2,iM _⟩
 case fin =>
  rintro⟨r,out,ia,ib,x,y⟩ aE ⟨rfl,e0,a1,a2,a3,a4⟩;dsimp only at *;subst e0;exact hn out ia ib x y a1 a2 a3 a4
 case step =>
  rintro i ⟨r,out,ia,ib,ac,bc⟩ aE _ kT ⟨rfl,e0,a1,a2,a3,a4⟩;dsimp only at *;subst e0;have hy:b[ib]? = some b[ib]:=lW b ib a3;have hx:a[ia]? = some (a[ia]'(by omega)):=lW a ia (by omega);generalize b[ib]=y at hy;generalize a[ia]'(by omega)=x at hx;have zK:b.toList[ib]? = some y:=by rw [jA];exact hy
  have zL:a.toList[ia]? = some x:=by rw [jA];exact hx
  refine aQ (fH hy (aQ (fH hx (aQ (hL y x (T.pb y (kI zK)) (T.pa x (kI zL)) aE _ hk ?_)))));dsimp only
  by_cases aZ:rk y<rk x
  ·rw [qD aZ,if_pos rfl];refine aQ (fH hy ?_);have m1:=a1.DG zK T.sb fun z hz=>by have:=vQ T.sa zL z hz;omega
   rw [← BQ]at m1
   by_cases he:ib+1=b.size
   ·rw [if_pos (by simpa using he)];refine bH (hr _ _ _ _ _ _ ?_);have g:=m1.uL T.sa (by simpa using he);unfold eH;rw [qC];exact g
   ·rw [if_neg (by simpa using he)]
    by_cases hg:bc+1≥mg
    ·rw [if_pos hg];exact bH (hn _ _ _ _ _ m1 a2 (by omega) (by omega))
    ·rw [if_neg hg];exact wpS_pure ⟨rfl,rfl,m1,a2,by dsimp only;omega,by dsimp only;omega⟩
  ·rw [lX aZ,if_neg (by simp)];refine aQ (fH hx ?_);have m1:=a1.vU zL T.sa fun z hz=>by have:=vQ T.sb zK z hz;omega
   rw [← BQ]at m1
   by_cases he:ia+1+1=a.size
   ·rw [if_pos (by simpa using he)];refine bH (hr _ _ _ _ _ _ ?_);have g:=m1.EB T.sb (by simpa using he) (by rw [show ia+1=a.size - 1 by omega];exact T.top);unfold eH;rw [qC];exact g
   ·rw [if_neg (by simpa using he)]
    by_cases hg:ac+1≥mg
    ·rw [if_pos hg];exact bH (hn _ _ _ _ _ m1 (by omega) a3 (by omega))
    ·rw [if_neg hg];exact wpS_pure ⟨rfl,rfl,m1,by dsimp only;omega,a3,by dsimp only;omega⟩
end
abbrev oX:=Option (Array Keyed)×Array Keyed×Nat×Nat×Nat×Nat×Nat
def DW(a b:Array Keyed)(out:Array Keyed)(ia ib mg ac bc:Nat):StateT SortSt Sem (ForInStep oX):=do
 let x ← elem' a ia
 if(ia+1+1 == a.size)=true then pure (ForInStep.done (some (out.push x++b.extract ib b.size++a.extract (ia+1) a.size),out.push x,ia+1,ib,mg,ac,bc))
 else if(decide (ac<7)&&decide (bc<7))=true then pure (ForInStep.done (none,out.push x,ia+1,ib,mg,ac,bc))
 else pure (ForInStep.yield (none,out.push x,ia+1,ib,mg,ac,bc))
def JY(a b:Array Keyed)(out:Array Keyed)(ia ib mg ac bc:Nat):StateT SortSt Sem (ForInStep oX):=do
 let x ← elem' a ia
 let r ← kA true x b ib (b.size - ib) 0
 match r with
 | some k =>
  if k>0 then
   if(ib+k == b.size)=true then pure (ForInStep.done (some (out++b.extract ib (ib+k)++a.extract ia a.size++b.extract (ib+k) b.size),out++b.extract ib (ib+k),ia,ib+k,mg,ac,k))
   else DW a b (out++b.extract ib (ib+k)) ia (ib+k) mg ac k
  else DW a b out ia ib mg ac k
 | _=>pure (ForInStep.done (some (out++a.extract ia a.size++b.extract ib b.size),out,ia,ib,mg,ac,bc))
def DX(a b:Array Keyed)(out:Array Keyed)(ia ib mg ac bc:Nat):StateT SortSt Sem (ForInStep oX):=do
 let y ← elem' b ib
 if(ib+1 == b.size)=true then pure (ForInStep.done (some (out.push y++a.extract ia a.size++b.extract (ib+1) b.size),out.push y,ia,ib+1,mg,ac,bc))
 else JY a b (out.push y) ia (ib+1) mg ac bc
def cN(a b:Array Keyed)(out:Array Keyed)(ia ib mg ac bc:Nat):StateT SortSt Sem (ForInStep oX):=do
 qW mg
 let y ← elem' b ib
 let r ← kA false y a ia (a.size - ia) 0
 match r with
 | some k =>
  if k>0 then
   if(ia+k+1 == a.size)=true then pure (ForInStep.done (some (out++a.extract ia (ia+k)++b.extract ib b.size++a.extract (ia+k) a.size),out++a.extract ia (ia+k),ia+k,ib,mg,k,bc))
   else if(ia+k == a.size)=true then pure (ForInStep.done (some (out++a.extract ia (ia+k)++a.extract (ia+k) a.size++b.extract ib b.size),out++a.extract ia (ia+k),ia+k,ib,mg,k,bc))
   else DX a b (out++a.extract ia (ia+k)) (ia+k) ib mg k bc
  else DX a b out ia ib mg k bc
 | _=>pure (ForInStep.done (some (out++a.extract ia a.size++b.extract ib b.size),out,ia,ib,mg,ac,bc))
section
variable{M:Model}{A:Around}{E:Value→Shared→Prop}{s:Shared}{kd:SortKind}{P:Keyed→Prop}{rk:Keyed→Int}{a b:Array Keyed}
def sI(rk:Keyed→Int)(a b:Array Keyed)(lo:Nat)(st:SortSt)(r:ForInStep oX)(aE:SortSt):Prop:=cA st aE∧(match r with
 | .done c=>(∃m,c.1=some m∧eH rk a b m)∨(c.1=none∧MI rk a.toList b.toList c.2.1.toList c.2.2.1 c.2.2.2.1∧c.2.2.1+1<a.size∧c.2.2.2.1<b.size∧lo≤c.2.2.1+c.2.2.2.1)
 | .yield c=>c.1=none∧MI rk a.toList b.toList c.2.1.toList c.2.2.1 c.2.2.2.1∧c.2.2.1+1<a.size∧c.2.2.2.1<b.size∧lo≤c.2.2.1+c.2.2.2.1)
theorem iK{a:Array Keyed}{i:Nat}(h:i<a.size):∃x,a[i]? = some x∧a.toList[i]? = some x∧x∈a.toList:=by
 refine⟨a[i],lW a i h,?_,?_⟩
 ·rw [jA];exact lW a i h
 ·exact Array.getElem_mem_toList h
theorem SI(T:uT P rk a b){st:SortSt}{out:Array Keyed}{ia ib mg ac bc lo:Nat}(h:MI rk a.toList b.toList out.toList ia ib)(h1:ia+1<a.size)(h2:ib<b.size)(hx:∀x,a.toList[ia]? = some x→∀z∈b.toList.drop ib,rk x≤rk z)(eP:lo≤ia+ib+1) :
  wpS M A E s (DW a b out ia ib mg ac bc) (sI rk a b lo st) st:=by
 obtain⟨x,x1,x2,_⟩:=iK (show ia<a.size by omega);unfold DW;refine aQ (fH x1 ?_);have m1:=h.vU x2 T.sa (hx x x2);rw [← BQ]at m1
 by_cases he:ia+1+1=a.size
 ·rw [if_pos (by simpa using he)];refine bH ⟨cA.refl _,.inl ⟨_,rfl,?_⟩⟩;have g:=m1.EB T.sb (by simpa using he) (by rw [show ia+1=a.size - 1 by omega];exact T.top);unfold eH;rw [qC];exact g
 ·rw [if_neg (by simpa using he)];split
  ·exact wpS_pure ⟨cA.refl _,.inr ⟨rfl,m1,by dsimp only;omega,h2,by dsimp only;omega⟩⟩
  ·exact wpS_pure ⟨cA.refl _,rfl,m1,by dsimp only;omega,h2,by dsimp only;omega⟩
theorem vP{l:List Keyed}(h:bM rk l){i j:Nat}{x y:Keyed}(dE:i≤j)(hx:l[i]? = some x)(hy:l[j]? = some y):rk x≤rk y :=
 vQ h hx y (kI (i:=j - i) (by rw [Eg,show i+(j - i)=j by omega];exact hy))
theorem Bc{l:List Keyed}{i:Nat}{z:Keyed}(h:z∈l.drop i):∃j,i≤j∧l[j]? = some z:=by
 obtain⟨j,hj⟩:=List.getElem?_of_mem h;rw [Eg]at hj;exact⟨i+j,by omega,hj⟩
theorem SR(hL:dR M A E s kd P rk){st:SortSt}(hk:kindOf st=kd){left:Bool}{key:Keyed}{arr:Array Keyed}(mU:P key)(hp:∀x∈arr.toList,P x)(hs:bM rk arr.toList){base:Nat}(hb:base<arr.size){Q:Option Nat→SortSt→Prop}
  (h:∀k,base+k≤arr.size→(∀j x,j<k→arr.toList[base+j]? = some x→(if left then rk x<rk key else rk x≤rk key))→(∀j x,base+k≤j→arr.toList[j]? = some x→(if left then rk key≤rk x else rk key<rk x))→Q (some k) st) :
  wpS M A E s (kA left key arr base (arr.size - base) 0) Q st:=by
 have NG:∀i,i<arr.size - base→∃x,arr[base+i]? = some x∧arr.toList[base+i]? = some x∧x∈arr.toList:=fun i hi=>iK (by omega);refine SN hL hk mU (fun i hi=>let ⟨x,x1,_,x3⟩:=NG i hi; ⟨x,x1,hp x x3⟩) (by omega) (fun i=>match arr[base+i]? with | some x=>if left then decide (rk x<rk key)else !decide (rk key<rk x) | none=>false) (fun i x hi hx=>by simp only [hx]) (fun i j dE hj hb=>?_) (fun k dW aZ cU=>h k (by omega) (fun j x hj hx=>?_) (fun j x hj hx=>?_))
 ·obtain⟨x,x1,x2,_⟩:=NG i (by omega);obtain⟨y,y1,y2,_⟩:=NG j hj;simp only [x1,y1]at hb ⊢;have:=vP hs (show base+i≤base+j by omega) x2 y2;cases left with
  | true=>simp only [cR,wO]at hb ⊢;omega
  | false=>simp only [eB,cK,xR,wQ]at hb ⊢;omega
 ·have q:=aZ j hj;rw [jA]at hx;simp only [hx]at q;cases left with
  | true=>simpa using q
  | false=>simp only [eB,cK,xR,wQ]at q ⊢;omega
 ·have hjs:j<arr.size:=by have:=(eA.mp hx).1;simpa using this
  have q:=cU (j - base) (by omega) (by omega);rw [jA]at hx;rw [show base+(j - base)=j by omega]at q;simp only [hx]at q;cases left with
  | true=>simp only [cR,wQ]at q ⊢;omega
  | false=>simp only [eB,cK,Bool.not_eq_false',wO]at q ⊢;exact q
theorem Fu(hL:dR M A E s kd P rk)(T:uT P rk a b){st:SortSt}(hk:kindOf st=kd){out:Array Keyed}{ia ib mg ac bc lo:Nat}(h:MI rk a.toList b.toList out.toList ia ib)(h1:ia+1<a.size)(h2:ib<b.size)(eP:lo≤ia+ib+1) :
  wpS M A E s (JY a b out ia ib mg ac bc) (sI rk a b lo st) st:=by
 obtain⟨x,x1,x2,x3⟩:=iK (show ia<a.size by omega);unfold JY;refine aQ (fH x1 (aQ (SR hL hk (T.pa x x3) T.pb T.sb h2 fun k dW aZ cU=>?_)));dsimp only;simp only [cR]at aZ cU;have m1:=h.Ms T.sb k (by simpa using dW) fun j y hj hy z hz=>by
  have:=aZ j y hj hy;have:=vQ T.sa x2 z hz;omega
 rw [← VJ,← Fe]at m1;have last:∀y,a.toList[ia]? = some y→∀z∈b.toList.drop (ib+k),rk y≤rk z:=fun y hy z hz=>by
  rw [x2]at hy;cases hy;obtain⟨j,hj,ej⟩:=Bc hz;exact cU j z hj ej
 by_cases oN:k>0
 ·rw [if_pos oN]
  by_cases he:ib+k=b.size
  ·rw [if_pos (by simpa using he)];refine bH ⟨cA.refl _,.inl ⟨_,rfl,?_⟩⟩;have g:=m1.uL T.sa (by simpa using he);unfold eH;rw [qC];exact g
  ·rw [if_neg (by simpa using he)];exact SI T m1 h1 (by omega) last (by omega)
 ·rw [if_neg oN];have k0:k=0:=by omega
  subst k0;exact SI T h h1 h2 last eP
theorem SJ(hL:dR M A E s kd P rk)(T:uT P rk a b){st:SortSt}(hk:kindOf st=kd){out:Array Keyed}{ia ib mg ac bc lo:Nat}(h:MI rk a.toList b.toList out.toList ia ib)(h1:ia+1<a.size)(h2:ib<b.size)(hy:∀y,b.toList[ib]? = some y→∀z∈a.toList.drop ia,rk y≤rk z)(eP:lo≤ia+ib+2) :
  wpS M A E s (DX a b out ia ib mg ac bc) (sI rk a b lo st) st:=by
 obtain⟨y,y1,y2,_⟩:=iK h2;unfold DX;refine aQ (fH y1 ?_);have m1:=h.DG y2 T.sb (hy y y2);rw [← BQ]at m1
 by_cases he:ib+1=b.size
 ·rw [if_pos (by simpa using he)];refine bH ⟨cA.refl _,.inl ⟨_,rfl,?_⟩⟩;have g:=m1.uL T.sa (by simpa using he);unfold eH;rw [qC];exact g
 ·rw [if_neg (by simpa using he)];exact Fu hL T hk m1 h1 (by omega) (by omega)
end
def JW(a b:Array Keyed)(gS:Array Keyed)(iG iE tL uS uO:Nat):StateT SortSt Sem oX :=
 forIn [0:a.size+b.size] ((none,gS,iG,iE,tL,uS,uO):oX) fun _ c =>
  if c.2.2.2.2.1>1 then cN a b c.2.1 c.2.2.1 c.2.2.2.1 (c.2.2.2.2.1 - 1) c.2.2.2.2.2.1 c.2.2.2.2.2.2 else cN a b c.2.1 c.2.2.1 c.2.2.2.1 c.2.2.2.2.1 c.2.2.2.2.2.1 c.2.2.2.2.2.2
section
variable{M:Model}{A:Around}{E:Value→Shared→Prop}{s:Shared}{kd:SortKind}{P:Keyed→Prop}{rk:Keyed→Int}{a b:Array Keyed}
theorem sI.trans{lo:Nat}{st gF eM:SortSt}{r:ForInStep oX}(g:cA st gF)(h:sI rk a b lo gF r eM):sI rk a b lo st r eM:=⟨g.trans h.1,h.2⟩
theorem Fv(hL:dR M A E s kd P rk)(T:uT P rk a b){st:SortSt}(hk:kindOf st=kd){out:Array Keyed}{ia ib mg ac bc lo:Nat}(h:MI rk a.toList b.toList out.toList ia ib)(h1:ia+1<a.size)(h2:ib<b.size)(eP:lo≤ia+ib+2) :
  wpS M A E s (cN a b out ia ib mg ac bc) (sI rk a b lo st) st:=by
 obtain⟨y,y1,y2,y3⟩:=iK h2;unfold cN;refine aQ (BR fun gF g1=>?_);have dW:kindOf gF=kd:=g1.kind.trans hk;refine aQ (fH y1 (aQ (SR hL dW (T.pb y y3) T.pa T.sa (by omega) fun k MX aZ cU=>?_)));dsimp only;simp only [eB,cK]at aZ cU;have m1:=h.vS T.sa k (by simpa using MX) fun j x hj hx z hz=>by
  have:=aZ j x hj hx;have:=vQ T.sb y2 z hz;omega
 rw [← VJ,← Fe]at m1;have yT:∀z,b.toList[ib]? = some z→∀x∈a.toList.drop (ia+k),rk z≤rk x:=fun z hz x hx=>by
  rw [y2]at hz;cases hz;obtain⟨j,hj,ej⟩:=Bc hx;have:=cU j x hj ej;omega
 by_cases oN:k>0
 ·rw [if_pos oN]
  by_cases he:ia+k+1=a.size
  ·rw [if_pos (by simpa using he)];refine bH ⟨g1,.inl ⟨_,rfl,?_⟩⟩;have g:=m1.EB T.sb (by simpa using he) (by rw [show ia+k=a.size - 1 by omega];exact T.top);unfold eH;rw [qC];exact g
  ·rw [if_neg (by simpa using he)]
   by_cases gJ:ia+k=a.size
   ·rw [if_pos (by simpa using gJ)];refine bH ⟨g1,.inl ⟨_,rfl,?_⟩⟩;have g:=m1.swap.uL T.sb (by simpa using gJ);have e0:a.toList.drop (ia+k)=[]:=List.drop_of_length_le (by simp;omega);unfold eH;rw [qC];rw [e0,nR]at g ⊢;exact⟨g.1.trans uY,g.2⟩
   ·rw [if_neg (by simpa using gJ)];exact iQ (SJ hL T dW m1 (by omega) h2 yT (by omega)) fun r eM q=>q.trans g1
 ·rw [if_neg oN];have k0:k=0:=by omega
  subst k0;exact iQ (SJ hL T dW h h1 h2 yT eP) fun r eM q=>q.trans g1
theorem Fs(hL:dR M A E s kd P rk)(T:uT P rk a b){st:SortSt}(hk:kindOf st=kd){gS:Array Keyed}{iG iE tL uS uO:Nat}(h0:MI rk a.toList b.toList gS.toList iG iE)(h1:iG+1<a.size)(h2:iE<b.size){Q:oX→SortSt→Prop}
  (hr:∀m c aE,cA st aE→eH rk a b m→Q (some m,c) aE)
  (hn:∀out ia ib c aE,cA st aE→MI rk a.toList b.toList out.toList ia ib→ia+1<a.size→ib<b.size→iG+iE+2≤ia+ib→Q (none,out,ia,ib,c) aE):wpS M A E s (JW a b gS iG iE tL uS uO) Q st:=by
 unfold JW;refine jQ (I:=fun i (c:oX) aE=>cA st aE∧c.1=none∧MI rk a.toList b.toList c.2.1.toList c.2.2.1 c.2.2.2.1∧c.2.2.1+1<a.size∧c.2.2.2.1<b.size∧(i=0→c.2.2.1=iG∧c.2.2.2.1=iE)∧(0<i→iG+iE+2≤c.2.2.1+c.2.2.2.1)) ?step ?fin ⟨cA.refl _,rfl,h0,h1,h2,fun _=>⟨rfl,rfl⟩,fun h=>absurd h (by decide)⟩
 case fin =>
  rintro⟨r,out,ia,ib,c⟩ aE ⟨g,e0,a1,a2,a3,a4,a5⟩;dsimp only at *;subst e0;exact hn out ia ib c aE g a1 a2 a3 (a5 (by omega))
 case step =>
  rintro i ⟨r,out,ia,ib,mg,ac,bc⟩ aE _ kT ⟨g,e0,a1,a2,a3,a4,a5⟩;dsimp only at *;subst e0;have eP:iG+iE≤ia+ib:=by
   by_cases hi:i=0
   ·have:=a4 hi;omega
   ·have:=a5 (by omega);omega
  have OI:∀mg,wpS M A E s (cN a b out ia ib mg ac bc) (sI rk a b (iG+iE+2) aE) aE:=fun mg=>Fv hL T (g.kind.trans hk) a1 a2 a3 (by omega);split
  all_goals
   refine iQ (OI _) fun r eN q=>?_;obtain⟨g2,q⟩:=q
   match r,q with
   | .done (some m,c),.inl ⟨m',e,gm⟩=>dsimp only at e;cases e;exact hr _ _ _ (g.trans g2) gm
   | .done (none,JL,Uq,Um,c),.inr ⟨_,m,x1,x2,x3⟩=>exact hn JL Uq Um c eN (g.trans g2) m x1 x2 x3
   | .yield c,q=>exact⟨g.trans g2,q.1,q.2.1,q.2.2.1,q.2.2.2.1,fun h=>by omega,fun _=>q.2.2.2.2⟩
theorem cZ{σ α:Type}{c:Prop} [Decidable c]{t e:StateT σ Sem α}{Q:α→σ→Prop}{st:σ}(h1:c→wpS M A E s t Q st)(h2:¬c→wpS M A E s e Q st):wpS M A E s (if c then t else e) Q st:=by
 split
 ·exact h1 ‹_›
 ·exact h2 ‹_›
theorem Fn(hL:dR M A E s kd P rk)(T:uT P rk a b)(ha:0<a.size)(hb:0<b.size)(Wu:∀y,b.toList[0]? = some y→∀x∈a.toList,rk y≤rk x){st:SortSt}(hk:kindOf st=kd):wpS M A E s (yY a b) (fun m aE=>cA st aE∧eH rk a b m) st:=by
 rw [Sg];refine aQ (wpS_lift (xT ⟨rfl,?_⟩));obtain⟨y,y1,y2,y3⟩:=iK hb;refine aQ (fH y1 ?_);have m1:MI rk a.toList b.toList (#[y]:Array Keyed).toList 0 1:=by
  have m0:MI rk a.toList b.toList [] 0 0:=⟨by simp,by simp,by simp,by simp,by simp⟩;exact m0.DG y2 T.sb (by simpa using Wu y y2)
 refine cZ (fun he=>?_) (fun he=>?_)
 ·have he:1=b.size:=by simpa using he
  refine bH ⟨cA.refl _,?_⟩;have g:=m1.uL T.sa (by simpa using he);unfold eH;rw [qC];exact g
 have he:¬1=b.size:=by simpa using he
 refine cZ (fun hf=>?_) (fun hf=>?_)
 ·have hf:0+1=a.size:=by simpa using hf
  refine bH ⟨cA.refl _,?_⟩;have g:=m1.EB T.sb (by simpa using hf) (by rw [show 0=a.size - 1 by omega];exact T.top);unfold eH;rw [qC];exact g
 have hf:¬0+1=a.size:=by simpa using hf
 refine aQ (pD ?_);refine aQ (iQ (jQ
  (I:=fun i (c:Option (Array Keyed)×Array Keyed×Nat×Nat×Nat) aE=>cA st aE∧c.1=none∧MI rk a.toList b.toList c.2.1.toList c.2.2.1 c.2.2.2.1∧c.2.2.1+1<a.size∧c.2.2.2.1<b.size∧i≤c.2.2.1+c.2.2.2.1)
  (Q:=fun(c:Option (Array Keyed)×Array Keyed×Nat×Nat×Nat) aE=>cA st aE∧∃m,c.1=some m∧eH rk a b m) ?step ?fin ⟨cA.refl _,rfl,m1,by dsimp only;omega,by dsimp only;omega,by dsimp only;omega⟩) ?post)
 case fin =>
  rintro⟨r,out,ia,ib,c⟩ aE ⟨g,e0,a1,a2,a3,a4⟩;dsimp only at *;omega
 case post =>
  rintro⟨r,out,ia,ib,c⟩ aE ⟨g,m,e,gm⟩;dsimp only at e;subst e;exact bH ⟨g,gm⟩
 case step =>
  rintro i ⟨r,out,ia,ib,mg⟩ aE _ kT ⟨g,e0,a1,a2,a3,a4⟩;dsimp only at e0 a1 a2 a3 a4;subst e0;refine aQ (show wpS M A E s (JX a b mg out ia ib) _ _ from Ft hL T (g.kind.trans hk) a1 a2 a3 (fun m o i j x y gm=>?_) (fun out Uo Ul x y n1 n2 n3 n4=>?_))
  ·exact bH ⟨g,m,rfl,gm⟩
  ·refine aQ (wpS_lift (xT ⟨rfl,?_⟩));refine aQ (show wpS M A E s (JW a b out Uo Ul (mg+1) x y) _ _ from Fs hL T (g.kind.trans hk) n1 n2 n3 (fun m c gF g1 gm=>?_) (fun out ia2 ib2 c gF g1 o1 o2 o3 o4=>?_))
   ·exact bH ⟨g.trans g1,m,rfl,gm⟩
   ·refine aQ (BR fun eM g2=>?_);exact wpS_pure ⟨(g.trans g1).trans g2,rfl,o1,o2,o3,by dsimp only;omega⟩
end
section
variable{α:Type}{rk:α→Int}{al bl out:List α}{na nb:Nat}
structure MH(rk:α→Int)(al bl out:List α)(na nb:Nat):Prop where
 la:na≤al.length
 lb:nb≤bl.length
 perm:out.Perm (al.drop na++bl.drop nb)
 qV:out.Pairwise fun x y=>rk y≤rk x
 high:∀x∈out,∀y∈al.take na++bl.take nb,rk y≤rk x
theorem UG{l:List α}{n:Nat}{x:α}(hx:l[n]? = some x):l.take (n+1)=l.take n++[x]:=by rw [Ec,hx];rfl
theorem FG{l:List α}{n:Nat}{x:α}(hx:l[n]? = some x):l.drop n=x::l.drop (n+1):=by
 have h:=(eA.mp hx);rw [kZ h.1,h.2]
theorem Lu{l:List α}(h:bM rk l){n:Nat}{x:α}(hx:l[n]? = some x):∀y∈l.take n,rk y≤rk x:=fun y hy=>by
 have e:l=l.take n++x::l.drop (n+1):=by rw [← FG hx,oY]
 rw [e]at h;exact(oZ.mp h).2.2 y hy x (by simp)
theorem MH.swap(h:MH rk al bl out na nb):MH rk bl al out nb na :=
 ⟨h.lb,h.la,h.perm.trans uY,h.qV,fun x hx y hy=>h.high x hx y (by
  rcases eK.mp hy with q | q
  ·exact iN _ q
  ·exact jM _ q)⟩
theorem MH.vU(h:MH rk al bl out (na+1) nb){x:α}(hx:al[na]? = some x)(sa:bM rk al)(hb:∀y∈bl.take nb,rk y≤rk x):MH rk al bl (out++[x]) na nb:=by
 have et:=UG hx;have ed:=FG hx;have hi:=h.high;rw [et]at hi;refine⟨by have:=h.la;omega,h.lb,?_,?_,fun y hy z hz=>?_⟩
 ·rw [ed];exact uY.trans (xK [x] h.perm)
 ·refine oZ.mpr ⟨h.qV,by simp,fun y hy z hz=>?_⟩;simp only [kH]at hz;subst hz;exact hi y hy z (by simp)
 ·rcases eK.mp hy with q | q
  ·refine hi y q z ?_
   rcases eK.mp hz with r | r
   ·exact jM _ (jM _ r)
   ·exact iN _ r
  ·simp only [kH]at q;subst q
   rcases eK.mp hz with r | r
   ·exact Lu sa hx z r
   ·exact hb z r
theorem MH.vS(sa:bM rk al):∀k na,MH rk al bl out (na+k) nb→(∀j x,na≤j→j<na+k→al[j]? = some x→∀y∈bl.take nb,rk y≤rk x)→MH rk al bl (out++((al.drop na).take k).reverse) na nb
 | 0,na,h,_=>by simpa using h
 | k+1,na,h,hb=>by
  have hx:al[na]? = some (al[na]'(by have:=h.la;omega)):=eV _;have ih:=MH.vS sa k (na+1) (by rw [show na+1+k=na+(k+1)by omega];exact h) fun j x h1 h2=>hb j x (by omega) (by omega);have e:((al.drop na).take (k+1)).reverse=((al.drop (na+1)).take k).reverse++[al[na]'(by have:=h.la;omega)]:=by
   rw [FG hx,List.take_succ_cons,List.reverse_cons]
  rw [e,← eW];exact ih.vU hx sa (hb na _ (by omega) (by omega) hx)
theorem MH.all(h:MH rk al bl out na nb):(al.take na++bl.take nb++out.reverse).Perm (al++bl):=by
 have p:(al.take na++bl.take nb++out.reverse).Perm (al.take na++bl.take nb++(al.drop na++bl.drop nb)):=xK _ ((List.reverse_perm _).trans h.perm);refine p.trans ?_;have e:al.take na++bl.take nb++(al.drop na++bl.drop nb)=al.take na++(bl.take nb++al.drop na++bl.drop nb):=by simp only [eW]
 have e2:al++bl=al.take na++(al.drop na++bl.take nb++bl.drop nb):=by
  rw [eW (al.drop na),oY,← eW,oY]
 rw [e,e2];exact xK _ (uY.append_right _)
theorem MH.rev(h:MH rk al bl out na nb):bM rk out.reverse:=List.pairwise_reverse.mpr h.qV
theorem MH.Bb(h:MH rk al bl out na nb)(sb:bM rk bl)(he:na=0):(al.take na++bl.take nb++out.reverse).Perm (al++bl)∧bM rk (al.take na++bl.take nb++out.reverse):=by
 refine⟨h.all,?_⟩;have hi:=h.high;have r:=h.rev;subst he;rw [QX,xH]at hi ⊢;exact oZ.mpr ⟨sb.sublist (QY _ _),r,fun x hx y hy=>hi y (List.mem_reverse.mp hy) x hx⟩
theorem MH.uL(h:MH rk al bl out na nb)(sa:bM rk al)(he:nb=0):(al.take na++bl.take nb++out.reverse).Perm (al++bl)∧bM rk (al.take na++bl.take nb++out.reverse):=by
 have q:=h.swap.Bb sa he;subst he;refine⟨h.all,?_⟩;rw [QX,xH]at q;rw [QX,nR];exact q.2
theorem MH.Zb(h:MH rk al bl out na nb)(sa:bM rk al)(sb:bM rk bl)(hl:∀y∈bl.take nb,∀x∈al,rk y≤rk x):(bl.take nb++al.take na++out.reverse).Perm (al++bl)∧bM rk (bl.take nb++al.take na++out.reverse):=by
 refine⟨h.swap.all.trans uY,oZ.mpr ⟨oZ.mpr ⟨sb.sublist (QY _ _),sa.sublist (QY _ _),fun x hx y hy=>hl x hx y (List.mem_of_mem_take hy)⟩,h.rev,fun x hx y hy=>?_⟩⟩;refine h.high y (List.mem_reverse.mp hy) x ?_
 rcases eK.mp hx with r | r
 ·exact iN _ r
 ·exact jM _ r
end
theorem OZ(out a b:Array Keyed)(na nb:Nat):(a.extract 0 na++b.extract 0 nb++out.reverse).toList=a.toList.take na++b.toList.take nb++out.toList.reverse:=by
 simp [GZ]
theorem Mq(a:Array Keyed)(i k:Nat):((a.extract i (i+k)).reverse).toList=((a.toList.drop i).take k).reverse:=by
 simp [GZ]
section
variable{M:Model}{A:Around}{E:Value→Shared→Prop}{s:Shared}{kd:SortKind}{P:Keyed→Prop}{rk:Keyed→Int}{a b:Array Keyed}
theorem HA(hL:dR M A E s kd P rk){st:SortSt}(hk:kindOf st=kd){left:Bool}{key:Keyed}{arr:Array Keyed}{base n hint:Nat}(mU:P key)(hp:∀i,i<n→∃x,arr[base+i]? = some x∧P x)(hs:∀i j x y,i≤j→j<n→arr[base+i]? = some x→arr[base+j]? = some y→rk x≤rk y)(hb:hint<n){Q:Option Nat→SortSt→Prop}
  (h:∀k,k≤n→(∀j x,j<k→arr[base+j]? = some x→(if left then rk x<rk key else rk x≤rk key))→(∀j x,k≤j→j<n→arr[base+j]? = some x→(if left then rk key≤rk x else rk key<rk x))→Q (some k) st) :
  wpS M A E s (kA left key arr base n hint) Q st:=by
 refine SN hL hk mU hp hb (fun i=>match arr[base+i]? with | some x=>if left then decide (rk x<rk key)else !decide (rk key<rk x) | none=>false) (fun i x hi hx=>by simp only [hx]) (fun i j dE hj hb=>?_) (fun k dW aZ cU=>h k (by omega) (fun j x hj hx=>?_) (fun j x hj oO hx=>?_))
 ·obtain⟨x,x1,_⟩:=hp i (by omega);obtain⟨y,y1,_⟩:=hp j hj;simp only [x1,y1]at hb ⊢;have:=hs i j x y dE hj x1 y1;cases left with
  | true=>simp only [cR,wO]at hb ⊢;omega
  | false=>simp only [eB,cK,xR,wQ]at hb ⊢;omega
 ·have q:=aZ j hj;simp only [hx]at q;cases left with
  | true=>simpa using q
  | false=>simp only [eB,cK,xR,wQ]at q ⊢;omega
 ·have q:=cU j hj oO;simp only [hx]at q;cases left with
  | true=>simp only [cR,wQ]at q ⊢;omega
  | false=>simp only [eB,cK,Bool.not_eq_false',wO]at q ⊢;exact q
end
theorem Sh(a b:Array Keyed):yZ a b=(do
 rule "list.sort.merge-hi"
 let total:=a.size+b.size
 let done (out:Array Keyed) (na nb:Nat):=a.extract 0 na++b.extract 0 nb++out.reverse
 let EZ (out:Array Keyed) (na nb:Nat):=b.extract 0 nb++a.extract 0 na++out.reverse
 let mut na:=a.size - 1
 let mut nb:=b.size
 let mut out:Array Keyed:=#[← elem' a na]
 if na == 0 then return done out na nb
 if nb == 1 then return EZ out na nb
 let mut minGallop:=gallopOf (← get)
 for _ in [0:total] do
  let mut mD:=0
  let mut mC:=0
  for _ in [0:total] do
   let some QK ← lt' (← elem' b (nb - 1)) (← elem' a (na - 1)) | return done out na nb
   if QK then
    na:=na - 1;out:=out.push (← elem' a na);mD:=mD+1;mC:=0
    if na == 0 then return done out na nb
    if mD≥minGallop then break
   else
    nb:=nb - 1;out:=out.push (← elem' b nb);mC:=mC+1;mD:=0
    if nb == 1 then return EZ out na nb
    if mC≥minGallop then break
  rule "list.sort.gallop"
  minGallop:=minGallop+1
  for _ in [0:total] do
   if minGallop>1 then minGallop:=minGallop - 1
   qW minGallop
   let some at_ ← kA false (← elem' b (nb - 1)) a 0 na (na - 1) | return done out na nb
   let k:=na - at_
   mD:=k
   if k>0 then
    out:=out++(a.extract at_ na).reverse;na:=at_
    if na == 0 then return done out na nb
   nb:=nb - 1;out:=out.push (← elem' b nb)
   if nb == 1 then return EZ out na nb
   let some at_ ← kA true (← elem' a (na - 1)) b 0 nb (nb - 1) | return done out na nb
   let k:=nb - at_
   mC:=k
   if k>0 then
    out:=out++(b.extract at_ nb).reverse;nb:=at_
    if nb == 1 then return EZ out na nb
    if nb == 0 then return done out na nb
   na:=na - 1;out:=out.push (← elem' a na)
   if na == 0 then return done out na nb
   if mD<7&&mC<7 then break
  minGallop:=minGallop+1
  qW minGallop
 unsupported "internal:list.sort.merge-bound"):=rfl
abbrev GL:=Option (Array Keyed)×Nat×Nat×Array Keyed×Nat×Nat
abbrev qM:=Option (Array Keyed)×Nat×Nat×Array Keyed×Nat×Nat×Nat
def NC(a b:Array Keyed)(mg:Nat)(iC iB:Nat)(gS:Array Keyed):StateT SortSt Sem GL :=
 forIn [0:a.size+b.size] ((none,iC,iB,gS,0,0):GL) fun _ c=>do
  let y ← elem' b (c.2.2.1 - 1)
  let x ← elem' a (c.2.1 - 1)
  let r ← lt' y x
  match r with
  | some QK =>
   if QK=true then do
    let x ← elem' a (c.2.1 - 1)
    if(c.2.1 - 1 == 0)=true then pure (ForInStep.done (some (a.extract 0 (c.2.1 - 1)++b.extract 0 c.2.2.1++(c.2.2.2.1.push x).reverse),c.2.1 - 1,c.2.2.1,c.2.2.2.1.push x,c.2.2.2.2.1+1,0))
    else if c.2.2.2.2.1+1≥mg then pure (ForInStep.done (none,c.2.1 - 1,c.2.2.1,c.2.2.2.1.push x,c.2.2.2.2.1+1,0))
    else pure (ForInStep.yield (none,c.2.1 - 1,c.2.2.1,c.2.2.2.1.push x,c.2.2.2.2.1+1,0))
   else do
    let y ← elem' b (c.2.2.1 - 1)
    if(c.2.2.1 - 1 == 1)=true then pure (ForInStep.done (some (b.extract 0 (c.2.2.1 - 1)++a.extract 0 c.2.1++(c.2.2.2.1.push y).reverse),c.2.1,c.2.2.1 - 1,c.2.2.2.1.push y,0,c.2.2.2.2.2+1))
    else if c.2.2.2.2.2+1≥mg then pure (ForInStep.done (none,c.2.1,c.2.2.1 - 1,c.2.2.2.1.push y,0,c.2.2.2.2.2+1))
    else pure (ForInStep.yield (none,c.2.1,c.2.2.1 - 1,c.2.2.2.1.push y,0,c.2.2.2.2.2+1))
  | _=>pure (ForInStep.done (some (a.extract 0 c.2.1++b.extract 0 c.2.2.1++c.2.2.2.1.reverse),c.2.1,c.2.2.1,c.2.2.2.1,c.2.2.2.2.1,c.2.2.2.2.2))
def EL(a b:Array Keyed)(na nb:Nat)(out:Array Keyed)(mg ac bc:Nat):StateT SortSt Sem (ForInStep qM):=do
 let x ← elem' a (na - 1)
 if(na - 1 == 0)=true then pure (ForInStep.done (some (a.extract 0 (na - 1)++b.extract 0 nb++(out.push x).reverse),na - 1,nb,out.push x,mg,ac,bc))
 else if(decide (ac<7)&&decide (bc<7))=true then pure (ForInStep.done (none,na - 1,nb,out.push x,mg,ac,bc))
 else pure (ForInStep.yield (none,na - 1,nb,out.push x,mg,ac,bc))
def ND(a b:Array Keyed)(na nb:Nat)(out:Array Keyed)(mg ac bc:Nat):StateT SortSt Sem (ForInStep qM):=do
 let x ← elem' a (na - 1)
 let r ← kA true x b 0 nb (nb - 1)
 match r with
 | some k =>
  if nb - k>0 then
   if(k == 1)=true then pure (ForInStep.done (some (b.extract 0 k++a.extract 0 na++(out++(b.extract k nb).reverse).reverse),na,k,out++(b.extract k nb).reverse,mg,ac,nb - k))
   else if(k == 0)=true then pure (ForInStep.done (some (a.extract 0 na++b.extract 0 k++(out++(b.extract k nb).reverse).reverse),na,k,out++(b.extract k nb).reverse,mg,ac,nb - k))
   else EL a b na k (out++(b.extract k nb).reverse) mg ac (nb - k)
  else EL a b na nb out mg ac (nb - k)
 | _=>pure (ForInStep.done (some (a.extract 0 na++b.extract 0 nb++out.reverse),na,nb,out,mg,ac,bc))
def EM(a b:Array Keyed)(na nb:Nat)(out:Array Keyed)(mg ac bc:Nat):StateT SortSt Sem (ForInStep qM):=do
 let y ← elem' b (nb - 1)
 if(nb - 1 == 1)=true then pure (ForInStep.done (some (b.extract 0 (nb - 1)++a.extract 0 na++(out.push y).reverse),na,nb - 1,out.push y,mg,ac,bc))
 else ND a b na (nb - 1) (out.push y) mg ac bc
def mW(a b:Array Keyed)(na nb:Nat)(out:Array Keyed)(mg ac bc:Nat):StateT SortSt Sem (ForInStep qM):=do
 qW mg
 let y ← elem' b (nb - 1)
 let r ← kA false y a 0 na (na - 1)
 match r with
 | some k =>
  if na - k>0 then
   if(k == 0)=true then pure (ForInStep.done (some (a.extract 0 k++b.extract 0 nb++(out++(a.extract k na).reverse).reverse),k,nb,out++(a.extract k na).reverse,mg,na - k,bc))
   else EM a b k nb (out++(a.extract k na).reverse) mg (na - k) bc
  else EM a b na nb out mg (na - k) bc
 | _=>pure (ForInStep.done (some (a.extract 0 na++b.extract 0 nb++out.reverse),na,nb,out,mg,ac,bc))
def NB(a b:Array Keyed)(iC iB:Nat)(gS:Array Keyed)(tL uS uO:Nat):StateT SortSt Sem qM :=
 forIn [0:a.size+b.size] ((none,iC,iB,gS,tL,uS,uO):qM) fun _ c =>
  if c.2.2.2.2.1>1 then mW a b c.2.1 c.2.2.1 c.2.2.2.1 (c.2.2.2.2.1 - 1) c.2.2.2.2.2.1 c.2.2.2.2.2.2 else mW a b c.2.1 c.2.2.1 c.2.2.2.1 c.2.2.2.2.1 c.2.2.2.2.2.1 c.2.2.2.2.2.2
structure sD(P:Keyed→Prop)(rk:Keyed→Int)(a b:Array Keyed):Prop where
 pa:∀x∈a.toList,P x
 pb:∀x∈b.toList,P x
 sa:bM rk a.toList
 sb:bM rk b.toList
 bot:∀y∈b.toList.take 1,∀x∈a.toList,rk y≤rk x
section
variable{M:Model}{A:Around}{E:Value→Shared→Prop}{s:Shared}{kd:SortKind}{P:Keyed→Prop}{rk:Keyed→Int}{a b:Array Keyed}
theorem HW{l:List Keyed}{i:Nat}{z:Keyed}(h:z∈l.take i):∃j,j<i∧l[j]? = some z:=by
 obtain⟨j,hj⟩:=List.getElem?_of_mem h;rw [Ee]at hj;split at hj
 ·exact⟨j,‹_›,hj⟩
 ·cases hj
theorem CP{l:List Keyed}(h:bM rk l){i:Nat}{x:Keyed}(hi:0<i)(hx:l[i - 1]? = some x):∀y∈l.take i,rk y≤rk x:=fun y hy=>by
 obtain⟨j,hj,e⟩:=HW hy;exact vP h (by omega) e hx
theorem MH.DH{out:Array Keyed}{na nb:Nat}(h:MH rk a.toList b.toList out.toList na nb)(hn:0<na){x:Keyed}(hx:a.toList[na - 1]? = some x)(sa:bM rk a.toList)(hb:∀y∈b.toList.take nb,rk y≤rk x):MH rk a.toList b.toList (out.push x).toList (na - 1) nb:=by
 rw [BQ];exact MH.vU (na:=na - 1) (by rw [show na - 1+1=na by omega];exact h) hx sa hb
theorem MH.WK{out:Array Keyed}{na nb:Nat}(h:MH rk a.toList b.toList out.toList na nb)(hn:0<nb){x:Keyed}(hx:b.toList[nb - 1]? = some x)(sb:bM rk b.toList)(hb:∀y∈a.toList.take na,rk y≤rk x):MH rk a.toList b.toList (out.push x).toList na (nb - 1):=(h.swap.DH hn hx sb hb).swap
theorem MH.VL{out:Array Keyed}{na nb k:Nat}(h:MH rk a.toList b.toList out.toList na nb)(sa:bM rk a.toList)(hk:k≤na)(hb:∀j x,k≤j→j<na→a.toList[j]? = some x→∀y∈b.toList.take nb,rk y≤rk x):MH rk a.toList b.toList (out++(a.extract k na).reverse).toList k nb:=by
 obtain⟨d,rfl⟩:∃d,na=k+d:=⟨na - k,by omega⟩;rw [Fe,Mq];exact MH.vS sa d k h hb
theorem MH.Mr{out:Array Keyed}{na nb k:Nat}(h:MH rk a.toList b.toList out.toList na nb)(sb:bM rk b.toList)(hk:k≤nb)(hb:∀j x,k≤j→j<nb→b.toList[j]? = some x→∀y∈a.toList.take na,rk y≤rk x):MH rk a.toList b.toList (out++(b.extract k nb).reverse).toList na k:=(h.swap.VL sb hk hb).swap
theorem MH.ES{out:Array Keyed}{na nb:Nat}(h:MH rk a.toList b.toList out.toList na nb)(sb:bM rk b.toList)(he:na=0):eH rk a b (a.extract 0 na++b.extract 0 nb++out.reverse):=by
 unfold eH;rw [OZ];exact h.Bb sb he
theorem MH.Yn{out:Array Keyed}{na nb:Nat}(h:MH rk a.toList b.toList out.toList na nb)(sa:bM rk a.toList)(he:nb=0):eH rk a b (a.extract 0 na++b.extract 0 nb++out.reverse):=by
 unfold eH;rw [OZ];exact h.uL sa he
theorem MH.ER{out:Array Keyed}{na nb:Nat}(h:MH rk a.toList b.toList out.toList na nb)(T:sD P rk a b)(he:nb=1):eH rk a b (b.extract 0 nb++a.extract 0 na++out.reverse):=by
 unfold eH;rw [OZ];exact h.Zb T.sa T.sb (by rw [he];exact T.bot)
theorem Fx(hL:dR M A E s kd P rk)(T:sD P rk a b){st:SortSt}(hk:kindOf st=kd){mg:Nat}{gS:Array Keyed}{iC iB:Nat}(h0:MH rk a.toList b.toList gS.toList iC iB)(h1:0<iC)(h2:1<iB){Q:GL→SortSt→Prop}
  (hr:∀m c,eH rk a b m→Q (some m,c) st)
  (hn:∀out na nb c,MH rk a.toList b.toList out.toList na nb→0<na→1<nb→na+nb≤iC+iB→Q (none,na,nb,out,c) st):wpS M A E s (NC a b mg iC iB gS) Q st:=by
 unfold NC;refine jQ (I:=fun _ (c:GL) aE=>aE=st∧c.1=none∧MH rk a.toList b.toList c.2.2.2.1.toList c.2.1 c.2.2.1∧0<c.2.1∧1<c.2.2.1∧c.2.1+c.2.2.1≤iC+iB) ?step ?fin ⟨rfl,rfl,h0,h1,h2,iM _⟩
 case fin =>
  rintro⟨r,na,nb,out,c⟩ aE ⟨rfl,e0,a1,a2,a3,a4⟩;dsimp only at *;subst e0;exact hn out na nb c a1 a2 a3 a4
 case step =>
  rintro i ⟨r,na,nb,out,ac,bc⟩ aE _ kT ⟨rfl,e0,a1,a2,a3,a4⟩;dsimp only at *;subst e0;have la:=a1.la;have lb:=a1.lb;rw [eE]at la lb;obtain⟨y,y1,y2,y3⟩:=iK (show nb - 1<b.size by omega);obtain⟨x,x1,x2,x3⟩:=iK (show na - 1<a.size by omega);refine aQ (fH y1 (aQ (fH x1 (aQ (hL y x (T.pb y y3) (T.pa x x3) aE _ hk ?_)))));dsimp only
  by_cases aZ:rk y<rk x
  ·rw [qD aZ,if_pos rfl];refine aQ (fH x1 ?_);have m1:=a1.DH a2 x2 T.sa fun z hz=>by have:=CP T.sb (by omega) y2 z hz;omega
   refine cZ (fun he=>?_) (fun he=>?_)
   ·exact bH (hr _ _ (m1.ES T.sb (by simpa using he)))
   ·have he:¬na - 1=0:=by simpa using he
    refine cZ (fun hg=>?_) (fun hg=>?_)
    ·exact bH (hn _ _ _ _ m1 (by omega) a3 (by omega))
    ·exact wpS_pure ⟨rfl,rfl,m1,by dsimp only;omega,a3,by dsimp only;omega⟩
  ·rw [lX aZ,if_neg (by simp)];refine aQ (fH y1 ?_);have m1:=a1.WK (by omega) y2 T.sb fun z hz=>by have:=CP T.sa (by omega) x2 z hz;omega
   refine cZ (fun he=>?_) (fun he=>?_)
   ·exact bH (hr _ _ (m1.ER T (by simpa using he)))
   ·have he:¬nb - 1=1:=by simpa using he
    refine cZ (fun hg=>?_) (fun hg=>?_)
    ·exact bH (hn _ _ _ _ m1 a2 (by omega) (by omega))
    ·exact wpS_pure ⟨rfl,rfl,m1,a2,by dsimp only;omega,by dsimp only;omega⟩
def BI(rk:Keyed→Int)(a b:Array Keyed)(hi:Nat)(st:SortSt)(r:ForInStep qM)(aE:SortSt):Prop:=cA st aE∧(match r with
 | .done c=>(∃m,c.1=some m∧eH rk a b m)∨(c.1=none∧MH rk a.toList b.toList c.2.2.2.1.toList c.2.1 c.2.2.1∧0<c.2.1∧1<c.2.2.1∧c.2.1+c.2.2.1≤hi)
 | .yield c=>c.1=none∧MH rk a.toList b.toList c.2.2.2.1.toList c.2.1 c.2.2.1∧0<c.2.1∧1<c.2.2.1∧c.2.1+c.2.2.1≤hi)
theorem SK(T:sD P rk a b){st:SortSt}{out:Array Keyed}{na nb mg ac bc hi:Nat}(h:MH rk a.toList b.toList out.toList na nb)(h1:0<na)(h2:1<nb)(hx:∀x,a.toList[na - 1]? = some x→∀z∈b.toList.take nb,rk z≤rk x)(eP:na+nb≤hi+1) :
  wpS M A E s (EL a b na nb out mg ac bc) (BI rk a b hi st) st:=by
 have la:=h.la;rw [eE]at la;obtain⟨x,x1,x2,_⟩:=iK (show na - 1<a.size by omega);unfold EL;refine aQ (fH x1 ?_);have m1:=h.DH h1 x2 T.sa (hx x x2);refine cZ (fun he=>?_) (fun he=>?_)
 ·exact bH ⟨cA.refl _,.inl ⟨_,rfl,m1.ES T.sb (by simpa using he)⟩⟩
 ·have he:¬na - 1=0:=by simpa using he
  refine cZ (fun hg=>?_) (fun hg=>?_)
  ·exact wpS_pure ⟨cA.refl _,.inr ⟨rfl,m1,by dsimp only;omega,h2,by dsimp only;omega⟩⟩
  ·exact wpS_pure ⟨cA.refl _,rfl,m1,by dsimp only;omega,h2,by dsimp only;omega⟩
theorem SO(hL:dR M A E s kd P rk){st:SortSt}(hk:kindOf st=kd){left:Bool}{key:Keyed}{arr:Array Keyed}(mU:P key)(hp:∀x∈arr.toList,P x)(hs:bM rk arr.toList){n:Nat}(h0:0<n)(hn:n≤arr.size){Q:Option Nat→SortSt→Prop}
  (h:∀k,k≤n→(∀j x,j<k→arr.toList[j]? = some x→(if left then rk x<rk key else rk x≤rk key))→(∀j x,k≤j→j<n→arr.toList[j]? = some x→(if left then rk key≤rk x else rk key<rk x))→Q (some k) st) :
  wpS M A E s (kA left key arr 0 n (n - 1)) Q st:=by
 refine HA hL hk mU (fun i hi=>?_) (fun i j x y dE hj hx hy=>?_) (by omega) (fun k dW h1 h2=>h k dW (fun j x hj hx=>h1 j x hj ?_) (fun j x hj oO hx=>h2 j x hj oO ?_))
 ·obtain⟨x,x1,_,x3⟩:=iK (show 0+i<arr.size by omega);exact⟨x,x1,hp x x3⟩
 ·rw [← jA]at hx hy;exact vP hs (show 0+i≤0+j by omega) hx hy
 ·rw [xC,← jA];exact hx
 ·rw [xC,← jA];exact hx
theorem Fy(hL:dR M A E s kd P rk)(T:sD P rk a b){st:SortSt}(hk:kindOf st=kd){out:Array Keyed}{na nb mg ac bc hi:Nat}(h:MH rk a.toList b.toList out.toList na nb)(h1:0<na)(h2:1<nb)(eP:na+nb≤hi+1) :
  wpS M A E s (ND a b na nb out mg ac bc) (BI rk a b hi st) st:=by
 have la:=h.la;have lb:=h.lb;rw [eE]at la lb;obtain⟨x,x1,x2,x3⟩:=iK (show na - 1<a.size by omega);unfold ND;refine aQ (fH x1 (aQ (SO hL hk (T.pa x x3) T.pb T.sb (by omega) lb fun k dW aZ cU=>?_)));dsimp only;simp only [cR]at aZ cU;have m1:=h.Mr T.sb dW fun j y hj oO hy z hz=>by
  have:=cU j y hj oO hy;have:=CP T.sa h1 x2 z hz;omega
 have last:∀y,a.toList[na - 1]? = some y→∀z∈b.toList.take k,rk z≤rk y:=fun y hy z hz=>by
  rw [x2]at hy;cases hy;obtain⟨j,hj,ej⟩:=HW hz;have:=aZ j z hj ej;omega
 refine cZ (fun oN=>?_) (fun oN=>?_)
 ·refine cZ (fun he=>?_) (fun he=>?_)
  ·exact bH ⟨cA.refl _,.inl ⟨_,rfl,m1.ER T (by simpa using he)⟩⟩
  ·have he:¬k=1:=by simpa using he
   refine cZ (fun gJ=>?_) (fun gJ=>?_)
   ·exact bH ⟨cA.refl _,.inl ⟨_,rfl,m1.Yn T.sa (by simpa using gJ)⟩⟩
   ·have gJ:¬k=0:=by simpa using gJ
    exact SK T m1 h1 (by omega) last (by omega)
 ·have k0:k=nb:=by omega
  subst k0;exact SK T h h1 h2 last eP
theorem SM(hL:dR M A E s kd P rk)(T:sD P rk a b){st:SortSt}(hk:kindOf st=kd){out:Array Keyed}{na nb mg ac bc hi:Nat}(h:MH rk a.toList b.toList out.toList na nb)(h1:0<na)(h2:1<nb)(hy:∀y,b.toList[nb - 1]? = some y→∀z∈a.toList.take na,rk z≤rk y)(eP:na+nb≤hi+2) :
  wpS M A E s (EM a b na nb out mg ac bc) (BI rk a b hi st) st:=by
 have lb:=h.lb;rw [eE]at lb;obtain⟨y,y1,y2,_⟩:=iK (show nb - 1<b.size by omega);unfold EM;refine aQ (fH y1 ?_);have m1:=h.WK (by omega) y2 T.sb (hy y y2);refine cZ (fun he=>?_) (fun he=>?_)
 ·exact bH ⟨cA.refl _,.inl ⟨_,rfl,m1.ER T (by simpa using he)⟩⟩
 ·have he:¬nb - 1=1:=by simpa using he
  exact Fy hL T hk m1 h1 (by omega) (by omega)
theorem Fz(hL:dR M A E s kd P rk)(T:sD P rk a b){st:SortSt}(hk:kindOf st=kd){out:Array Keyed}{na nb mg ac bc hi:Nat}(h:MH rk a.toList b.toList out.toList na nb)(h1:0<na)(h2:1<nb)(eP:na+nb≤hi+2) :
  wpS M A E s (mW a b na nb out mg ac bc) (BI rk a b hi st) st:=by
 have la:=h.la;have lb:=h.lb;rw [eE]at la lb;obtain⟨y,y1,y2,y3⟩:=iK (show nb - 1<b.size by omega);unfold mW;refine aQ (BR fun gF g1=>?_);have dW:kindOf gF=kd:=g1.kind.trans hk;refine aQ (fH y1 (aQ (SO hL dW (T.pb y y3) T.pa T.sa h1 la fun k MX aZ cU=>?_)));dsimp only;simp only [eB,cK]at aZ cU;have m1:=h.VL T.sa MX fun j x hj oO hx z hz=>by
  have:=cU j x hj oO hx;have:=CP T.sb (by omega) y2 z hz;omega
 have yT:∀z,b.toList[nb - 1]? = some z→∀x∈a.toList.take k,rk x≤rk z:=fun z hz x hx=>by
  rw [y2]at hz;cases hz;obtain⟨j,hj,ej⟩:=HW hx;exact aZ j x hj ej
 refine cZ (fun oN=>?_) (fun oN=>?_)
 ·refine cZ (fun he=>?_) (fun he=>?_)
  ·exact bH ⟨g1,.inl ⟨_,rfl,m1.ES T.sb (by simpa using he)⟩⟩
  ·have he:¬k=0:=by simpa using he
   exact iQ (SM hL T dW m1 (by omega) h2 yT (by omega)) fun r eM q=>⟨g1.trans q.1,q.2⟩
 ·have k0:k=na:=by omega
  subst k0;exact iQ (SM hL T dW h h1 h2 yT eP) fun r eM q=>⟨g1.trans q.1,q.2⟩
theorem Fw(hL:dR M A E s kd P rk)(T:sD P rk a b){st:SortSt}(hk:kindOf st=kd){gS:Array Keyed}{iC iB tL uS uO:Nat}(h0:MH rk a.toList b.toList gS.toList iC iB)(h1:0<iC)(h2:1<iB){Q:qM→SortSt→Prop}
  (hr:∀m c aE,cA st aE→eH rk a b m→Q (some m,c) aE)
  (hn:∀out na nb c aE,cA st aE→MH rk a.toList b.toList out.toList na nb→0<na→1<nb→na+nb+2≤iC+iB→Q (none,na,nb,out,c) aE):wpS M A E s (NB a b iC iB gS tL uS uO) Q st:=by
 unfold NB;have la:=h0.la;have lb:=h0.lb;rw [eE]at la lb;refine jQ (I:=fun i (c:qM) aE=>cA st aE∧c.1=none∧MH rk a.toList b.toList c.2.2.2.1.toList c.2.1 c.2.2.1∧0<c.2.1∧1<c.2.2.1∧(i=0→c.2.1=iC∧c.2.2.1=iB)∧(0<i→c.2.1+c.2.2.1+2≤iC+iB)) ?step ?fin ⟨cA.refl _,rfl,h0,h1,h2,fun _=>⟨rfl,rfl⟩,fun h=>absurd h (by decide)⟩
 case fin =>
  rintro⟨r,na,nb,out,c⟩ aE ⟨g,e0,a1,a2,a3,a4,a5⟩;dsimp only at *;subst e0;exact hn out na nb c aE g a1 a2 a3 (a5 (by omega))
 case step =>
  rintro i ⟨r,na,nb,out,mg,ac,bc⟩ aE _ kT ⟨g,e0,a1,a2,a3,a4,a5⟩;dsimp only at *;subst e0;have eP:na+nb≤iC+iB:=by
   by_cases hi:i=0
   ·have:=a4 hi;omega
   ·have:=a5 (by omega);omega
  have OI:∀mg,wpS M A E s (mW a b na nb out mg ac bc) (BI rk a b (iC+iB - 2) aE) aE:=fun mg=>Fz hL T (g.kind.trans hk) a1 a2 a3 (by omega);split
  all_goals
   refine iQ (OI _) fun r eN q=>?_;obtain⟨g2,q⟩:=q
   match r,q with
   | .done (some m,c),.inl ⟨m',e,gm⟩=>dsimp only at e;cases e;exact hr _ _ _ (g.trans g2) gm
   | .done (none,Ru,Rr,JL,c),.inr ⟨_,m,x1,x2,x3⟩=>exact hn JL Ru Rr c eN (g.trans g2) m x1 x2 (by dsimp only at x3;omega)
   | .yield c,q=>exact⟨g.trans g2,q.1,q.2.1,q.2.2.1,q.2.2.2.1,fun h=>by omega,fun _=>by have:=q.2.2.2.2;omega⟩
theorem Fo(hL:dR M A E s kd P rk)(T:sD P rk a b)(ha:0<a.size)(hb:0<b.size)(Vb:∀x,a.toList[a.size - 1]? = some x→∀y∈b.toList,rk y≤rk x){st:SortSt}(hk:kindOf st=kd):wpS M A E s (yZ a b) (fun m aE=>cA st aE∧eH rk a b m) st:=by
 rw [Sh];refine aQ (wpS_lift (xT ⟨rfl,?_⟩));obtain⟨x,x1,x2,x3⟩:=iK (show a.size - 1<a.size by omega);refine aQ (fH x1 ?_);have m1:MH rk a.toList b.toList (#[x]:Array Keyed).toList (a.size - 1) b.size:=by
  have m0:MH rk a.toList b.toList (#[]:Array Keyed).toList a.size b.size:=⟨by simp,by simp,by simp,by simp,by simp⟩;exact m0.DH ha x2 T.sa (by rw [List.take_of_length_le (by simp)];exact Vb x x2)
 refine cZ (fun he=>?_) (fun he=>?_)
 ·exact bH ⟨cA.refl _,m1.ES T.sb (by simpa using he)⟩
 have he:¬a.size - 1=0:=by simpa using he
 refine cZ (fun hf=>?_) (fun hf=>?_)
 ·exact bH ⟨cA.refl _,m1.ER T (by simpa using hf)⟩
 have hf:¬b.size=1:=by simpa using hf
 refine aQ (pD ?_);refine aQ (iQ (jQ
  (I:=fun i (c:Option (Array Keyed)×Nat×Nat×Array Keyed×Nat) aE=>cA st aE∧c.1=none∧MH rk a.toList b.toList c.2.2.2.1.toList c.2.1 c.2.2.1∧0<c.2.1∧1<c.2.2.1∧i+c.2.1+c.2.2.1≤a.size+b.size)
  (Q:=fun(c:Option (Array Keyed)×Nat×Nat×Array Keyed×Nat) aE=>cA st aE∧∃m,c.1=some m∧eH rk a b m) ?step ?fin ⟨cA.refl _,rfl,m1,by dsimp only;omega,by dsimp only;omega,by dsimp only;omega⟩) ?post)
 case fin =>
  rintro⟨r,na,nb,out,c⟩ aE ⟨g,e0,a1,a2,a3,a4⟩;dsimp only at *;omega
 case post =>
  rintro⟨r,na,nb,out,c⟩ aE ⟨g,m,e,gm⟩;dsimp only at e;subst e;exact bH ⟨g,gm⟩
 case step =>
  rintro i ⟨r,na,nb,out,mg⟩ aE _ kT ⟨g,e0,a1,a2,a3,a4⟩;dsimp only at e0 a1 a2 a3 a4;subst e0;refine aQ (show wpS M A E s (NC a b mg na nb out) _ _ from Fx hL T (g.kind.trans hk) a1 a2 a3 (fun m c gm=>?_) (fun out Rt Rq c n1 n2 n3 n4=>?_))
  ·exact bH ⟨g,m,rfl,gm⟩
  ·refine aQ (wpS_lift (xT ⟨rfl,?_⟩));refine aQ (show wpS M A E s (NB a b Rt Rq out (mg+1) c.1 c.2) _ _ from Fw hL T (g.kind.trans hk) n1 n2 n3 (fun m c gF g1 gm=>?_) (fun out na2 nb2 c gF g1 o1 o2 o3 o4=>?_))
   ·exact bH ⟨g.trans g1,m,rfl,gm⟩
   ·refine aQ (BR fun eM g2=>?_);exact wpS_pure ⟨(g.trans g1).trans g2,rfl,o1,o2,o3,by dsimp only;omega⟩
end
def Kr(rk:Keyed→Int)(xs:Array Keyed)(i:Nat):Int:=match xs[i]? with
 | some p=>rk p
 | none=>0
theorem BE{rk:Keyed→Int}{xs ys:Array Keyed}{i j:Nat}(h:xs[i]? = ys[j]?):Kr rk xs i=Kr rk ys j:=by unfold Kr;rw [h]
def Up(rk:Keyed→Int)(xs:Array Keyed)(lo n:Nat):Prop:=∀i j,i≤j→j<n→Kr rk xs (lo+i)≤Kr rk xs (lo+j)
def Dn(rk:Keyed→Int)(xs:Array Keyed)(lo n:Nat):Prop:=∀i j,i≤j→j<n→Kr rk xs (lo+j)≤Kr rk xs (lo+i)
theorem ab6{rk:Keyed→Int}{xs:Array Keyed}{src d:Nat}(hs:src<xs.size)(hd:d≤src)(k:Nat) :
  Kr rk (bubble xs src d) k=if k=src - d then Kr rk xs src else if src - d<k∧k≤src then Kr rk xs (k - 1)else Kr rk xs k:=by
 have e:=getElem?_bubble hs d hd k
 by_cases h1:k=src - d
 ·rw [if_pos h1]at e ⊢;exact BE e
 ·rw [if_neg h1]at e ⊢
  by_cases h2:src - d<k∧k≤src
  ·rw [if_pos h2]at e ⊢;exact BE e
  ·rw [if_neg h2]at e ⊢;exact BE e
theorem RI{rk:Keyed→Int}{xs:Array Keyed}{i j:Nat}(hj:j≤xs.size)(k:Nat) :
  Kr rk (mirror xs i j ((j - i)/2)) k=if i≤k∧k<j then Kr rk xs (i+j - 1 - k)else Kr rk xs k:=by
 have e:=getElem?_mirror_all (i:=i) hj k
 by_cases h1:i≤k∧k<j
 ·rw [if_pos h1]at e ⊢;exact BE e
 ·rw [if_neg h1]at e ⊢;exact BE e
theorem BD{rk:Keyed→Int}{xs:Array Keyed}{i j:Nat}(hj:j≤xs.size)(heq:∀k,i≤k→k<j→Kr rk xs k=Kr rk xs (j - 1))(k:Nat) :
  Kr rk (mirror xs i j ((j - i)/2)) k=Kr rk xs k:=by
 rw [RI hj];split
 ·rw [heq _ (by omega) (by omega),heq k (by omega) (by omega)]
 ·rfl
structure Bs(kd:SortKind)(x0:Array Keyed)(lo:Nat)(p0:Array (Nat×Nat×Nat))(st:SortSt):Prop where
 kind:kindOf st=kd
 failed:failedOf st=none
 pend:pendingOf st=p0
 perm:(arrOf st).Perm x0
 pre:∀k,k<lo→(arrOf st)[k]? = x0[k]?
section
variable{M:Model}{A:Around}{E:Value→Shared→Prop}{s:Shared}{kd:SortKind}{P:Keyed→Prop}{rk:Keyed→Int}{x0:Array Keyed}{lo:Nat}{p0:Array (Nat×Nat×Nat)}
theorem Bs.size{st:SortSt}(h:Bs kd x0 lo p0 st):(arrOf st).size=x0.size:=h.perm.size_eq
theorem Bs.mirror{st:SortSt}(h:Bs kd x0 lo p0 st){i j:Nat}(hi:lo≤i)(hj:j≤x0.size):Bs kd x0 lo p0 (setArr st (mirror (arrOf st) i j ((j - i)/2))) :=
 ⟨h.kind,h.failed,h.pend,(mirror_perm _ _ _ _).trans h.perm,fun k hk=>by
  rw [← h.pre k hk];show(PyProof.Rows.mirror (arrOf st) i j ((j - i)/2))[k]? = _;rw [getElem?_mirror_all (by rw [h.size];exact hj),if_neg (by omega)]⟩
theorem Bs.bubble{st:SortSt}(h:Bs kd x0 lo p0 st){src d:Nat}(hs:src<x0.size)(hd:lo+d≤src):Bs kd x0 lo p0 (setArr st (bubble (arrOf st) src d)) :=
 ⟨h.kind,h.failed,h.pend,(bubble_perm _ _ _).trans h.perm,fun k hk=>by
  rw [← h.pre k hk];show(PyProof.Rows.bubble (arrOf st) src d)[k]? = _;rw [getElem?_bubble (by rw [h.size];exact hs) d (by omega),if_neg (by omega),if_neg (by omega)]⟩
theorem xS(hL:dR M A E s kd P rk)(hP:∀x∈x0.toList,P x){st:SortSt}(hB:Bs kd x0 lo p0 st){i j:Nat}{Q:Option Bool→SortSt→Prop}(hi:i<x0.size)(hj:j<x0.size)
  (h:Q (some (decide (Kr rk (arrOf st) i<Kr rk (arrOf st) j))) st):wpS M A E s (ltAt' i j) Q st:=by
 obtain⟨x,x1,_,x3⟩:=iK (show i<(arrOf st).size by rw [hB.size];exact hi);obtain⟨y,y1,_,y3⟩:=iK (show j<(arrOf st).size by rw [hB.size];exact hj);have pm:=(vJ.mp hB.perm).mem_iff (a:=x);have Oq:=(vJ.mp hB.perm).mem_iff (a:=y);rw [ltAt'_eq];refine aQ (pD ?_);show wpS _ _ _ _ (do let x ← elem' (arrOf st) i;let y ← elem' (arrOf st) j;lt' x y) Q st;refine aQ (fH x1 (aQ (fH y1 ?_)));refine hL x y (hP x (pm.mp x3)) (hP y (Oq.mp y3)) st Q hB.kind ?_;have e1:Kr rk (arrOf st) i=rk x:=by unfold Kr;rw [x1]
 have e2:Kr rk (arrOf st) j=rk y:=by unfold Kr;rw [y1]
 rw [e1,e2]at h;exact h
theorem BS{st:SortSt}{i j:Nat}{Q:Unit→SortSt→Prop}(h:Q () (setArr st (mirror (arrOf st) i j ((j - i)/2)))):wpS M A E s (reverseSlice' i j) Q st:=by
 rw [reverseSlice'_eq];exact vK h
theorem Gb(hL:dR M A E s kd P rk)(hP:∀x∈x0.toList,P x){st:SortSt}{n ok:Nat}{Q:Bool→SortSt→Prop}(hn:lo+n≤x0.size)(aK:ok≤n)(hB:Bs kd x0 lo p0 st)(hs:Up rk (arrOf st) lo ok)
  (h:∀aE,Bs kd x0 lo p0 aE→Up rk (arrOf aE) lo n→Q true aE):wpS M A E s (binarySort' lo n ok) Q st:=by
 rw [binarySort'_eq];refine aQ (iQ (jQ (I:=fun k c aE=>c=(none,())∧Bs kd x0 lo p0 aE∧Up rk (arrOf aE) lo (min k n))
  (Q:=fun c aE=>c=(none,())∧Bs kd x0 lo p0 aE∧Up rk (arrOf aE) lo n) ?step ?fin ?init) ?post)
 case post =>
  rintro c aE ⟨rfl,fB,dI⟩;exact bH (h aE fB dI)
 case init =>
  refine⟨rfl,hB,fun i j dE hj=>?_⟩
  by_cases h1:ok=0
  ·have:i=j:=by omega
   subst this;exact hU _
  ·exact hs i j dE (by omega)
 case fin =>
  rintro c aE ⟨hc,fB,dI⟩;refine⟨hc,fB,?_⟩;rwa [show min (max (max ok 1) n) n=n by omega]at dI
 case step =>
  rintro k c aE hak hkn ⟨rfl,fB,dI⟩;rw [show min k n=k by omega]at dI;have hk:lo+k<x0.size:=by omega
  refine aQ (iQ (jQ (I:=fun x c eN=>eN=aE∧∃l r,c=(none,l,r)∧l≤r∧r≤k∧r - l≤k - x ∧
    (∀i,i<l→Kr rk (arrOf aE) (lo+i)≤Kr rk (arrOf aE) (lo+k))∧(∀i,r≤i→i<k→Kr rk (arrOf aE) (lo+k)<Kr rk (arrOf aE) (lo+i)))
   (Q:=fun c eN=>eN=aE∧∃l r,c=(none,l,r)∧l≤k ∧
    (∀i,i<l→Kr rk (arrOf aE) (lo+i)≤Kr rk (arrOf aE) (lo+k))∧(∀i,l≤i→i<k→Kr rk (arrOf aE) (lo+k)<Kr rk (arrOf aE) (lo+i))) ?istep ?ifin ?iinit) ?ipost)
  case iinit=>exact⟨rfl,0,k,rfl,by omega,by omega,by omega,fun i hi=>by omega,fun i h1 h2=>by omega⟩
  case ifin =>
   rintro c eN ⟨rfl,l,r,rfl,Vt,MO,hm,eP,wD⟩;have:l=r:=by omega
   subst this;exact⟨rfl,l,l,rfl,MO,eP,wD⟩
  case istep =>
   rintro x c eN _ hxk ⟨rfl,l,r,rfl,Vt,MO,hm,eP,wD⟩;dsimp only
   by_cases cU:l≥r
   ·rw [if_pos cU];have:l=r:=by omega
    subst this;exact bH ⟨rfl,l,l,rfl,MO,eP,wD⟩
   ·rw [if_neg cU];refine aQ (xS hL hP fB hk (by omega) ?_)
    by_cases lV:Kr rk (arrOf eN) (lo+k)<Kr rk (arrOf eN) (lo+(l+r)/2)
    ·simp only [lV,decide_true,cR];refine bH ⟨rfl,l,(l+r)/2,rfl,by omega,by omega,by omega,eP,fun i h1 h2=>?_⟩;exact Int.lt_of_lt_of_le lV (dI _ _ h1 h2)
    ·simp only [lV,PH,eB,cK];refine bH ⟨rfl,(l+r)/2+1,r,rfl,by omega,by omega,by omega,fun i h1=>?_,wD⟩;exact GJ (dI i ((l+r)/2) (by omega) (by omega)) (Int.not_lt.mp lV)
  case ipost =>
   rintro c eN ⟨rfl,l,r,rfl,hlk,eP,wD⟩;show wpS _ _ _ _ (do moveDown' (lo+k) (lo+l);pure (ForInStep.yield (none,()))) _ _;rw [moveDown'_eq];refine aQ (vK (bH ⟨rfl,fB.bubble hk (by omega),?_⟩));rw [show min (k+1) n=k+1 by omega];have rJ:lo+k<(arrOf eN).size:=by rw [fB.size];exact hk
   intro i j dE hj;show Kr rk (bubble (arrOf eN) (lo+k) (lo+k - (lo+l))) (lo+i)≤Kr rk (bubble (arrOf eN) (lo+k) (lo+k - (lo+l))) (lo+j);have bb:∀i,Kr rk (bubble (arrOf eN) (lo+k) (lo+k - (lo+l))) (lo+i)=if i=l then Kr rk (arrOf eN) (lo+k)else if l<i∧i≤k then Kr rk (arrOf eN) (lo+(i - 1))else Kr rk (arrOf eN) (lo+i):=fun i=>by
    rw [ab6 rJ (by omega)]
    by_cases h1:i=l
    ·rw [if_pos h1,if_pos (by omega)]
    ·rw [if_neg h1,if_neg (by omega)]
     by_cases h2:l<i∧i≤k
     ·rw [if_pos h2,if_pos (by omega),show lo+i - 1=lo+(i - 1)by omega]
     ·rw [if_neg h2,if_neg (by omega)]
   rw [bb,bb]
   repeat' split
   all_goals first
    | (exfalso;omega)
    | exact hU _
    | exact eP _ (by omega)
    | exact GK (wD _ (by omega) (by omega))
    | exact dI _ _ (by omega) (by omega)
end
def FY(lo a nrem:Nat):StateT SortSt Sem AscSt :=
 forIn [a:nrem] ((none,a):AscSt) fun _ c=>do
  let x ← ltAt' (lo+c.2) (lo+c.2 - 1)
  match x with
  | some pI=>if pI=true then pure (ForInStep.done (none,c.2))else pure (ForInStep.yield (none,c.2+1))
  | _=>pure (ForInStep.done (some none,c.2))
def CL(lo n0 nrem:Nat):StateT SortSt Sem (Option Nat):=do
 let mut n:=n0
 reverseSlice' lo (lo+n)
 for _ in [n:nrem] do
  let some pI ← ltAt' (lo+n) (lo+n - 1) | return none
  if pI then break
  n:=n+1
 return some n
def PC(lo n nrem:Nat):StateT SortSt Sem DescSt :=
 forIn [n:nrem] ((none,n,0):DescSt) fun _ c=>do
  let x ← ltAt' (lo+c.2.1) (lo+c.2.1 - 1)
  match x with
  | some pI =>
   if pI=true then
    if c.2.2>0 then do
     reverseSlice' (lo+c.2.1 - (c.2.2+1)) (lo+c.2.1)
     pure (ForInStep.yield (none,c.2.1+1,0))
    else pure (ForInStep.yield (none,c.2.1+1,0))
   else do
    let x ← ltAt' (lo+c.2.1 - 1) (lo+c.2.1)
    match x with
    | some KJ =>
     if KJ=true then pure (ForInStep.done (none,c.2.1,c.2.2))
     else pure (ForInStep.yield (none,c.2.1+1,c.2.2+1))
    | _=>pure (ForInStep.done (some none,c.2.1,c.2.2))
  | _=>pure (ForInStep.done (some none,c.2.1,c.2.2))
def FI(lo n0 nrem:Nat):StateT SortSt Sem (Option Nat):=do
 let mut n:=n0
 rule "list.sort.descending-run"
 n:=n+1
 let mut fW:=0
 for _ in [n:nrem] do
  let some pI ← ltAt' (lo+n) (lo+n - 1) | return none
  if pI then
   if fW>0 then reverseSlice' (lo+n - (fW+1)) (lo+n)
   fW:=0
  else
   let some KJ ← ltAt' (lo+n - 1) (lo+n) | return none
   if KJ then break
   fW:=fW+1
  n:=n+1
 if fW>0 then reverseSlice' (lo+n - (fW+1)) (lo+n)
 reverseSlice' lo (lo+n)
 for _ in [n:nrem] do
  let some pI ← ltAt' (lo+n) (lo+n - 1) | return none
  if pI then break
  n:=n+1
 return some n
section
variable{M:Model}{A:Around}{E:Value→Shared→Prop}{s:Shared}{kd:SortKind}{P:Keyed→Prop}{rk:Keyed→Int}{x0:Array Keyed}{lo:Nat}{p0:Array (Nat×Nat×Nat)}
theorem SU(hL:dR M A E s kd P rk)(hP:∀x∈x0.toList,P x){st:SortSt}{a nrem:Nat}{Q:AscSt→SortSt→Prop}(hn:lo+nrem≤x0.size)(ha:1≤a)(Xd:a≤nrem)(hB:Bs kd x0 lo p0 st)(hs:Up rk (arrOf st) lo a)
  (h:∀n,a≤n→n≤nrem→Up rk (arrOf st) lo n→(n=nrem∨Kr rk (arrOf st) (lo+n)<Kr rk (arrOf st) (lo+n - 1))→Q (none,n) st) :
  wpS M A E s (FY lo a nrem) Q st:=by
 unfold FY;refine jQ (I:=fun x c aE=>aE=st∧c=(none,x)∧Up rk (arrOf st) lo x) ?step ?fin ⟨rfl,rfl,hs⟩
 case fin =>
  rintro c aE ⟨rfl,rfl,dI⟩;rw [show max a nrem=nrem by omega]at dI ⊢;exact h nrem Xd cP dI (.inl rfl)
 case step =>
  rintro x c aE NK Ux ⟨rfl,rfl,dI⟩;dsimp only;refine aQ (xS hL hP hB (by omega) (by omega) ?_)
  by_cases lV:Kr rk (arrOf aE) (lo+x)<Kr rk (arrOf aE) (lo+x - 1)
  ·simp only [lV,decide_true,cR];exact bH (h x NK (by omega) dI (.inr lV))
  ·simp only [lV,PH,eB,cK];refine bH ⟨rfl,rfl,fun i j dE hj=>?_⟩
   by_cases zS:j<x
   ·exact dI i j dE zS
   ·have tW:j=x:=by omega
    subst tW
    by_cases nL:i=j
    ·subst nL;exact hU _
    ·have q:=dI i (j - 1) (by omega) (by omega);rw [show lo+(j - 1)=lo+j - 1 by omega]at q;exact GJ q (Int.not_lt.mp lV)
theorem SG(hL:dR M A E s kd P rk)(hP:∀x∈x0.toList,P x){st:SortSt}{n nrem:Nat}{Q:Option Nat→SortSt→Prop}(hn:lo+nrem≤x0.size)(h1:1≤n)(oM:n≤nrem)(hB:Bs kd x0 lo p0 st)
  (hs:Dn rk (arrOf st) lo n) (h:∀m aE,Bs kd x0 lo p0 aE→1≤m→m≤nrem→Up rk (arrOf aE) lo m→Q (some m) aE) :
  wpS M A E s (CL lo n nrem) Q st:=by
 unfold CL;have cS:lo+n≤(arrOf st).size:=by rw [hB.size];omega
 refine aQ (BS ?_);have fB:=hB.mirror (i:=lo) (j:=lo+n) cP (by omega);refine aQ (show wpS M A E s (FY lo n nrem) _ _ from SU hL hP hn h1 oM fB ?_ fun m Vs EK ML _=>bH (h m _ fB (by omega) EK ML));intro i j dE hj;show Kr rk (mirror (arrOf st) lo (lo+n) ((lo+n - lo)/2)) (lo+i)≤Kr rk (mirror (arrOf st) lo (lo+n) ((lo+n - lo)/2)) (lo+j);rw [RI cS,RI cS,if_pos (by omega),if_pos (by omega)];have q:=hs (n - 1 - j) (n - 1 - i) (by omega) (by omega);rw [show lo+(n - 1 - j)=lo+(lo+n) - 1 - (lo+j)by omega,show lo+(n - 1 - i)=lo+(lo+n) - 1 - (lo+i)by omega]at q;exact q
theorem Ga(hL:dR M A E s kd P rk)(hP:∀x∈x0.toList,P x){st:SortSt}{n nrem:Nat}{Q:DescSt→SortSt→Prop}(hn:lo+nrem≤x0.size)(h1:1≤n)(oM:n≤nrem)(hB:Bs kd x0 lo p0 st)
  (hs:Dn rk (arrOf st) lo n)
  (h:∀m fW aE,Bs kd x0 lo p0 aE→n≤m→m≤nrem→Dn rk (arrOf aE) lo m→fW+1≤m→(∀i,lo+m - (fW+1)≤i→i<lo+m→Kr rk (arrOf aE) i=Kr rk (arrOf aE) (lo+m - 1))→Q (none,m,fW) aE) :
  wpS M A E s (PC lo n nrem) Q st:=by
 unfold PC;refine jQ (I:=fun x c aE=>∃fW,c=(none,x,fW)∧Bs kd x0 lo p0 aE∧Dn rk (arrOf aE) lo x∧fW+1≤x ∧
   (∀i,lo+x - (fW+1)≤i→i<lo+x→Kr rk (arrOf aE) i=Kr rk (arrOf aE) (lo+x - 1))) ?step ?fin ⟨0,rfl,hB,hs,by omega,fun i h1 h2=>by congr 1;omega⟩
 case fin =>
  rintro c aE ⟨fW,rfl,fB,dI,hq,he⟩;rw [show max n nrem=nrem by omega]at dI hq he ⊢;exact h nrem fW aE fB oM cP dI hq he
 case step =>
  rintro x c aE NK Ux ⟨fW,rfl,fB,dI,hq,he⟩;dsimp only;have cS:lo+x≤(arrOf aE).size:=by rw [fB.size];omega
  refine aQ (xS hL hP fB (by omega) (by omega) ?_)
  by_cases lV:Kr rk (arrOf aE) (lo+x)<Kr rk (arrOf aE) (lo+x - 1)
  ·simp only [lV,decide_true,cR];have yK:∀xs:Array Keyed,(∀k,Kr rk xs k=Kr rk (arrOf aE) k)→Dn rk xs lo (x+1):=by
    intro xs hk i j dE hj;rw [hk,hk]
    by_cases zS:j<x
    ·exact dI i j dE zS
    ·have tW:j=x:=by omega
     subst tW
     by_cases nL:i=j
     ·subst nL;exact hU _
     ·have q:=dI i (j - 1) (by omega) (by omega);rw [show lo+(j - 1)=lo+j - 1 by omega]at q;exact GJ (GK lV) q
   refine cZ (fun MU=>?_) (fun MU=>?_)
   ·exact aQ (BS (bH ⟨0,rfl,fB.mirror (by omega) (by omega),yK _ (BD cS he),by omega,fun i h1 h2=>by congr 1;omega⟩))
   ·exact bH ⟨0,rfl,fB,yK _ (fun _=>rfl),by omega,fun i h1 h2=>by congr 1;omega⟩
  ·simp only [lV,PH,eB,cK];refine aQ (xS hL hP fB (by omega) (by omega) ?_)
   by_cases YY:Kr rk (arrOf aE) (lo+x - 1)<Kr rk (arrOf aE) (lo+x)
   ·simp only [YY,decide_true,cR];exact bH (h x fW aE fB NK (by omega) dI hq he)
   ·simp only [YY,PH,eB,cK];have ZJ:Kr rk (arrOf aE) (lo+x)=Kr rk (arrOf aE) (lo+x - 1):=by omega
    refine bH ⟨fW+1,rfl,fB,fun i j dE hj=>?_,by omega,fun i h1 h2=>?_⟩
    ·by_cases zS:j<x
     ·exact dI i j dE zS
     ·have tW:j=x:=by omega
      subst tW
      by_cases nL:i=j
      ·subst nL;exact hU _
      ·have q:=dI i (j - 1) (by omega) (by omega);rw [show lo+(j - 1)=lo+j - 1 by omega]at q;rw [ZJ];exact q
    ·rw [show lo+(x+1) - 1=lo+x by omega]
     by_cases Wa:i=lo+x
     ·subst Wa;rfl
     ·rw [ZJ];exact he i (by omega) (by omega)
theorem SS(hL:dR M A E s kd P rk)(hP:∀x∈x0.toList,P x){st:SortSt}{n nrem:Nat}{Q:Option Nat→SortSt→Prop}(hn:lo+nrem≤x0.size)(oM:n+1≤nrem)(hB:Bs kd x0 lo p0 st)
  (hs:Dn rk (arrOf st) lo (n+1)) (h:∀m aE,Bs kd x0 lo p0 aE→1≤m→m≤nrem→Up rk (arrOf aE) lo m→Q (some m) aE) :
  wpS M A E s (FI lo n nrem) Q st:=by
 unfold FI;refine aQ (wpS_lift (xT ⟨rfl,?_⟩));refine aQ (show wpS M A E s (PC lo (n+1) nrem) _ _ from Ga hL hP hn (by omega) oM hB hs fun m fW aE fB Vs EK dI hq he=>?_);have cS:lo+m≤(arrOf aE).size:=by rw [fB.size];omega
 refine cZ (fun MU=>?_) (fun MU=>?_)
 ·refine wpS_bind (BS (show wpS M A E s (CL lo m nrem) _ _ from SG hL hP hn (by omega) EK (fB.mirror (by dsimp only;omega) (by dsimp only;omega)) ?_ h));intro i j dE hj;show Kr rk (mirror (arrOf aE) _ _ _) (lo+j)≤Kr rk (mirror (arrOf aE) _ _ _) (lo+i);rw [BD cS he,BD cS he];exact dI i j dE hj
 ·exact(show wpS M A E s (CL lo m nrem) _ _ from SG hL hP hn (by omega) EK fB dI h)
theorem Fm(hL:dR M A E s kd P rk)(hP:∀x∈x0.toList,P x){st:SortSt}{nrem:Nat}{Q:Option Nat→SortSt→Prop}(hn:lo+nrem≤x0.size)(h1:1≤nrem)(hB:Bs kd x0 lo p0 st)
  (h:∀m aE,Bs kd x0 lo p0 aE→1≤m→m≤nrem→Up rk (arrOf aE) lo m→Q (some m) aE) :
  wpS M A E s (countRun' lo nrem) Q st:=by
 rw [countRun'_eq];refine aQ (show wpS M A E s (FY lo 1 nrem) _ _ from SU hL hP hn (iM 1) h1 hB (fun i j dE hj=>by
  have:i=j:=by omega
  subst this;exact hU _) fun n tT zP EE Vj=>?_)
 refine cZ (fun oM=>?_) (fun oM=>?_)
 ·exact bH (h n st hB tT zP EE)
 ·have oM:¬n=nrem:=by simpa using oM
  have aZ:=Vj.resolve_left oM;refine cZ (fun rM=>?_) (fun rM=>?_)
  ·have rM:n>1:=rM;refine wpS_bind (xS hL hP hB (by omega) (by dsimp only;omega) ?_);dsimp only
   by_cases YS:Kr rk (arrOf st) lo<Kr rk (arrOf st) (lo+n - 1)
   ·refine cZ (fun _=>bH (h n st hB tT zP EE)) (fun q=>absurd (qD YS) q)
   ·refine cZ (fun q=>absurd (of_decide_eq_true q) YS) (fun _=>?_);have cS:lo+n≤(arrOf st).size:=by rw [hB.size];omega
    have uC:∀k,lo≤k→k<lo+n→Kr rk (arrOf st) k=Kr rk (arrOf st) (lo+n - 1):=by
     intro k oN hk;have a1:=EE 0 (k - lo) (by omega) (by omega);have a2:=EE (k - lo) (n - 1) (by omega) (by omega);rw [show lo+(k - lo)=k by omega]at a1 a2;rw [show lo+(n - 1)=lo+n - 1 by omega]at a2;rw [Nat.add_zero]at a1;omega
    refine aQ (BS (show wpS M A E s (FI lo n nrem) _ _ from SS hL hP hn (by omega) (hB.mirror cP (by omega)) ?_ h));intro i j dE hj;show Kr rk (mirror (arrOf st) _ _ _) (lo+j)≤Kr rk (mirror (arrOf st) _ _ _) (lo+i);rw [BD cS uC,BD cS uC]
    by_cases oO:j<n
    ·rw [uC (lo+i) (by omega) (by omega),uC (lo+j) (by omega) (by omega)];exact hU _
    ·have tW:j=n:=by omega
     subst tW
     by_cases nL:i=j
     ·subst nL;exact hU _
     ·rw [uC (lo+i) (by omega) (by omega)];exact GK aZ
  ·have Vp:n=1:=by dsimp only at rM;omega
   subst Vp;refine(show wpS M A E s (FI lo 1 nrem) _ _ from SS hL hP hn (by omega) hB ?_ h);intro i j dE hj
   by_cases nL:i=j
   ·subst nL;exact hU _
   ·have pX:i=0:=by omega
    have Vz:j=1:=by omega
    subst pX;subst Vz;exact GK aZ
end
theorem Si(i:Nat):mergeAt' i=(do
 let s ← get
 let (some (sa,na,power),some (sb,nb,_)):=((pendingOf s)[i]?,(pendingOf s)[i+1]?) | unsupported "internal:list.sort.pending"
 set (setPending s (((pendingOf s).setIfInBounds i (sa,na+nb,power)).eraseIdxIfInBounds (i+1)))
 let some k ← kA false (← elem' (arrOf s) sb) (arrOf s) sa na 0 | return false
 let (sa,na):=(sa+k,na - k)
 if na == 0 then return true
 let some nb ← kA true (← elem' (arrOf s) (sa+na - 1)) (arrOf s) sb nb (nb - 1) | return false
 if nb == 0 then return true
 let x:=(arrOf s).extract sa sb
 let y:=(arrOf s).extract sb (sb+nb)
 let merged ← if na≤nb then yY x y else yZ x y
 modify fun s=>setArr s (merged.toList.zipIdx.foldl (fun a (p,j)=>a.setIfInBounds (sa+j) p) (arrOf s))
 return (failedOf (← get)).isNone):=rfl
theorem Ce{p:Nat}:∀(l:List Keyed) (k:Nat) (arr:Array Keyed),p+k+l.length≤arr.size→∀i,((l.zipIdx k).foldl (fun a (x,j)=>a.setIfInBounds (p+j) x) arr)[i]? = if p+k≤i∧i<p+k+l.length then l[i - (p+k)]? else arr[i]?
 | [],k,arr,h,i=>by
  rw [if_neg (by simp only [AZ];omega)];rfl
 | x::l,k,arr,h,i=>by
  rw [eU]at h;have ih:=Ce (p:=p) l (k+1) (arr.setIfInBounds (p+k) x) (by rw [Array.size_setIfInBounds];omega) i;rw [List.zipIdx_cons,List.foldl_cons];refine ih.trans ?_;rw [eU]
  by_cases h1:p+(k+1)≤i∧i<p+(k+1)+l.length
  ·rw [if_pos h1,if_pos (by omega),show i - (p+k)=i - (p+(k+1))+1 by omega,List.getElem?_cons_succ]
  ·rw [if_neg h1]
   by_cases h2:i=p+k
   ·subst h2;rw [if_pos (by omega),Nat.sub_self,List.getElem?_cons_zero,Array.getElem?_setIfInBounds_self_of_lt (by omega)]
   ·rw [if_neg (by omega),Array.getElem?_setIfInBounds_ne (by omega)]
theorem abE{p:Nat}{l pre mid post:List Keyed}{arr:Array Keyed}(h:arr.toList=pre++mid++post)(hp:pre.length=p)(hl:l.length=mid.length):(l.zipIdx.foldl (fun a (x,j)=>a.setIfInBounds (p+j) x) arr).toList=pre++l++post:=by
 have hs:arr.size=pre.length+mid.length+post.length:=by rw [← eE,h];simp [Nat.add_assoc]
 refine Ek fun i=>?_;rw [jA,Ce l 0 arr (by omega) i,← jA,h]
 by_cases h1:p+0≤i∧i<p+0+l.length
 ·rw [if_pos h1,eW,kY (by omega),gO (by omega),hp];rfl
 ·rw [if_neg h1]
  by_cases h2:i<p
  ·rw [eW,eW,gO (by omega),gO (by omega)]
  ·rw [kY (by simp only [fG];omega),kY (by simp only [fG];omega),fG,fG,hl]
theorem Fl{σ:Type}{M:Model}{A:Around}{E:Value→Shared→Prop}{s:Shared}{x:σ}{Q:PUnit→σ→Prop}{st:σ}(h:Q ⟨⟩ x):wpS M A E s (set x:StateT σ Sem PUnit) Q st:=by
 unfold wpS;rw [StateT.run_set];exact wpAny_pure ⟨rfl,h⟩
section
variable{M:Model}{A:Around}{E:Value→Shared→Prop}{s:Shared}{kd:SortKind}{P:Keyed→Prop}{rk:Keyed→Int}
theorem XH{pre mid post:List Keyed}{arr:Array Keyed}(h:arr.toList=pre++(mid++post)){j:Nat}(hj:j<mid.length):arr[pre.length+j]? = mid[j]?:=by
 rw [← jA,h,kY (by omega),gO (by omega)];congr 1;omega
theorem XI{pre mid post:List Keyed}{arr:Array Keyed}(h:arr.toList=pre++mid++post){i j:Nat}(hi:i=pre.length)(hj:j=pre.length+mid.length):(arr.extract i j).toList=mid:=by
 subst hi hj;rw [GZ,List.extract_eq_take_drop,h,eW,List.drop_left];rw [show pre.length+mid.length - pre.length=mid.length by omega,List.take_left]
theorem CO{l1 l2:List Keyed}(h1:bM rk l1)(h2:bM rk l2)(h:∀x∈l1,∀y∈l2,rk x≤rk y):bM rk (l1++l2):=oZ.mpr ⟨h1,h2,h⟩
theorem UU{l1 l2:List Keyed}(h:bM rk (l1++l2)):bM rk l1∧bM rk l2∧∀x∈l1,∀y∈l2,rk x≤rk y:=oZ.mp h
theorem Fq(hL:dR M A E s kd P rk){a b:Array Keyed}(pa:∀x∈a.toList,P x)(pb:∀x∈b.toList,P x)(sa:bM rk a.toList)(sb:bM rk b.toList)(ha:0<a.size)(hb:0<b.size)(top:∀x,a.toList[a.size - 1]? = some x→∀y∈b.toList,rk y≤rk x)(bot:∀y,b.toList[0]? = some y→∀x∈a.toList,rk y≤rk x){c:Prop} [Decidable c]{st:SortSt}(hk:kindOf st=kd) :
  wpS M A E s (if c then yY a b else yZ a b) (fun m aE=>cA st aE∧eH rk a b m) st:=by
 obtain⟨x,x1,x2,x3⟩:=iK (show a.size - 1<a.size by omega);obtain⟨y,y1,y2,y3⟩:=iK hb;refine cZ (fun _=>Fn hL ⟨pa,pb,sa,sb,fun z hz=>?_⟩ ha hb bot hk) (fun _=>Fo hL ⟨pa,pb,sa,sb,fun z hz=>?_⟩ ha hb top hk)
 ·rw [FG x2,List.drop_of_length_le (by simp;omega)]at hz;simp only [kH]at hz;subst hz;exact top z x2
 ·rw [UG y2,QX,xH]at hz;simp only [kH]at hz;subst hz;exact bot z y2
theorem Fp(hL:dR M A E s kd P rk){st:SortSt}(hk:kindOf st=kd)(hf:failedOf st=none){i pw q:Nat}{pre RA RB post:List Keyed}(h:(arrOf st).toList=pre++(RA++(RB++post)))(hP:∀x∈(arrOf st).toList,P x)
  (p1:(pendingOf st)[i]? = some (pre.length,RA.length,pw)) (p2:(pendingOf st)[i+1]? = some (pre.length+RA.length,RB.length,q)) (hA:bM rk RA) (hB:bM rk RB) (a0:0<RA.length) (b0:0<RB.length) {Q:Bool→SortSt→Prop}
  (hq:∀aE C,kindOf aE=kd→failedOf aE=none→pendingOf aE=((pendingOf st).setIfInBounds i (pre.length,RA.length+RB.length,pw)).eraseIdxIfInBounds (i+1)→(arrOf aE).toList=pre++(C++post)→C.Perm (RA++RB)→bM rk C→Q true aE) :
  wpS M A E s (mergeAt' i) Q st:=by
 rw [Si];refine aQ (pD ?_);rw [p1,p2];refine aQ (Fl ?_);generalize hp:((pendingOf st).setIfInBounds i (pre.length,RA.length+RB.length,pw)).eraseIdxIfInBounds (i+1)=pend at hq ⊢;have gA:∀j,j<RA.length→(arrOf st)[pre.length+j]? = RA[j]?:=fun j hj=>XH h hj;have h':(arrOf st).toList=(pre++RA)++(RB++post):=by rw [h,eW]
 have gB:∀j,j<RB.length→(arrOf st)[pre.length+RA.length+j]? = RB[j]?:=fun j hj=>by
  have:=XH h' hj;rwa [fG]at this
 have PA:∀x∈RA,P x:=fun x hx=>hP x (by rw [h];simp [hx]);have PB:∀x∈RB,P x:=fun x hx=>hP x (by rw [h];simp [hx]);obtain⟨y,hy⟩:∃y,RB[0]? = some y:=⟨RB[0],lW RB 0 b0⟩;have Uv:=kI hy;refine aQ (fH (by rw [← hy];exact gB 0 b0) ?_);have MY:kindOf (setPending st pend)=kd:=hk;refine aQ (HA hL MY (PB y Uv) (fun j hj=>?_) (fun j1 j2 x1 x2 MZ hj e1 e2=>?_) a0 (fun k dW aZ cU=>?_))
 ·exact⟨RA[j],by rw [gA j hj];exact lW RA j hj,PA _ (RD _)⟩
 ·rw [gA _ (by omega)]at e1 e2;exact vP hA MZ e1 e2
 simp only [eB,cK]at aZ cU;obtain⟨A1,A2,rfl,lA1⟩:∃A1 A2,RA=A1++A2∧A1.length=k:=⟨RA.take k,RA.drop k,(oY k RA).symm,by rw [qK];omega⟩;have lA:(A1++A2).length=A1.length+A2.length:=fG;obtain⟨VU,VR,Nh⟩:=UU hA;have XW:∀x∈A1,rk x≤rk y:=fun x hx=>by
  obtain⟨j,hj,e⟩:=sL hx;exact aZ j x (by omega) (by rw [gA j (by omega),gO hj,lW A1 j hj,e])
 have Sr:∀x∈A2,rk y≤rk x:=fun x hx=>by
  obtain⟨j,hj,e⟩:=sL hx;have:=cU (k+j) x (by omega) (by omega) (by rw [gA _ (by omega),kY (by omega),show k+j - A1.length=j by omega,lW A2 j hj,e]);omega
 have XU:∀x∈RB,rk y≤rk x:=fun x hx=>vQ hB hy x (by simpa using hx);refine cZ (fun he=>?_) (fun he=>?_)
 ·have he:(A1++A2).length - k=0:=by simpa using he
  have Zq:A2=[]:=vA (by omega);subst Zq;rw [nR]at *;exact bH (hq _ (A1++RB) hk hf rfl (by rw [eW];exact h) (List.Perm.refl _) (CO VU hB fun x hx z hz=>by have:=XW x hx;have:=XU z hz;omega))
 have he:¬(A1++A2).length - k=0:=by simpa using he
 obtain⟨x,hx⟩:∃x,A2[A2.length - 1]? = some x:=⟨A2[A2.length - 1],lW A2 _ (by omega)⟩;have Uy:=kI hx;have ex:(arrOf st)[pre.length+k+((A1++A2).length - k) - 1]? = some x:=by
  rw [show pre.length+k+((A1++A2).length - k) - 1=pre.length+((A1++A2).length - 1)by omega,gA _ (by omega),kY (by omega),show(A1++A2).length - 1 - A1.length=A2.length - 1 by omega];exact hx
 refine aQ (fH ex ?_);refine aQ (HA hL MY (PA x (iN _ Uy)) (fun j hj=>?_) (fun j1 j2 x1 x2 MZ hj e1 e2=>?_) (by omega) (fun k2 nK YX ZG=>?_))
 ·exact⟨RB[j],by rw [gB j hj];exact lW RB j hj,PB _ (RD _)⟩
 ·rw [gB _ (by omega)]at e1 e2;exact vP hB MZ e1 e2
 simp only [cR]at YX ZG;obtain⟨B1,B2,rfl,lB1⟩:∃B1 B2,RB=B1++B2∧B1.length=k2:=⟨RB.take k2,RB.drop k2,(oY k2 RB).symm,by rw [qK];omega⟩;have lB:(B1++B2).length=B1.length+B2.length:=fG;obtain⟨Ng,Nc,Nd⟩:=UU hB;have NF:∀z∈B1,rk z≤rk x:=fun z hz=>by
  obtain⟨j,hj,e⟩:=sL hz;have:=YX j z (by omega) (by rw [gB j (by omega),gO hj,lW B1 j hj,e]);omega
 have mW:∀z∈B2,rk x≤rk z:=fun z hz=>by
  obtain⟨j,hj,e⟩:=sL hz;exact ZG (k2+j) z (by omega) (by omega) (by rw [gB _ (by omega),kY (by omega),show k2+j - B1.length=j by omega,lW B2 j hj,e])
 have UC:∀z∈A2,rk z≤rk x:=fun z hz=>by
  obtain⟨j,hj,e⟩:=sL hz;exact vP VR (show j≤A2.length - 1 by omega) (by rw [lW A2 j hj,e]) hx
 have SA:∀z∈A1,∀v∈B1++B2,rk z≤rk v:=fun z hz v hv=>by have:=XW z hz;have:=XU v hv;omega
 refine cZ (fun gJ=>?_) (fun gJ=>?_)
 ·have gJ:k2=0:=by simpa using gJ
  have Zp:B1=[]:=vA (by omega);subst Zp;rw [xH]at *;refine bH (hq _ (A1++A2++B2) hk hf rfl (by rw [h,eW (A1++A2)]) (List.Perm.refl _) (CO hA hB fun z hz v hv=>?_))
  rcases eK.mp hz with r | r
  ·exact SA z r v hv
  ·have:=UC z r;have:=mW v hv;omega
 have gJ:¬k2=0:=by simpa using gJ
 have ea:((arrOf st).extract (pre.length+k) (pre.length+(A1++A2).length)).toList=A2:=XI (pre:=pre++A1) (post:=B1++B2++post) (by rw [h];simp only [eW]) (by simp only [fG];omega) (by simp only [fG];omega);have eb:((arrOf st).extract (pre.length+(A1++A2).length) (pre.length+(A1++A2).length+k2)).toList=B1:=XI (pre:=pre++(A1++A2)) (post:=B2++post) (by rw [h];simp only [eW]) (by simp only [fG]) (by simp only [fG];omega);have Lq:((arrOf st).extract (pre.length+k) (pre.length+(A1++A2).length)).size=A2.length:=by rw [← eE,ea]
 have szb:((arrOf st).extract (pre.length+(A1++A2).length) (pre.length+(A1++A2).length+k2)).size=B1.length:=by rw [← eE,eb]
 have both:∀(c:Prop) [Decidable c],wpS M A E s (if c then yY ((arrOf st).extract (pre.length+k) (pre.length+(A1++A2).length)) ((arrOf st).extract (pre.length+(A1++A2).length) (pre.length+(A1++A2).length+k2))else yZ ((arrOf st).extract (pre.length+k) (pre.length+(A1++A2).length)) ((arrOf st).extract (pre.length+(A1++A2).length) (pre.length+(A1++A2).length+k2))) (fun m aE=>cA (setPending st pend) aE∧eH rk ((arrOf st).extract (pre.length+k) (pre.length+(A1++A2).length)) ((arrOf st).extract (pre.length+(A1++A2).length) (pre.length+(A1++A2).length+k2)) m) (setPending st pend):=fun c _=>by
  refine Fq hL (by rw [ea];exact fun z hz=>PA z (iN _ hz)) (by rw [eb];exact fun z hz=>PB z (jM _ hz)) (by rw [ea];exact VR) (by rw [eb];exact Ng) (by omega) (by omega) (fun z hz=>?_) (fun z hz=>?_) MY
  ·rw [ea,Lq,hx]at hz;cases hz;rw [eb];exact NF
  ·rw [eb]at hz;rw [gO (by omega)]at hy;rw [hy]at hz;cases hz;rw [ea];exact Sr
 have bT:=both True;have bF:=both False;rw [if_pos trivial]at bT;rw [if_neg id]at bF;refine cZ (fun _=>aQ (iQ bT fun m gF gm=>?_)) (fun _=>aQ (iQ bF fun m gF gm=>?_))
 all_goals
  obtain⟨g,gp,gs⟩:=gm;rw [ea,eb]at gp;refine aQ (vK (aQ (pD (bH ?_))));have e1:failedOf gF=none:=g.failed.trans hf;have ef:(failedOf (setArr gF (m.toList.zipIdx.foldl (fun a (x,j)=>a.setIfInBounds (pre.length+k+j) x) (arrOf gF)))).isNone=true:=by
   show(failedOf gF).isNone=true;rw [e1];rfl
  have fin:Q true (setArr gF (m.toList.zipIdx.foldl (fun a (x,j)=>a.setIfInBounds (pre.length+k+j) x) (arrOf gF))):=by
   refine hq _ (A1++m.toList++B2) (g.kind.trans hk) e1 g.pend ?_ ?_ ?_
   ·show(m.toList.zipIdx.foldl (fun a (x,j)=>a.setIfInBounds (pre.length+k+j) x) (arrOf gF)).toList=_;rw [show arrOf gF=arrOf st from g.arr];rw [abE (pre:=pre++A1) (mid:=A2++B1) (post:=B2++post) (by rw [h];simp only [eW]) (by rw [fG];omega) gp.length_eq];simp only [eW]
   ·have e2:A1++A2++(B1++B2)=A1++(A2++B1)++B2:=by simp only [eW]
    rw [e2];exact(xK A1 gp).append_right B2
   ·refine CO (CO VU gs fun z hz v hv=>?_) Nc fun z hz v hv=>?_
    ·rcases eK.mp (gp.mem_iff.mp hv)with r | r
     ·exact Nh z hz v r
     ·exact SA z hz v (jM _ r)
    ·rcases eK.mp hz with r | r
     ·exact SA z r v (iN _ hv)
     ·rcases eK.mp (gp.mem_iff.mp r)with r | r
      ·have:=UC z r;have:=mW v hv;omega
      ·exact Nd z r v hv
  rw [← ef]at fin;exact fin
end
def starts:Nat→List (List Keyed)→List (Nat×Nat)
 | _,[]=>[]
 | o,R::Rs=>(o,R.length)::starts (o+R.length) Rs
theorem CN:∀(o:Nat) (R1 R2:List (List Keyed)),starts o (R1++R2)=starts o R1++starts (o+R1.flatten.length) R2
 | o,[],R2=>by simp [starts]
 | o,R::R1,R2=>by
  rw [RH,starts,starts,CN,Ei,fG,RH,Nat.add_assoc]
theorem yL:∀(o:Nat) (Rs:List (List Keyed)),(starts o Rs).length=Rs.length
 | _,[]=>rfl
 | o,R::Rs=>by rw [starts,eU,eU,yL]
abbrev sl(p:Nat×Nat×Nat):Nat×Nat:=(p.1,p.2.1)
def nA(rk:Keyed→Int)(pend:Array (Nat×Nat×Nat))(l rest:List Keyed):Prop :=
 ∃Rs:List (List Keyed),l=Rs.flatten++rest∧pend.toList.map sl=starts 0 Rs∧∀R∈Rs,0<R.length∧bM rk R
section
variable{rk:Keyed→Int}{pend:Array (Nat×Nat×Nat)}{l rest:List Keyed}
theorem nA.push{R:List Keyed}(h:nA rk pend l (R++rest))(h0:0<R.length)(hs:bM rk R){lo q:Nat}(eP:lo+R.length+rest.length=l.length):nA rk (pend.push (lo,R.length,q)) l rest:=by
 obtain⟨Rs,e,m,hR⟩:=h;refine⟨Rs++[R],by rw [e];simp,?_,fun S hS=>?_⟩
 ·rw [BQ,mF,m,CN];have:lo=0+Rs.flatten.length:=by
   rw [e]at eP;simp only [fG]at eP;omega
  rw [this];rfl
 ·rcases eK.mp hS with q | q
  ·exact hR S q
  ·simp only [kH]at q;subst q;exact⟨h0,hs⟩
theorem nA.last{pw i:Nat}(h:nA rk pend l rest):nA rk (pend.modify i fun x=>match x with | (st,len,_)=>(st,len,pw)) l rest:=by
 obtain⟨Rs,e,m,hR⟩:=h;refine⟨Rs,e,?_,hR⟩;rw [← m];refine Ek fun j=>?_;rw [pB,pB,jA,jA,Array.getElem?_modify];split
 ·cases pend[j]? <;> rfl
 ·rfl
theorem nA.size(h:nA rk pend l rest):pend.size+rest.length≤l.length:=by
 obtain⟨Rs,rfl,m,hR⟩:=h;have e:pend.size=Rs.length:=by
  have:=congrArg List.length m;rwa [hJ,eE,yL]at this
 rw [fG,e];have:∀Rs:List (List Keyed),(∀R∈Rs,0<R.length∧bM rk R)→Rs.length≤Rs.flatten.length:=by
  intro Rs
  induction Rs with
  | nil=>intro _;simp
  | cons R Rs ih =>
   intro h;have h1:=ih fun S hS=>h S (fC _ hS);have h2:=(h R (by simp)).1;rw [eU,Ei,fG];omega
 have:=this Rs hR;omega
theorem nA.done(h:nA rk pend l [])(h1:pend.size≤1):bM rk l:=by
 obtain⟨Rs,rfl,m,hR⟩:=h;have e:pend.size=Rs.length:=by
  have:=congrArg List.length m;rwa [hJ,eE,yL]at this
 rw [nR]
 match Rs,hR with
 | [],_=>simp
 | [R],hR=>simpa using(hR R (by simp)).2
 | _::_::_,_=>simp only [eU]at e;omega
theorem TX{β:Type}{l:List β}{i:Nat}(h:i+1<l.length):∃l1 x y l2,l=l1++x::y::l2∧l1.length=i :=
 ⟨l.take i,l[i],l[i+1],l.drop (i+2),by rw [← kZ,← kZ,oY],by rw [qK];omega⟩
variable{M:Model}{A:Around}{E:Value→Shared→Prop}{s:Shared}{kd:SortKind}{P:Keyed→Prop}
structure Go(rk:Keyed→Int)(kd:SortKind)(x0:Array Keyed)(rest:List Keyed)(st:SortSt):Prop where
 kind:kindOf st=kd
 failed:failedOf st=none
 perm:(arrOf st).Perm x0
 FJ:nA rk (pendingOf st) (arrOf st).toList rest
theorem SH(hL:dR M A E s kd P rk){x0:Array Keyed}(hP:∀x∈x0.toList,P x){st:SortSt}(h:Go rk kd x0 rest st){i:Nat}(hi:i+1<(pendingOf st).size){Q:Bool→SortSt→Prop}
  (hq:∀aE,Go rk kd x0 rest aE→(pendingOf aE).size+1=(pendingOf st).size→Q true aE):wpS M A E s (mergeAt' i) Q st:=by
 obtain⟨hk,hf,hp,Rs,e,m,hR⟩:=h;have el:(pendingOf st).size=Rs.length:=by
  have:=congrArg List.length m;rwa [hJ,eE,yL]at this
 obtain⟨R1,RA,RB,R2,rfl,l1⟩:=TX (show i+1<Rs.length by omega);obtain⟨q1,x,y,q2,ep,lq⟩:=TX (show i+1<(pendingOf st).toList.length by rw [eE];omega);rw [ep,mF,CN,xC]at m;have m':=List.append_inj m (by rw [hJ,yL];omega);obtain⟨m1,m2⟩:=m';simp only [gM,starts,BB]at m2;obtain⟨mx,my,m3⟩:=m2;obtain⟨x1,x2,x3⟩:=x;obtain⟨y1,y2,y3⟩:=y;simp only [QR]at mx my;obtain⟨rfl,rfl⟩:=mx;obtain⟨rfl,rfl⟩:=my;have px:(pendingOf st)[i]? = some (R1.flatten.length,RA.length,x3):=by
  rw [← jA,ep,kY (by omega),show i - q1.length=0 by omega];rfl
 have py:(pendingOf st)[i+1]? = some (R1.flatten.length+RA.length,RB.length,y3):=by
  rw [← jA,ep,kY (by omega),show i+1 - q1.length=1 by omega];rfl
 have hA:=hR RA (by simp);have hB:=hR RB (by simp);refine Fp hL hk hf (pre:=R1.flatten) (RA:=RA) (RB:=RB) (post:=R2.flatten++rest) (by rw [e];simp) (fun z hz=>hP z ((vJ.mp hp).mem_iff.mp hz)) px py hA.2 hB.2 hA.1 hB.1 fun aE C k' f' p' a' c1 c2=>?_;have lC:C.length=RA.length+RB.length:=by rw [c1.length_eq,fG]
 have wM:(pendingOf aE).toList=q1++(R1.flatten.length,RA.length+RB.length,x3)::q2:=by
  rw [p',Array.toList_eraseIdxIfInBounds,Array.toList_setIfInBounds,ep,← lq];simp [List.eraseIdx_append_of_length_le]
 refine hq aE ⟨k',f',?_,R1++C::R2,?_,?_,fun R Xz=>?_⟩ ?_
 ·refine Array.Perm.trans ?_ hp;rw [vJ,a',e];simp only [List.flatten_append,Ei,eW];refine xK _ ?_;rw [← eW RA RB];exact c1.append_right _
 ·rw [a'];simp
 ·rw [wM,mF,CN,m1,gM,m3,starts,lC,xC,Nat.add_assoc]
 ·rcases eK.mp Xz with r | r
  ·exact hR R (jM _ r)
  ·rcases gD.mp r with r | r
   ·subst r;exact⟨by omega,c2⟩
   ·exact hR R (by simp [r])
 ·rw [← eE,wM,← eE,ep];simp;omega
end
section
variable{M:Model}{A:Around}{E:Value→Shared→Prop}{s:Shared}{kd:SortKind}{P:Keyed→Prop}{rk:Keyed→Int}
theorem Up.Ls{xs:Array Keyed}{lo n:Nat}(h:Up rk xs lo n)(hn:lo+n≤xs.size):bM rk ((xs.toList.drop lo).take n):=by
 refine List.pairwise_iff_getElem.mpr fun i j hi hj dE=>?_;rw [qK,uZ,eE]at hi hj;have q:=h i j (by omega) (by omega);have g:∀k (hk:lo+k<xs.size),Kr rk xs (lo+k)=rk xs[lo+k]:=fun k hk=>by unfold Kr;rw [getElem?_pos xs (lo+k) hk]
 rw [g i (by omega),g j (by omega)]at q;rw [List.getElem_take,List.getElem_take,RE,RE];exact q
theorem Go.made{x0:Array Keyed}{rest:List Keyed}{st eM:SortSt}(h:Go rk kd x0 rest st){lo n:Nat}(eP:lo+rest.length=(arrOf st).size)(hB:Bs kd (arrOf st) lo (pendingOf st) eM)(hn:lo+n≤(arrOf st).size)(hu:Up rk (arrOf eM) lo n) :
  ∃R oE,Go rk kd x0 (R++oE) eM∧R.length=n∧bM rk R∧lo+n+oE.length=(arrOf st).size:=by
 obtain⟨hk,hf,hp,Rs,e,m,hR⟩:=h;have sz:=hB.size;have lf:Rs.flatten.length=lo:=by
  have:=congrArg List.length e;rw [eE,fG]at this;omega
 have e2:(arrOf eM).toList.take lo=Rs.flatten:=by
  refine Ek fun i=>?_
  by_cases hi:i<lo
  ·rw [List.getElem?_take_of_lt hi,jA,hB.pre i hi,← jA,e,gO (by omega)]
  ·rw [Ef (by rw [qK];omega),Ef (by omega)]
 refine⟨((arrOf eM).toList.drop lo).take n,((arrOf eM).toList.drop lo).drop n,⟨hB.kind,hB.failed,hB.perm.trans hp,Rs,?_,by rw [hB.pend];exact m,hR⟩,?_,hu.Ls (by omega),?_⟩
 ·rw [oY,← e2,oY]
 ·rw [qK,uZ,eE];omega
 ·rw [uZ,uZ,eE];omega
theorem Go.VH{x0:Array Keyed}{rest yP:List Keyed}{st:SortSt}(h:Go rk kd x0 rest st){p:Array (Nat×Nat×Nat)}(hc:nA rk p (arrOf st).toList yP):Go rk kd x0 yP (setPending st p):=⟨h.kind,h.failed,h.perm,hc⟩
theorem Go.bs{x0:Array Keyed}{rest:List Keyed}{st:SortSt}(h:Go rk kd x0 rest st)(lo:Nat):Bs kd (arrOf st) lo (pendingOf st) st:=⟨h.kind,h.failed,rfl,.refl _,fun _ _=>rfl⟩
theorem Fj(hL:dR M A E s kd P rk){x0:Array Keyed}(hP:∀x∈x0.toList,P x){st:SortSt}(hk:kindOf st=kd)(hf:failedOf st=none)(ha:arrOf st=x0)(hp:pendingOf st = #[]){Q:Unit→SortSt→Prop}
  (h:∀aE,(arrOf aE).Perm x0→failedOf aE=none→bM rk (arrOf aE).toList→Q () aE):wpS M A E s sortRuns' Q st:=by
 have g0:Go rk kd x0 x0.toList st:=⟨hk,hf,by rw [ha],[],by rw [ha];rfl,by rw [hp];rfl,by simp⟩;rw [sortRuns'_eq];refine aQ (pD ?_);dsimp only;rw [ha];generalize minRun' x0.size x0.size 0=yX;refine aQ (iQ (jQ
  (I:=fun i c aE=>∃lo rest,c=(none,lo)∧i≤lo∧lo+rest.length=x0.size∧Go rk kd x0 rest aE)
  (Q:=fun c aE=>c.1=none∧Go rk kd x0 [] aE) ?step ?fin ⟨0,x0.toList,rfl,iM _,by simp,g0⟩) ?post)
 case fin =>
  rintro c aE ⟨lo,rest,rfl,h1,h2,g⟩;have:rest=[]:=vA (by omega);subst this;exact⟨rfl,g⟩
 case step =>
  rintro i c aE _ hi ⟨lo,rest,rfl,h1,h2,g⟩;have cS:(arrOf aE).size=x0.size:=g.perm.size_eq;refine cZ (fun cU=>?_) (fun cU=>?_)
  ·have cU:lo≥x0.size:=cU;have:rest=[]:=vA (by omega);subst this;exact bH ⟨rfl,g⟩
  have cU:¬lo≥x0.size:=cU;have ZU:∀x∈(arrOf aE).toList,P x:=fun x hx=>hP x ((vJ.mp g.perm).mem_iff.mp hx);refine aQ (Fm hL ZU (lo:=lo) (nrem:=x0.size - lo) (by omega) (by omega) (g.bs lo) fun n eM hB tT zP hu=>?_);refine cZ (fun aZ=>?a) (fun aZ=>?b)
  case' a =>
   have aZ:n<yX:=aZ;refine aQ (wpS_lift (xT ⟨rfl,?_⟩));refine aQ (Gb hL ZU (lo:=lo) (n:=min (x0.size - lo) yX) (by omega) (by omega) hB hu fun jC Yj YM=>?_);refine cZ (fun q=>absurd q (by decide)) (fun _=>?_);have Vo:1≤min (x0.size - lo) yX:=by omega
   have Vn:min (x0.size - lo) yX≤x0.size - lo:=by omega
   dsimp only;generalize min (x0.size - lo) yX=n2 at Vo Vn YM ⊢;obtain⟨R,oE,g2,lR,sR,nJ⟩:=g.made (by omega) Yj (by omega) YM
  case' b =>
   dsimp only;obtain⟨R,oE,g2,lR,sR,nJ⟩:=g.made (by omega) hB (by omega) hu
  all_goals
   refine aQ (pD ?_);generalize Tj:R.length=rl at lR;subst lR;have fin:∀jC,Go rk kd x0 (R++oE) jC→Go rk kd x0 oE (setPending jC ((pendingOf jC).push (lo,rl,0))):=fun jC g3=>g3.VH (by
    rw [← Tj];exact g3.FJ.push (by omega) sR (by have:=g3.perm.size_eq;have e:=eE (xs:=arrOf jC);omega))
   have last:∀jC,Go rk kd x0 (R++oE) jC→∃JZ yP,((none,lo+rl):Option Unit×Nat)=(none,JZ)∧i+1≤JZ∧JZ+yP.length=x0.size∧Go rk kd x0 yP (setPending jC ((pendingOf jC).push (lo,rl,0))):=fun jC g3=>⟨lo+rl,oE,rfl,by omega,by omega,fin jC g3⟩
   split
   ·rename_i s1 n1 q1 _;generalize power' x0.size (2*s1+n1) (2*s1+n1+n1+rl) x0.size=pw;refine aQ (iQ (jQ (I:=fun _ c aE=>c=(none,())∧Go rk kd x0 (R++oE) aE) (Q:=fun c aE=>c=(none,())∧Go rk kd x0 (R++oE) aE) ?istep (fun _ _ hh=>hh) ⟨rfl,g2⟩) ?ipost)
    case istep =>
     rintro j c IF _ _ ⟨rfl,g4⟩;refine aQ (pD ?_)
     by_cases hs:(pendingOf IF).size>1
     ·rw [if_pos hs,lW _ _ (by omega)];refine cZ (fun _=>bH ⟨rfl,g4⟩) (fun _=>?_);refine aQ (SH hL hP g4 (by omega) fun sZ g5 _=>?_);exact cZ (fun q=>absurd q (by decide)) (fun _=>bH ⟨rfl,g5⟩)
     ·rw [if_neg hs];exact bH ⟨rfl,g4⟩
    case ipost =>
     rintro c IF ⟨rfl,g4⟩;have g5:=g4.VH (g4.FJ.last (pw:=pw) (i:=(pendingOf IF).size - 1));refine aQ (vK (aQ (vK (bH ?_))));exact last _ g5
   ·exact aQ (vK (bH (last _ g2)))
 case post =>
  rintro⟨r,lo⟩ aE ⟨e,g⟩;dsimp only at e;subst e;have cS:(arrOf aE).size=x0.size:=g.perm.size_eq;have hc:=g.FJ.size;have e:=eE (xs:=arrOf aE);rw [AZ]at hc;refine aQ (iQ (jQ (I:=fun t c eN=>c=(none,())∧Go rk kd x0 [] eN∧(pendingOf eN).size+t≤x0.size+1) (Q:=fun c eN=>c=(none,())∧Go rk kd x0 [] eN∧(pendingOf eN).size≤1) ?s2 ?f2 ⟨rfl,g,by omega⟩) ?p2)
  case f2 =>
   rintro c eM ⟨e,g2,h2⟩;exact⟨e,g2,by omega⟩
  case p2 =>
   rintro c eM ⟨rfl,g2,h2⟩;exact bH (h eM g2.perm g2.failed (g2.FJ.done h2))
  case s2 =>
   rintro t c eM _ _ ⟨rfl,g2,h2⟩;refine aQ (pD (cZ (fun h1=>bH ⟨rfl,g2,h1⟩) (fun h1=>?_)));refine aQ (SH hL hP g2 ?_ fun jC g3 h3=>?_)
   ·generalize Option.any _ _=cc;cases cc <;> simp only [eB,cR,cK] <;> omega
   ·exact cZ (fun q=>absurd q (by decide)) (fun _=>bH ⟨rfl,g3,by omega⟩)
end
end PyProof.Rows
namespace M
open PySem V2
@[simp] abbrev aW:=V2.eZ 0
@[simp] abbrev bL:=V2.eZ 1
@[simp] abbrev dA:=V2.eZ 2
@[simp] abbrev eY:=V2.eZ 3
@[simp] abbrev gE:=V2.eZ 4
@[simp] abbrev nB:=V2.eZ 5
@[simp] abbrev fJ:=V2.eZ 6
@[simp] abbrev nY:=V2.eZ 7
@[simp] abbrev vM:=V2.eZ 8
@[simp] abbrev BU:=V2.eZ 9
@[simp] abbrev acN:=V2.eZ 10
@[simp] abbrev SV:=V2.eZ 11
@[simp] abbrev HF:=V2.eZ 12
@[simp] abbrev acM:=V2.eZ 13
@[simp] abbrev acL:=V2.eZ 14
@[simp] abbrev acK:=V2.eZ 15
@[simp] abbrev acJ:=V2.eZ 16
@[simp] abbrev acI:=V2.eZ 17
@[simp] abbrev acH:=V2.eZ 18
@[simp] abbrev acG:=V2.eZ 19
@[simp] abbrev bQ:=V2.cI 0
@[simp] abbrev bD:=V2.cI 1
@[simp] abbrev jR:=V2.cI 2
@[simp] abbrev fK:=V2.cI 3
@[simp] abbrev xW:=V2.cI 4
@[simp] abbrev HG:=V2.cI 5
@[simp] abbrev Gg:=V2.cI 6
@[simp] abbrev nC:=V2.cI 7
@[simp] abbrev wC8:=V2.cI 8
@[simp] abbrev Gf:=V2.cI 9
@[simp] abbrev BV:=V2.cI 10
@[simp] abbrev acP:=V2.cI 11
@[simp] abbrev cE:=V2.OR false
@[simp] abbrev bX{α:Type}(a:α)(Ω:V2.aG):Option (V2.Rs α×V2.aG):=some (.ok a,Ω)
@[simp] abbrev mK(ρ:V2.Ev)(Ω:V2.aG):Option (V2.Out×V2.Ev×V2.aG):=some (.nx,ρ,Ω)
@[simp] abbrev aA(i:Int):Option V2.A:=some (.int i)
@[simp] abbrev bB(i:Nat):Option V2.A:=some (.aM i)
@[simp] abbrev cM(i:List V2.A):Option V2.A:=some (.lst i)
noncomputable section
def Co:MS :=
 (aX (bU (aD (fY) (aD (oR) (aD cE aW bD) (aD cE (cI 48271) (aD (oR) (cI 118) bL))) (cI 2147483629)) (gN 2))
  (dG (aD (fY) (aD cE (aD cE (aD (oR) (aD (pZ) dA (cI 977)) (cI 16807)) (aD (oR) dA (aD cE (aD (oR) bL bL) nC))) bL) (cI 2147483587))))
def vF:List A→Mo A:=eQ 3 Co
def wY:MS :=
 (aX (iA (cG (aD fZ bL bQ))
   (dG (aD (fY) aW nC))
   jT)
  (aX (iA (cG (aD fZ bL bD))
   (dG (aD (jG) (aD (fY) aW (cI 61)) (cI 30)))
   jT)
  (aX (iA (cG (aD fZ bL jR))
   (dG (aD (jG) (aD (fY) (aD (oR) aW (cI 982451653)) (aD cE (aD (oR) jR (aD (AB) BV (cI 18))) bD)) (aD (AB) BV (cI 18))))
   jT)
  (aX (iA (cG (aD fZ bL fK))
   (dG HG)
   jT)
  (dG (aD aR (fM false (aB (aD cE (aD (oR) aW (aD (AB) BV (cI 50))) nC) (aB (aD (jG) bQ (aD (oR) aW (aD (AB) BV (cI 50)))) (aB aW (aB (aD (jG) bQ aW) a0))))) (aD (fY) aW xW)))))))
def sN:List A→Mo A:=eQ 2 wY
def Ck:MS :=
 (dG (aD aR (fM false (aB bD (aB bD (aB (aD cE bD (aD (fY) (aD (pZ) aW xW) Gf)) (aB (aD cE bD (aD (fY) (aD (pZ) aW xW) (cI 1000000))) a0))))) (aD (fY) aW xW)))
def GQ:List A→Mo A:=eQ 1 Ck
def FU:MS :=
 (aX (iA (mI (cG (aU uI (aB eY (aB (cT "tuple") a0)))))
    (dG (cB false))
    jT)
   (bU (aD cE dA (aU (AD false) (aB eY a0))) (gN 2)))
def QE:MS :=
 (iA (nF (mI (cG (aU uI (aB gE (aB (cT "int") a0))))) (cG (aU uI (aB gE (aB (cT "bool") a0)))))
    (dG (cB false))
    jT)
def Cn:MS :=
 (aX (iA (nF (mI (cG (aU uI (aB aW (aB (cT "tuple") a0))))) (nF (cG (aD oQ (aU kB (aB aW a0)) xW)) (mI (cG (aU uI (aB (aD aR aW fK) (aB (cT "list") a0)))))))
   (dG (cB false))
   jT)
  (aX (bU (aU (AD false) (aB (yC false aW CS (yD fK)) a0)) (gN 2))
  (aX (oC (mH (aD aR aW fK)) (gN 3) FU)
  (aX (oC (mH dA) (gN 4) QE)
  (dG (aD fZ aW bL))))))
def BO:List A→Mo A:=eQ 5 Cn
def AN:MS :=
 (aX (bU bQ (gN 2))
  (aX (iA (cG (aD uH bL (aU kB (aB aW a0))))
   (bU (aD (fY) (aD aR aW bL) (cI 2147483647)) (gN 2))
   jT)
  (dG (aU (bY 2 vF) (aB dA (aB (aD cE bL (cI 101)) a0))))))
def jO:List A→Mo A:=eQ 3 AN
def Cj:MS :=
 (dG (hW (aB bQ (aB bQ (aB bQ (aB (fM false a0) a0))))))
def BM:List A→Mo A:=eQ 0 Cj
def FP:MS :=
 (aX (iA (cG (aD fZ bL (aU kB (aB aW a0))))
   (dG (cB false))
   jT)
  (dG (TN (aD fZ eY (aU kB (aB dA a0))) (aD EV (aD aR (aD aR aW bL) bQ) (aD aR (aD aR dA eY) bQ)))))
def xN:List A→Mo A:=eQ 4 FP
def AM:MS :=
 (aX (bU (aD aR aW fK) (gN 2))
  (aX (bU (HM (cG (aD AE bL bQ)) (aD aR (aD aR dA (aD (jG) bL bD)) bD) bQ) (gN 3))
  (aX (bU (HM (cG (aD uH bL (aU kB (aB dA a0)))) (aD (jG) (aD aR (aD aR dA bL) jR) bD) (aD aR aW bQ)) (gN 4))
  (dG (hW (aB eY (aB gE a0)))))))
def vE:List A→Mo A:=eQ 5 AM
def Cf:MS :=
 (aX (bU (aU (bY 2 vE) (aB bL (aB dA a0))) (gN 3))
  (dG (hW (aB (aD aR aW bQ) (aB (aD cE (aD aR aW bD) (aD aR eY bQ)) (aB (aD cE (aD aR aW jR) (aD aR eY bD)) a0))))))
def BL:List A→Mo A:=eQ 4 Cf
def wV:MS :=
 (iA (cG (aU (bY 4 xN) (aB (aD aR aW fK) (aB eY (aB (aD aR bL fK) (aB gE a0))))))
    (aX (oD (lL oU dA (aB (aU (bY 3 BL) (aB (aD aR (aD aR aW fK) eY) (aB bL (aB gE a0)))) a0)))
    (bU (aD cE eY bD) (gN 3)))
    (aX (oD (lL oU dA (aB (aU (bY 3 BL) (aB (aD aR (aD aR bL fK) gE) (aB aW (aB eY a0)))) a0)))
    (bU (aD cE gE bD) (gN 4))))
def uP:Ev→Mo Bool :=
 (nF (cG (aD uH eY (aU kB (aB (aD aR aW fK) a0)))) (cG (aD uH gE (aU kB (aB (aD aR bL fK) a0)))))
def Cg:MS :=
 (aX (bU (fM true a0) (gN 2))
  (aX (bU bQ (gN 3))
  (aX (bU bQ (gN 4))
  (aX (fun ρ Ω=>gY uP wV ((fun _ _=>1000000) ρ Ω) ρ Ω)
  (dG (CD 2))))))
def GO:List A→Mo A:=eQ 5 Cg
def Ci:MS :=
 (aX (bU (aD cE (aD aR aW bQ) (aD aR bL bQ)) (gN 2))
  (aX (bU (aD cE (aD aR aW bD) (aD aR bL bD)) (gN 3))
  (aX (bU (aU rT (aB (aD aR aW jR) (aB (aD aR bL jR) a0))) (gN 4))
  (dG (hW (aB dA (aB eY (aB gE (aB (aU (bY 2 GO) (aB aW (aB bL a0))) a0)))))))))
def GP:List A→Mo A:=eQ 5 Ci
end
end M
namespace V2
open PySem L2
@[simp] theorem Ak(neg:Bool)(i j:Int)(Ω:aG):oS neg (.int i) (.int j) Ω=some (.ok (.bl (if neg then !(i == j)else i == j)),Ω):=by
 simp [oS,res,bR,fQ]
@[simp] theorem aeL(i j:Int)(Ω:aG):fZ (.int i) (.int j) Ω=some (.ok (.bl (i == j)),Ω):=Ak false i j Ω
@[simp] theorem aeK(i j:Int)(Ω:aG):oQ (.int i) (.int j) Ω=some (.ok (.bl (!(i == j))),Ω):=Ak true i j Ω
theorem wR{i j:Int}(h0 : -18446744073709551616<i)(h1:i<18446744073709551616):kJ i j := .inl ⟨h0,h1⟩
theorem aaQ{i j:Int}(h0 : -18446744073709551616<j)(h1:j<18446744073709551616):kJ i j := .inr ⟨h0,h1⟩
@[simp] theorem aeT{α:Type}(x:α)(l:List α):bZ (x::l) 0=some x:=abG _
@[simp] theorem aeS{α:Type}(x y:α)(l:List α):bZ (x::y::l) 1=some y:=abI _
@[simp] theorem aeR{α:Type}(x y z:α)(l:List α):bZ (x::y::z::l) 2=some z:=Cu _ 2
@[simp] theorem aeQ{α:Type}(x y z u:α)(l:List α):bZ (x::y::z::u::l) 3=some u:=Cu _ 3
end V2
namespace M
open PySem L2 V2
def mQ(c k:Int):Int :=
 ((c+1)*(48271+118*k)%2147483629/977*16807+(c+1)*(48271+118*k)%2147483629*(k*k+7)+k)%2147483587
theorem vY(c k:Int):0≤mQ c k:=BG _ (by decide)
theorem JR(c k:Int):mQ c k<2147483587:=BH _ (by decide)
theorem uX(c k:Int)(Ω:aG)(hc:0≤c)(Wt:c<8589934592)(hk:0≤k)(dW:k<1048576):vF [.int c,.int k] Ω=bX (.int (mQ c k)) Ω:=by
 have f0:=BG ((c+1)*(48271+118*k)) (show(2147483629:Int)≠0 by decide);have f1:=BH ((c+1)*(48271+118*k)) (show(0:Int)<2147483629 by decide);have h1:kJ (c+1) (48271+118*k):=wR (by omega) (by omega);have h2:kJ k k:=wR (by omega) (by omega);have h3:∀j,kJ ((c+1)*(48271+118*k)%2147483629) j:=fun j=>wR (by omega) (by omega);have h4:∀j,kJ j 16807:=fun j=>aaQ (by decide) (by decide);have h5:∀j,kJ 118 j:=fun j=>wR (by decide) (by decide);have h6:∀j,nW j 977:=fun j=>⟨by decide,by decide⟩
 simp [vF,Co,h1,h2,h3,h4,h5,h6,mQ]
def lY(ns:List Int)(k:Int):Int:=mQ (if k<ns.length then ns[k.toNat]?.getD 0%2147483647 else 0) (k+101)
theorem PU(ns:List Int)(k:Int):0≤lY ns k:=vY _ _
theorem PR(ns:List Int)(k:Int):lY ns k<2147483587:=JR _ _
theorem ab2(ns:List Int)(k:Int)(Ω:aG)(hk:0≤k)(dW:k<1000000):jO [.eO ns,.int k] Ω=bX (.int (lY ns k)) Ω:=by
 by_cases h:k<(ns.length:Int)
 ·obtain⟨n,rfl⟩:=Int.eq_ofNat_of_zero_le hk;have hn:n<ns.length:=by omega
  have e:bZ (ns.map A.int) (n:Int)=(aA (ns[n])):=by rw [uR];simp [hn]
  have f0:=BG ns[n] (show(2147483647:Int)≠0 by decide);have f1:=BH ns[n] (show(0:Int)<2147483647 by decide);have m:=fun Ω=>uX (ns[n]%2147483647) (n+101) Ω f0 (by omega) (by omega) (by omega);simp [jO,AN,h,e,m,lY,hn]
 ·have m:=fun Ω=>uX 0 (k+101) Ω (by decide) (by decide) (by omega) (by omega);simp [jO,AN,h,m,lY]
def tJ(c kind:Int):Int :=
 if kind=0 then c%7 else if kind=1 then c%61 - 30 else if kind=2 then c*982451653%(2*10 ^ 18+1) - 10 ^ 18 else if kind=3 then 5
 else if c%4=0 then c*10 ^ 50+7 else if c%4=1 then 0 - c*10 ^ 50 else if c%4=2 then c else 0 - c
theorem abW(c kind:Int)(Ω:aG)(hc:0≤c)(Wt:c<8589934592):sN [.int c,.int kind] Ω=bX (.int (tJ c kind)) Ω:=by
 have h1:∀j,kJ c j:=fun j=>wR (by omega) (by omega);have h2:∀j,kJ 2 j:=fun j=>wR (by decide) (by decide);have h3:xQ 10 18:=⟨by decide,by decide,by decide⟩;have h4:xQ 10 50:=⟨by decide,by decide,by decide⟩;have hs:(4:Nat)≤sizeLine:=by decide
 by_cases k0:kind=0
 ·simp [sN,wY,k0,tJ]
 by_cases k1:kind=1
 ·simp [sN,wY,k1,tJ]
 by_cases k2:kind=2
 ·simp [sN,wY,k2,tJ,h1,h2,h3]
 by_cases k3:kind=3
 ·simp [sN,wY,k3,tJ]
 have hm:c%4=0∨c%4=1∨c%4=2∨c%4=3:=by omega
 rcases hm with e | e | e | e <;> simp [sN,wY,k0,k1,k2,k3,e,tJ,h1,h4,hs]
def sV(c:Int):Int:=if c%4=0 then 1 else if c%4=1 then 1 else if c%4=2 then 1+c/4%9 else 1+c/4%1000000
theorem Hj(c:Int)(h:0≤c):1≤sV c:=by unfold sV;split <;> (try split) <;> (try split) <;> omega
theorem Hi(c:Int)(h:0≤c):sV c≤1000000:=by unfold sV;split <;> (try split) <;> (try split) <;> omega
theorem abU(c:Int)(Ω:aG)(hc:0≤c):GQ [.int c] Ω=bX (.int (sV c)) Ω:=by
 have h1:∀j,nW j 4:=fun j=>⟨by decide,by decide⟩
 have hs:(4:Nat)≤sizeLine:=by decide
 have hm:c%4=0∨c%4=1∨c%4=2∨c%4=3:=by omega
 rcases hm with e | e | e | e <;> simp [GQ,Ck,e,sV,h1,hs]
end M
namespace V2
open PySem L2
theorem OY{f:A→A→Bool}:∀(xs:List A),(∀x∈xs,f x x=true)→rY f xs xs=true
 | [],_=>rfl
 | x::xs,h=>by simp only [rY,h x lQ,Bool.true_and];exact OY xs fun y hy=>h y (fC _ hy)
theorem Ay:∀(n:Nat) (a:A),bR n a=true→fQ n a a=true:=by
 intro n
 induction n with
 | zero=>intro a h;cases a <;> first | (simp [fQ];done) | (simp [bR]at h)
 | succ n ih =>
  intro a h;cases a with
  | tup ds=>simp only [bR,BC]at h;simp only [fQ];exact OY ds fun x hx=>ih x (h x hx)
  | lst ds=>simp only [bR,BC]at h;simp only [fQ];exact OY ds fun x hx=>ih x (h x hx)
  | int i=>simp [fQ]
  | bl i=>simp [fQ]
  | str i=>simp [fQ]
  | bS=>simp [fQ]
  | _=>simp [bR]at h
theorem mP{Ω:aG}{n:Nat}{a:A}(h:bR 8 a=true):res Ω n a=some a:=by
 cases n <;> simp [res,h]
theorem Yw{a b c:A}{Ω:aG}(ha:res Ω 6 a=some c)(hb:res Ω 6 b=some c)(hc:bR 8 c=true):fZ a b Ω=some (.ok (.bl true),Ω):=by
 simp [fZ,oS,ha,hb,hc,Ay 8 c hc]
theorem VV{Ω:aG}{n:Nat}{ds:List A}(h:bR 8 (.tup ds)=false):res Ω (n+1) (.tup ds)=(jW (res Ω n) ds).map .tup:=by
 rw [res,if_neg (by rw [h];simp)]
theorem Np{Ω:aG}{n:Nat}{ds:List A}(h:bR 8 (.lst ds)=false):res Ω (n+1) (.lst ds)=(jW (res Ω n) ds).map .lst:=by
 rw [res,if_neg (by rw [h];simp)]
theorem VY{Ω:aG}{n k:Nat}{ds:List A}(h:Ω[k]? = some (.lst ds)):res Ω (n+1) (.aM k)=(jW (res Ω n) ds).map .lst:=by
 rw [res,if_neg (by simp [bR])];simp [h]
theorem JS{Ω:aG}{n:Nat}:∀(ds:List A),ds.all (bR 8)=true→jW (res Ω n) ds=some ds
 | [],_=>rfl
 | d::ds,h=>by
  simp only [List.all_cons,jP]at h;simp [jW,mP h.1,JS ds h.2]
abbrev E:=Int×Int×Int
def bK(e:E):A := .tup [.int e.1,.int e.2.1,.int e.2.2]
def encL(es:List E):List A:=es.map bK
@[simp] theorem vV(n:Nat)(i:Int):bR n (.int i)=true:=by cases n <;> rfl
theorem JF(n:Nat)(ds:List A):bR (n+1) (.tup ds)=ds.all (bR n):=rfl
theorem JG(n:Nat)(ds:List A):bR (n+1) (.lst ds)=ds.all (bR n):=rfl
@[simp] theorem ac9(n:Nat)(e:E):bR (n+1) (bK e)=true:=by simp [bK,JF]
@[simp] theorem JI(n:Nat)(es:List E):(encL es).all (bR (n+1))=true:=by simp [encL]
def aT(s l d:Int)(es:List E):A := .tup [.int s,.int l,.int d,.lst (encL es)]
@[simp] theorem JH(s l d:Int)(es:List E):bR 8 (aT s l d es)=true:=by simp [aT,JF,JG]
@[simp] theorem adS(es:List E):(encL es).length=es.length:=by simp [encL]
end V2
namespace M
open PySem L2 V2
theorem VQ{Ω:aG}{ok:aG→Prop}(aK:ok Ω)(f d h:Option A):∀(es:List E) (acc:List Int) (x:Option A),acc.length+3*es.length≤1000000 →
  ∃x',dC ok (gN 3) FU (encL es) [f,d,cM (acc.map .int),x,h] Ω=mK [f,d,cM ((acc++es.flatMap fun e=>[e.1,e.2.1,e.2.2]).map .int),x',h] Ω
 | [],acc,x,_=>⟨x,by simp [dC,encL,aK]⟩
 | e::es,acc,x,hl=>by
  simp only [eU]at hl;have hz:¬(sizeLine<acc.length+3):=by rw [jS];omega
  obtain⟨x',ih⟩:=VQ aK f d h es (acc++[e.1,e.2.1,e.2.2]) (some (bK e)) (by simp;omega);refine⟨x',?_⟩;show dC ok (gN 3) FU (bK e::encL es) _ Ω=_;rw [wL aK rfl (ρ1:=[f,d,cM ((acc++[e.1,e.2.1,e.2.2]).map .int),some (bK e),h]) (Ω1:=Ω) (by simp [FU,bK,hz]),ih];simp
theorem VP{Ω:aG}{ok:aG→Prop}(aK:ok Ω)(f d h k:Option A):∀(ns:List Int) (x:Option A),∃x',dC ok (gN 4) QE (ns.map .int) [f,d,h,k,x] Ω=mK [f,d,h,k,x'] Ω
 | [],x=>⟨x,by simp [dC,aK]⟩
 | n::ns,x=>by
  obtain⟨x',ih⟩:=VP aK f d h k ns (aA n);refine⟨x',?_⟩;rw [gM,wL aK rfl (ρ1:=[f,d,h,k,aA n]) (Ω1:=Ω) (by simp [QE]),ih]
theorem abV{Ω:aG}{s l d:Int}{e FF:A}{es:List E}{b:Bool}(hs:fA Ω e=some (encL es))(ht:iT Ω e=some "list")(hz:es.length≤100000)(hq:fZ (.tup [.int s,.int l,.int d,e]) FF Ω=bX (.bl b) Ω) :
  BO [.tup [.int s,.int l,.int d,e],FF] Ω=bX (.bl b) Ω:=by
 have h3:HT.bC 4 0 none=0:=rfl;have h4:HT.bC 4 4 (some 3)=3:=by decide
 obtain⟨x1,q1⟩:=VQ (Ω:=Ω) (ok:=fun Ω=>fA Ω e=some (encL es)) hs (some (.tup [.int s,.int l,.int d,e])) (some FF) none es [s,l,d] none (by simp;omega);obtain⟨x2,q2⟩:=VP (Ω:=Ω) (ok:=fun _=>True) trivial (some (.tup [.int s,.int l,.int d,e])) (some FF) (some (.lst (([s,l,d]++es.flatMap fun e=>[e.1,e.2.1,e.2.2]).map .int))) x1 ([s,l,d]++es.flatMap fun e=>[e.1,e.2.1,e.2.2]) none;simp only [mF,gM,qJ,RH,xH]at q1 q2;simp [BO,Cn,hs,ht,qF,h3,h4,q1,q2,hq]
def lS(es:List E)(i:Nat):Int:=if i=0 then 0 else(es[i - 1]?.getD (0,0,0)).2.1
def mV(s:Int)(es:List E)(i:Nat):Int:=match es[i]? with
 | some e=>e.2.2 - 1
 | none=>s
theorem oV(es:List E)(i:Nat):(encL es)[i]? = es[i]?.map bK:=by simp [encL]
theorem qH{α:Type}(xs:List α)(i:Nat):bZ xs (i:Int)=xs[i]?:=uR xs i
theorem abH{α:Type}(xs:List α)(i:Nat)(h:0<i):bZ xs ((i:Int) - 1)=xs[i - 1]?:=by
 rw [show((i:Int) - 1)=((i - 1:Nat):Int)by omega];exact uR xs _
def mY(es fs:List E):Bool:=match es,fs with
 | [],_=>false
 | _::_,[]=>true
 | e::_,f::_=>decide (e.1≤f.1)
def dB(s t:Int):Nat→Int→Int→List E→List E→List E
 | 0,_,_,_,_=>[]
 | n+1,lo1,cN,es,fs=>match es,fs with
  | [],[]=>[]
  | e::iJ,[]=>(e.1,e.2.1+cN,e.2.2+t)::dB s t n e.2.1 cN iJ []
  | [],f::fO=>(f.1,f.2.1+lo1,f.2.2+s)::dB s t n lo1 f.2.1 [] fO
  | e::iJ,f::fO=>if e.1≤f.1 then(e.1,e.2.1+cN,e.2.2+(f.2.2 - 1))::dB s t n e.2.1 cN iJ (f::fO)else(f.1,f.2.1+lo1,f.2.2+(e.2.2 - 1))::dB s t n lo1 f.2.1 (e::iJ) fO
def kR(s t:Int)(es fs:List E):List E:=dB s t (es.length+fs.length) 0 0 es fs
theorem DV(es:List E)(i:Nat)(h:i<es.length):lS es (i+1)=es[i].2.1:=by simp [lS,h]
theorem ZD(s:Int)(es:List E)(i:Nat)(h:i<es.length):mV s es i=es[i].2.2 - 1:=by simp [mV,h]
theorem ZE(s:Int)(es:List E):mV s es es.length=s:=by simp [mV]
theorem acE(n:Nat)(e:E):Cl n (bK e):=by simp [bK,Cl,dP]
theorem RZ(n:Nat):∀(es:List E),dP n (encL es)
 | []=>by simp [encL,dP]
 | e::es=>by simp only [encL,gM,dP];exact⟨acE n e,RZ n es⟩
theorem acD(n:Nat)(s l d:Int)(es:List E):Cl n (aT s l d es):=by simp [aT,Cl,dP,RZ]
def kP(n t:Int):List E:=if t=1 then [(n,1,1)]else [(n,1,1),(n,t,t)]
def Ch(l s:Int):Int→Int→Option Int→List E→Prop
 | lo,hp,_,[]=>lo=s∧hp=s
 | lo,hp,pr,e::r=>(∀p,pr=some p→p≤e.1)∧(pr=some e.1∨e.2.2≤lo+l+1)∧lo<e.2.1∧hp<e.2.2∧e.2.1≤e.2.2∧e.2.2 - e.2.1≤l∧Ch l s e.2.1 e.2.2 (some e.1) r
def Aq(es:List E):Prop:=∀e r,es=e::r→e.2.1=1∧e.2.2=1
structure GF(s l d:Int)(es:List E):Prop where
 s0:0≤s
 l0:0≤l
 d0:0≤d
 fst:Aq es
 ch:Ch l s 0 0 none es
theorem Ch.bound{l s:Int}:∀{es:List E} {lo hp:Int} {pr:Option Int},Ch l s lo hp pr es→lo≤s∧hp≤s
 | [],_,_,_,h=>⟨RM h.1,RM h.2⟩
 | e::r,_,_,_,h=>by
  obtain⟨_,_,h3,h4,_,_,h7⟩:=h;have:=Ch.bound h7;omega
def dX(s:Int):List E→Int
 | []=>s
 | e::_=>e.2.2 - 1
theorem Ch.XY{l s lo hp:Int}{pr:Option Int}{es:List E}(h:Ch l s lo hp pr es):lo≤dX s es∧hp≤dX s es:=by
 cases es with
 | nil=>exact⟨RM h.1,RM h.2⟩
 | cons e r =>
  obtain⟨_,_,h3,h4,h5,_,_⟩:=h;show lo≤e.2.2 - 1∧hp≤e.2.2 - 1;omega
theorem rL(s:Int):dX s []=s:=rfl
theorem tX(s:Int)(e:E)(r:List E):dX s (e::r)=e.2.2 - 1:=rfl
def Last(p1 p2 P:Option Int)(kS lU NF mW HP:Int):Prop :=
 (P=p1∧HP=kS+mW∧(p1=none→p2=none)∧∀p q,p1=some p→p2=some q→q<p) ∨
 (P=p2∧HP=NF+lU∧p2≠none∧∀p q,p1=some p→p2=some q→p≤q)
theorem aaT{l1 l2 s t:Int}{lo1 cN kS lU HP:Int}{p1 p2 P:Option Int}{e:E}{es fs:List E}(h1:Ch l1 s lo1 kS p1 (e::es))(h2:Ch l2 t cN lU p2 fs)(zQ:0≤l1)(nJ:0≤l2)
  (S1:∀p f r,p1=some p→fs=f::r→p≤f.1) (S2:∀q,p2=some q→q<e.1) (L:Last p1 p2 P kS lU (dX s (e::es)) (dX t fs) HP) (hf:∀f r,fs=f::r→e.1≤f.1)
  (rest:Ch (l1+l2) (s+t) (e.2.1+cN) (e.2.2+dX t fs) (some e.1) R):Ch (l1+l2) (s+t) (lo1+cN) HP P ((e.1,e.2.1+cN,e.2.2+dX t fs)::R):=by
 obtain⟨a1,a2,a3,a4,a5,a6,a7⟩:=h1;obtain⟨b1,b2⟩:=h2.XY;have g2:dX t fs≤cN+l2:=by
  cases fs with
  | nil=>rw [rL];have:=h2.1;omega
  | cons f r =>
   obtain⟨_,c2,_⟩:=h2;rw [tX]
   rcases c2 with c2 | c2
   ·have:=S2 _ c2;have:=hf f r rfl;omega
   ·omega
 rw [tX]at L;refine⟨fun p hp=>?_,?_,by show lo1+cN<e.2.1+cN;omega,?_,by show e.2.1+cN≤e.2.2+dX t fs;omega,by show e.2.2+dX t fs - (e.2.1+cN)≤l1+l2;omega,rest⟩
 ·rcases L with⟨e1,_⟩ | ⟨e1,_⟩
  ·rw [e1]at hp;exact a1 p hp
  ·rw [e1]at hp;have:=S2 p hp;show p≤e.1;omega
 ·rcases a2 with a2 | a2
  ·left
   rcases L with⟨e1,_⟩ | ⟨e1,_,e3,e4⟩
   ·rw [e1];exact a2
   ·exfalso;cases h:p2 with
    | none=>exact e3 h
    | some q =>
     have:=e4 _ q a2 h;have:=S2 q h;omega
  ·right
   show e.2.2+dX t fs≤lo1+cN+(l1+l2)+1;omega
 ·show HP<e.2.2+dX t fs
  rcases L with⟨_,e2,_⟩ | ⟨_,e2,_⟩ <;> omega
theorem Bp{l1 l2 s t:Int}{lo1 cN kS lU HP:Int}{p1 p2 P:Option Int}{f:E}{es fs:List E}(h1:Ch l1 s lo1 kS p1 es)(h2:Ch l2 t cN lU p2 (f::fs))(zQ:0≤l1)(nJ:0≤l2)
  (S1:∀p,p1=some p→p≤f.1) (S2:∀q e r,p2=some q→es=e::r→q<e.1) (L:Last p1 p2 P kS lU (dX s es) (dX t (f::fs)) HP) (hf:∀e r,es=e::r→f.1<e.1)
  (rest:Ch (l1+l2) (s+t) (f.2.1+lo1) (f.2.2+dX s es) (some f.1) R):Ch (l1+l2) (s+t) (lo1+cN) HP P ((f.1,f.2.1+lo1,f.2.2+dX s es)::R):=by
 obtain⟨a1,a2,a3,a4,a5,a6,a7⟩:=h2;obtain⟨b1,b2⟩:=h1.XY;have g1:dX s es≤lo1+l1:=by
  cases es with
  | nil=>rw [rL];have:=h1.1;omega
  | cons e r =>
   obtain⟨_,c2,_⟩:=h1;rw [tX]
   rcases c2 with c2 | c2
   ·have:=S1 _ c2;have:=hf e r rfl;omega
   ·omega
 rw [tX]at L;refine⟨fun p hp=>?_,?_,by show lo1+cN<f.2.1+lo1;omega,?_,by show f.2.1+lo1≤f.2.2+dX s es;omega,by show f.2.2+dX s es - (f.2.1+lo1)≤l1+l2;omega,rest⟩
 ·rcases L with⟨e1,_⟩ | ⟨e1,_⟩
  ·rw [e1]at hp;exact S1 p hp
  ·rw [e1]at hp;exact a1 p hp
 ·rcases a2 with a2 | a2
  ·left
   rcases L with⟨e1,_,e3,e4⟩ | ⟨e1,_⟩
   ·exfalso;cases h:p1 with
    | none=>rw [e3 h]at a2;cases a2
    | some p =>
     have:=e4 p _ h a2;have:=S1 p h;omega
   ·rw [e1];exact a2
  ·right
   show f.2.2+dX s es≤lo1+cN+(l1+l2)+1;omega
 ·show HP<f.2.2+dX s es
  rcases L with⟨_,e2,_⟩ | ⟨_,e2,_⟩ <;> omega
theorem aaU{l1 l2 s t:Int}(zQ:0≤l1)(nJ:0≤l2):∀(n:Nat) (es fs:List E) (lo1 cN kS lU HP:Int) (p1 p2 P:Option Int),n=es.length+fs.length→Ch l1 s lo1 kS p1 es→Ch l2 t cN lU p2 fs →
  (∀p f r,p1=some p→fs=f::r→p≤f.1)→(∀q e r,p2=some q→es=e::r→q<e.1)→Last p1 p2 P kS lU (dX s es) (dX t fs) HP →
  Ch (l1+l2) (s+t) (lo1+cN) HP P (dB s t n lo1 cN es fs):=by
 intro n
 induction n with
 | zero =>
  intro es fs lo1 cN kS lU HP p1 p2 P hn h1 h2 S1 S2 L;have e1:es=[]:=vA (by omega);have e2:fs=[]:=vA (by omega);subst e1 e2;obtain⟨a1,a2⟩:=h1;obtain⟨b1,b2⟩:=h2;simp only [rL]at L;refine⟨by omega,?_⟩
  rcases L with⟨_,e2,_⟩ | ⟨_,e2,_⟩ <;> omega
 | succ n ih =>
  intro es fs lo1 cN kS lU HP p1 p2 P hn h1 h2 S1 S2 L;cases es with
  | nil =>
   cases fs with
   | nil=>simp at hn
   | cons f fs =>
    simp only [eU,AZ]at hn;have oP:=h2;obtain⟨c1,c2,c3,c4,c5,c6,c7⟩:=h2;have q:=ih [] fs lo1 f.2.1 kS f.2.2 (s+f.2.2) p1 (some f.1) (some f.1) (by simp;omega) h1 c7
     (fun p f' r hp he=>by
      subst he;have:=S1 p f _ hp rfl;have:=c7.1 _ rfl;omega) (fun q e r _ he=>by cases he)
     (.inr ⟨rfl,rfl,by simp,fun p q hp hq=>by cases hq;exact S1 p f _ hp rfl⟩)
    have:=Bp (es:=[]) h1 oP zQ nJ (fun p hp=>S1 p f _ hp rfl) (fun q e r _ he=>by cases he) L (fun e r he=>by cases he) (R:=dB s t n lo1 f.2.1 [] fs) (by
     rw [rL,RN f.2.1,RN f.2.2];exact q)
    simp only [dB];rw [rL]at this;exact this
  | cons e es =>
   have uD:=h1;obtain⟨d1,d2,d3,d4,d5,d6,d7⟩:=h1;have yK:(∀f r,fs=f::r→e.1≤f.1)→Ch (l1+l2) (s+t) (lo1+cN) HP P ((e.1,e.2.1+cN,e.2.2+dX t fs)::dB s t n e.2.1 cN es fs):=fun hf=>by
    have q:=ih es fs e.2.1 cN e.2.2 lU (e.2.2+dX t fs) (some e.1) p2 (some e.1) (by simp at hn ⊢;omega) d7 h2
     (fun p f' r hp he=>by cases hp;exact hf f' r he) (fun q e' r hq he=>by
      subst he;have:=S2 q e _ hq rfl;have:=d7.1 _ rfl;omega)
     (.inl ⟨rfl,rfl,by simp,fun p q hp hq=>by cases hp;exact S2 q e _ hq rfl⟩)
    exact aaT uD h2 zQ nJ S1 (fun q hq=>S2 q e _ hq rfl) L hf q
   cases fs with
   | nil =>
    have:=yK (fun f r he=>by cases he);simp only [dB];rw [rL]at this;exact this
   | cons f fs =>
    simp only [dB]
    by_cases hle:e.1≤f.1
    ·rw [if_pos hle];have:=yK (fun f' r he=>by cases he;exact hle);rw [tX]at this;exact this
    ·rw [if_neg hle];have oP:=h2;obtain⟨c1,c2,c3,c4,c5,c6,c7⟩:=h2;have q:=ih (e::es) fs lo1 f.2.1 kS f.2.2 (dX s (e::es)+f.2.2) p1 (some f.1) (some f.1) (by simp at hn ⊢;omega) uD c7
      (fun p f' r hp he=>by
       subst he;have:=S1 p f _ hp rfl;have:=c7.1 _ rfl;omega) (fun q e' r hq he=>by cases hq;cases he;omega)
      (.inr ⟨rfl,rfl,by simp,fun p q hp hq=>by cases hq;exact S1 p f _ hp rfl⟩)
     have:=Bp (es:=e::es) uD oP zQ nJ (fun p hp=>S1 p f _ hp rfl) (fun q e' r hq he=>S2 q e' r hq he) L (fun e' r he=>by cases he;omega) (R:=dB s t n lo1 f.2.1 (e::es) fs) (by
      rw [RN f.2.1,RN f.2.2];exact q)
     rw [tX]at this;exact this
theorem ZF{l s:Int}{es:List E}(h:Aq es)(c:Ch l s 0 0 none es):dX s es=0:=by
 cases es with
 | nil=>exact c.1.symm
 | cons e r=>rw [tX,(h e r rfl).2];rfl
theorem wH{s1 l1 d1 s2 l2 d2:Int}{es fs:List E}(h1:GF s1 l1 d1 es)(h2:GF s2 l2 d2 fs):GF (s1+s2) (l1+l2) (max d1 d2) (kR s1 s2 es fs):=by
 have e1:=ZF h1.fst h1.ch;have e2:=ZF h2.fst h2.ch;have q:=aaU h1.l0 h2.l0 (es.length+fs.length) es fs 0 0 0 0 0 none none none rfl h1.ch h2.ch (fun _ _ _ h=>by cases h) (fun _ _ _ h=>by cases h) (.inl ⟨rfl,by rw [e2];rfl,fun _=>rfl,fun _ _ h=>by cases h⟩);refine⟨by have:=h1.s0;have:=h2.s0;omega,by have:=h1.l0;have:=h2.l0;omega,by have:=h1.d0;omega,?_,q⟩;intro e r he;unfold kR at he;cases es with
 | nil =>
  cases fs with
  | nil=>simp [dB]at he
  | cons f fs =>
   rw [rL]at e1;simp only [AZ,eU,xC,dB,BB]at he;obtain⟨a,b⟩:=h2.fst f fs rfl;rw [← he.1];exact⟨by show f.2.1+0=1;omega,by show f.2.2+s1=1;omega⟩
 | cons x es =>
  obtain⟨a,b⟩:=h1.fst x es rfl;cases fs with
  | nil =>
   rw [rL]at e2;simp only [AZ,eU,Nat.add_zero,dB,BB]at he;rw [← he.1];exact⟨by show x.2.1+0=1;omega,by show x.2.2+s2=1;omega⟩
  | cons f fs =>
   obtain⟨a',b'⟩:=h2.fst f fs rfl;have el:(x::es).length+(f::fs).length=(es.length+(f::fs).length)+1:=by simp only [eU];omega
   rw [el]at he;simp only [dB]at he;split at he
   ·simp only [BB]at he;rw [← he.1];exact⟨by show x.2.1+0=1;omega,by show x.2.2+(f.2.2 - 1)=1;omega⟩
   ·simp only [BB]at he;rw [← he.1];exact⟨by show f.2.1+0=1;omega,by show f.2.2+(x.2.2 - 1)=1;omega⟩
def fE(l:Int)(k y:E):Bool:=decide (y.1=k.1)||decide (y.2.2≤k.2.1+l+1)
def hZ(l:Int):E→List E→List E
 | _,[]=>[]
 | k,x::r=>match r with
  | []=>[x]
  | y::_=>if fE l k y=true then hZ l k r else x::hZ l x r
def sW(l:Int):List E→List E
 | []=>[]
 | e::r=>e::hZ l e r
theorem CK(l:Int)(k x y:E)(r:List E):hZ l k (x::y::r)=if fE l k y=true then hZ l k (y::r)else x::hZ l x (y::r):=rfl
theorem rA(l:Int)(k y:E):fE l k y=true↔(y.1=k.1∨y.2.2≤k.2.1+l+1):=by simp [fE]
theorem PN{l0 l s:Int}(tU:l0≤l):∀(xs:List E) (k:E) (pz lz mz:Int),Ch l0 s lz mz (some pz) xs→k.1≤pz→k.2.1≤lz→k.2.2≤mz→(xs=[]→k.2.1=lz∧k.2.2=mz)→(∀x r,xs=x::r→fE l k x=true)→Ch l s k.2.1 k.2.2 (some k.1) (hZ l k xs)
 | [],k,pz,lz,mz,h,_,_,_,he,_=>by
  obtain⟨a,b⟩:=he rfl;exact⟨a.trans h.1,b.trans h.2⟩
 | [x],k,pz,lz,mz,h,h1,h2,h3,_,hn=>by
  obtain⟨a1,a2,a3,a4,a5,a6,a7⟩:=h;have n:=(rA l k x).mp (hn x [] rfl);have:=a1 pz rfl;refine⟨fun p hp=>(by cases hp;omega),?_,by omega,by omega,a5,by omega,a7⟩
  rcases n with n | n
  ·left;rw [n]
  ·right;exact n
 | x::y::r,k,pz,lz,mz,h,h1,h2,h3,_,hn=>by
  obtain⟨a1,a2,a3,a4,a5,a6,a7⟩:=h;have hx:=a1 pz rfl;rw [CK]
  by_cases hy:fE l k y=true
  ·rw [if_pos hy];exact PN tU (y::r) k x.1 x.2.1 x.2.2 a7 (by omega) (by omega) (by omega) (fun e=>by cases e) (fun x' r' e=>by cases e;exact hy)
  ·rw [if_neg hy];have n:=(rA l k x).mp (hn x _ rfl);have q:=PN tU (y::r) x x.1 x.2.1 x.2.2 a7 zJ zJ zJ (fun e=>by cases e) (fun x' r' e=>by
    cases e;rw [rA]
    rcases a7.2.1 with z | z
    ·left;exact(iL z).symm
    ·right;omega)
   refine⟨fun p hp=>(by cases hp;omega),?_,by omega,by omega,a5,by omega,q⟩
   rcases n with n | n
   ·left;rw [n]
   ·right;exact n
theorem Yo{s l d l':Int}{es:List E}(h:GF s l d es)(hl:l≤l'):GF s l' (d+1) (sW l' es):=by
 refine⟨h.s0,by have:=h.l0;omega,by have:=h.d0;omega,?_,?_⟩
 ·intro e r he;cases es with
  | nil=>cases he
  | cons x xs =>
   simp only [sW,BB]at he;rw [← he.1];exact h.fst x xs rfl
 ·cases es with
  | nil=>exact h.ch
  | cons x xs =>
   obtain⟨a1,a2,a3,a4,a5,a6,a7⟩:=h.ch;refine⟨a1,?_,a3,a4,a5,by omega,PN hl xs x x.1 x.2.1 x.2.2 a7 zJ zJ zJ (fun _=>⟨rfl,rfl⟩) (fun y r e=>?_)⟩
   ·rcases a2 with a2 | a2
    ·cases a2
    ·right;omega
   ·subst e;rw [rA]
    rcases a7.2.1 with z | z
    ·left;exact(iL z).symm
    ·right;omega
theorem Ab(n t:Int)(h:1≤t):GF t 0 0 (kP n t):=by
 unfold kP;split
 ·rename_i e;subst e;refine⟨by omega,by omega,by omega,fun e r he=>(by cases he;exact⟨rfl,rfl⟩),?_⟩;refine⟨fun p hp=>(by cases hp),.inr (by show(1:Int)≤0+0+1;omega),by show(0:Int)<1;omega,by show(0:Int)<1;omega,hU _,by show(1:Int) - 1≤0;omega,rfl,rfl⟩
 ·rename_i e;refine⟨by omega,by omega,by omega,fun e r he=>(by cases he;exact⟨rfl,rfl⟩),?_⟩;refine⟨fun p hp=>(by cases hp),.inr (by show(1:Int)≤0+0+1;omega),by show(0:Int)<1;omega,by show(0:Int)<1;omega,hU _,by show(1:Int) - 1≤0;omega,?_⟩;refine⟨fun p hp=>(by cases hp;exact hU _),.inl rfl,by show(1:Int)<t;omega,by show(1:Int)<t;omega,hU _,by show t - t≤0;omega,rfl,rfl⟩
theorem Ac:GF 0 0 0 []:=⟨by omega,by omega,by omega,fun e r he=>(by cases he),rfl,rfl⟩
end M
namespace V2
open PySem PySem.Spec PyProof.Rows L2
def VS0(X:Cx)(W:WX)(st:Stmt)(f:MS):Prop:=∃t,Dr X st t∧mE X.K W t f
def abN(X:Cx)(W:WX)(st:List Stmt)(f:MS):Prop:=∃t,AS X st t∧mE X.K W t f
section
variable{X:Cx}{W:WX}{st:Stmt}{rest:List Stmt}{f g:MS}
theorem VS.v0(h:VS X W st f):VS0 X W st f:=let ⟨t,p,s⟩:=h; ⟨t,p.JJ,s⟩
theorem jK.v0(h:jK X W rest f):abN X W rest f:=let ⟨t,p,s⟩:=h; ⟨t,p.JJ,s⟩
end
structure Cv(K:Frag)(rs ns:List Str):Prop where
 xc:∀n∈ns,∀D,nsIn K mainGlobals n=some (some (.ref D))→XC K D
 sub:∀n∈rs,∀m∈ns,∀D C,nsIn K mainGlobals n=some (some (.ref D))→nsIn K mainGlobals m=some (some (.ref C))→subIn K (.ref D) (.ref C)=some (n == m||m == ("RankError" : Str))
 ve:∀n∈rs,∀D,nsIn K mainGlobals n=some (some (.ref D))→subIn K (.ref D) (.type "ValueError")=some true
 rn:∀n∈rs,n∈ns
def SD(rs ns:List Str)(n m:Str):Option Bool:=if n∈rs∧m∈ns then some (n == m||m == ("RankError" : Str))else none
theorem Cv.own{K:Frag}{rs ns:List Str}(T:Cv K rs ns)(n m:Str)(b:Bool)(D C:Addr)(h:SD rs ns n m=some b)(hn:nsIn K mainGlobals n=some (some (.ref D)))(hm:nsIn K mainGlobals m=some (some (.ref C))):kitOne K (.ref D) (.ref C)=some b:=by
 unfold SD at h;split at h
 ·rename_i q;cases h;exact Tn (T.xc _ (T.rn _ q.1) _ hn) (T.xc _ q.2 _ hm) (T.sub _ q.1 _ q.2 _ _ hn hm)
 ·cases h
end V2
namespace L2
open PySem PySem.Spec PyProof.Rows
theorem kX.lP{X:Cx}(t:kX X):kX X.lP:=⟨t.1,t.2,t.3⟩
end L2
namespace KS
open PySem PySem.W PyProof.Rows
def go{α:Type}(lt:Nat→Nat→Bool):KasT α→α
 | .ret a=>a
 | .ask i j k=>go lt (k (lt i j))
theorem uE{α β:Type}(lt:Nat→Nat→Bool)(f:α→KasT β):∀t:KasT α,go lt (t.bind f)=go lt (f (go lt t))
 | .ret _=>rfl
 | .ask i j k=>by
  show go lt ((k (lt i j)).bind f)=_;rw [uE lt f (k (lt i j))];rfl
section
variable(r:Nat→Int)
abbrev oH:Nat→Nat→Bool:=fun i j=>decide (r i<r j)
def Ky(p:Array Nat)(i:Nat):Int:=r (p.getD i 0)
def Up(p:Array Nat)(k:Nat):Prop:=∀i j,i≤j→j<k→Ky r p i≤Ky r p j
def Dn(p:Array Nat)(k:Nat):Prop:=∀i j,i≤j→j<k→Ky r p j≤Ky r p i
variable{r}
theorem getD_eq{p q:Array Nat}{i j:Nat}(h:p[i]? = q[j]?):p.getD i 0=q.getD j 0:=by
 simp [Array.getD_eq_getD_getElem?,h]
theorem zC{p q:Array Nat}{i j:Nat}(h:Ky r p i<Ky r q j):oH r (p.getD i 0) (q.getD j 0)=true:=qD h
theorem zD{p q:Array Nat}{i j:Nat}(h:¬Ky r p i<Ky r q j):oH r (p.getD i 0) (q.getD j 0)=false:=lX h
theorem KN{p:Array Nat}{i j:Nat}(hj:j≤p.size)(k:Nat):Ky r (kas_rev p i j) k=if i≤k∧k<j then Ky r p (i+j - 1 - k)else Ky r p k:=by
 have h:=getElem?_mirror_all (i:=i) hj k;unfold Ky kas_rev;split
 ·rename_i c;rw [if_pos c]at h;rw [getD_eq h]
 ·rename_i c;rw [if_neg c]at h;rw [getD_eq h]
theorem KL{p:Array Nat}{i j:Nat}(hj:j≤p.size)(e:∀k,i≤k→k<j→Ky r p k=Ky r p (j - 1))(k:Nat):Ky r (kas_rev p i j) k=Ky r p k:=by
 rw [KN hj];split
 ·rename_i c;rw [e _ (by omega) (by omega),e k c.1 c.2]
 ·rfl
theorem tG(p:Array Nat)(i j:Nat):(kas_rev p i j).size=p.size:=mirror_size _ _ _ _
theorem DD(p:Array Nat)(i j:Nat):(kas_rev p i j).Perm p:=mirror_perm _ _ _ _
theorem Gn{p:Array Nat}{n:Nat}(h1:1≤n)(h:Up r p n)(hn:Ky r p (n - 1)≤Ky r p n):Up r p (n+1):=by
 intro i j dE hj
 by_cases e:j=n
 ·subst e
  by_cases e2:i=j
  ·subst e2;exact hU _
  ·exact GJ (h i (j - 1) (by omega) (by omega)) hn
 ·exact h i j dE (by omega)
theorem FH{p:Array Nat}{n:Nat}(h1:1≤n)(h:Dn r p n)(hn:Ky r p n≤Ky r p (n - 1)):Dn r p (n+1):=by
 intro i j dE hj
 by_cases e:j=n
 ·subst e
  by_cases e2:i=j
  ·subst e2;exact hU _
  ·exact GJ hn (h i (j - 1) (by omega) (by omega))
 ·exact h i j dE (by omega)
theorem asc{p:Array Nat}:∀(f n:Nat),1≤n→Up r p n→∃m,go (oH r) (kas_asc p f n)=m∧n≤m∧m≤n+f∧Up r p m∧(m<n+f→Ky r p m<Ky r p (m - 1))
 | 0,n,_,h=>⟨n,rfl,iM _,iM _,h,fun z=>by omega⟩
 | f+1,n,h1,h=>by
  by_cases c:Ky r p n<Ky r p (n - 1)
  ·refine⟨n,?_,iM _,by omega,h,fun _=>c⟩;have c':=zC c;simp only [kas_asc,go,c',cR]
  ·obtain⟨m,e,a,b,u,l⟩:=asc f (n+1) (by omega) (Gn h1 h (by omega));refine⟨m,?_,by omega,by omega,u,fun z=>l (by omega)⟩;rw [← e];have c':=zD c;simp only [kas_asc,go,c',eB,cK]
theorem desc:∀(f:Nat) (p:Array Nat) (n q:Nat),q+1≤n→n+f≤p.size→Dn r p n→(∀k,n - (q+1)≤k→k<n→Ky r p k=Ky r p (n - 1)) →
  ∃p' m q',go (oH r) (kas_desc f p n q)=(p',m,q')∧n≤m∧m≤n+f∧q'+1≤m∧p'.size=p.size∧p'.Perm p∧(∀k,Ky r p' k=Ky r p k)∧Dn r p' m∧(∀k,m - (q'+1)≤k→k<m→Ky r p' k=Ky r p' (m - 1))
 | 0,p,n,q,hq,_,hd,he=>⟨p,n,q,rfl,iM _,iM _,hq,rfl,.refl _,fun _=>rfl,hd,he⟩
 | f+1,p,n,q,hq,hz,hd,he=>by
  by_cases c:Ky r p n<Ky r p (n - 1)
  ·have c':=zC c;have ZM:Dn r p (n+1):=FH (by omega) hd (by omega)
   by_cases q0:q>0
   ·have ek:∀k,Ky r (kas_rev p (n - (q+1)) n) k=Ky r p k:=KL (by omega) he;have hd2:Dn r (kas_rev p (n - (q+1)) n) (n+1):=fun i j a b=>by rw [ek,ek];exact ZM i j a b
    obtain⟨p',m,q',e,a1,a2,a3,a4,a5,a6,a7,a8⟩:=desc f (kas_rev p (n - (q+1)) n) (n+1) 0 (by omega) (by rw [tG];omega) hd2 (fun k k1 k2=>by
     have:k=n+1 - 1:=by omega
     rw [this])
    refine⟨p',m,q',?_,by omega,by omega,a3,by rw [a4,tG],a5.trans (DD _ _ _),fun k=>by rw [a6,ek],a7,a8⟩;rw [← e];simp only [kas_desc,go,c',cR,q0]
   ·obtain⟨p',m,q',e,a1,a2,a3,a4,a5,a6,a7,a8⟩:=desc f p (n+1) 0 (by omega) (by omega) ZM (fun k k1 k2=>by
     have:k=n+1 - 1:=by omega
     rw [this])
    refine⟨p',m,q',?_,by omega,by omega,a3,a4,a5,a6,a7,a8⟩;rw [← e];simp only [kas_desc,go,c',cR,q0,cK]
  ·have c':=zD c
   by_cases d:Ky r p (n - 1)<Ky r p n
   ·have d':=zC d;refine⟨p,n,q,?_,iM _,by omega,hq,rfl,.refl _,fun _=>rfl,hd,he⟩;simp only [kas_desc,go,c',d',eB,cR,cK]
   ·have d':=zD d;have eq:Ky r p n=Ky r p (n - 1):=by omega
    obtain⟨p',m,q',e,a1,a2,a3,a4,a5,a6,a7,a8⟩:=desc f p (n+1) (q+1) (by omega) (by omega) (FH (by omega) hd (by omega)) (fun k k1 k2=>by
     rw [show n+1 - 1=n by omega]
     by_cases z:k=n
     ·rw [z]
     ·rw [he k (by omega) (by omega),eq])
    refine⟨p',m,q',?_,by omega,by omega,a3,a4,a5,a6,a7,a8⟩;rw [← e];simp only [kas_desc,go,c',d',eB,cK]
theorem Gp{p:Array Nat}{n:Nat}(hn:n≤p.size)(h:Dn r p n):Up r (kas_rev p 0 n) n:=by
 intro i j dE hj;rw [KN hn,KN hn,if_pos ⟨by omega,by omega⟩,if_pos ⟨by omega,hj⟩];exact h _ _ (by omega) (by omega)
theorem tail3{p:Array Nat}{n nrem:Nat}(h1:1≤n)(hn:n≤nrem)(hz:nrem≤p.size)(h:Dn r p n):∃m p',go (oH r) (kas_tail3 n nrem p)=(m,p')∧1≤m∧m≤nrem∧p'.size=p.size∧p'.Perm p∧Up r p' m:=by
 obtain⟨m,e,a,b,u,_⟩:=asc (r:=r) (nrem - n) n h1 (Gp (by omega) h);refine⟨m,kas_rev p 0 n,?_,by omega,by omega,tG _ _ _,DD _ _ _,u⟩;unfold kas_tail3;rw [uE,e];rfl
theorem descPart{p:Array Nat}{n nrem:Nat}(h1:1≤n)(hn:n+1≤nrem)(hz:nrem≤p.size)(h:Dn r p (n+1)):∃m p',go (oH r) (kas_descPart n nrem p)=(m,p')∧1≤m∧m≤nrem∧p'.size=p.size∧p'.Perm p∧Up r p' m:=by
 obtain⟨p1,m1,q1,e,a1,a2,a3,a4,a5,a6,a7,a8⟩:=desc (r:=r) (nrem - (n+1)) p (n+1) 0 (by omega) (by omega) h (fun k k1 k2=>by
  have:k=n+1 - 1:=by omega
  rw [this])
 by_cases q0:q1>0
 ·have ek:∀k,Ky r (kas_rev p1 (m1 - (q1+1)) m1) k=Ky r p1 k:=KL (by omega) a8;obtain⟨m,p',e2,b1,b2,b3,b4,b5⟩:=tail3 (p:=kas_rev p1 (m1 - (q1+1)) m1) (n:=m1) (nrem:=nrem) (r:=r) (by omega) (by omega) (by rw [tG];omega) (fun i j x y=>by rw [ek,ek];exact a7 i j x y);refine⟨m,p',?_,b1,b2,by rw [b3,tG,a4],b4.trans ((DD _ _ _).trans a5),b5⟩;unfold kas_descPart;rw [uE,e];simp only [q0,cR];exact e2
 ·obtain⟨m,p',e2,b1,b2,b3,b4,b5⟩:=tail3 (p:=p1) (n:=m1) (nrem:=nrem) (r:=r) (by omega) (by omega) (by omega) a7;refine⟨m,p',?_,b1,b2,by rw [b3,a4],b4.trans a5,b5⟩;unfold kas_descPart;rw [uE,e];simp only [q0,cK];exact e2
theorem count{p:Array Nat}{nrem:Nat}(h1:1≤nrem)(hz:nrem≤p.size):∃m p',go (oH r) (kas_count nrem p)=(m,p')∧1≤m∧m≤nrem∧p'.size=p.size∧p'.Perm p∧Up r p' m:=by
 obtain⟨n,e,a,b,u,l⟩:=asc (r:=r) (p:=p) (nrem - 1) 1 cP (fun i j x y=>by
  have:i=j:=by omega
  rw [this];exact hU _)
 unfold kas_count;rw [uE,e]
 by_cases c1:n=nrem
 ·subst c1;refine⟨n,p,by simp [go],a,iM _,rfl,.refl _,u⟩
 ·have c1':(n == nrem)=false:=by simpa using c1
  have lt:=l (by omega);simp only [c1',eB,cK]
  by_cases c2:n>1
  ·simp only [c2,cR,go]
   by_cases c3:Ky r p 0<Ky r p (n - 1)
   ·have PZ:=zC c3;simp only [PZ,cR,go];exact⟨n,p,rfl,a,by omega,rfl,.refl _,u⟩
   ·have PZ:=zD c3;simp only [PZ,eB,cK];have eqs:∀k,k<n→Ky r p k=Ky r p (n - 1):=fun k hk=>by
     have x:=u 0 k (by omega) hk;have y:=u k (n - 1) (by omega) (by omega);omega
    have ek:∀k,Ky r (kas_rev p 0 n) k=Ky r p k:=KL (by omega) fun k _ hk=>eqs k hk;obtain⟨m,p',e2,b1,b2,b3,b4,b5⟩:=descPart (r:=r) (p:=kas_rev p 0 n) (n:=n) (nrem:=nrem) (by omega) (by omega) (by rw [tG];omega) (FH (by omega) (fun i j x y=>by rw [ek,ek,eqs i (by omega),eqs j y];exact hU _) (by rw [ek,ek];omega));exact⟨m,p',e2,b1,b2,by rw [b3,tG],b4.trans (DD _ _ _),b5⟩
  ·simp only [c2,cK];have n1:n=1:=by omega
   subst n1;exact descPart cP (by omega) hz (FH cP (fun i j x y=>by
    have:i=j:=by omega
    rw [this];exact hU _) (by omega))
theorem place{p:Array Nat}{k:Nat}(hu:Up r p k):∀(f l t:Nat),l≤t→t≤k→t - l≤f→(∀i,i<l→Ky r p i≤Ky r p k)→(∀i,t≤i→i<k→Ky r p k<Ky r p i) →
  ∃m,go (oH r) (kas_place p k f l t)=m∧m≤k∧(∀i,i<m→Ky r p i≤Ky r p k)∧(∀i,m≤i→i<k→Ky r p k<Ky r p i)
 | 0,l,t,h1,h2,h3,h4,h5=>⟨l,rfl,by omega,h4,fun i a b=>h5 i (by omega) b⟩
 | f+1,l,t,h1,h2,h3,h4,h5=>by
  by_cases c:l≥t
  ·exact⟨l,by simp only [kas_place,c,cR,go],by omega,h4,fun i a b=>h5 i (by omega) b⟩
  ·by_cases d:Ky r p k<Ky r p ((l+t)/2)
   ·have d':=zC d;obtain⟨m,e,a1,a2,a3⟩:=place hu f l ((l+t)/2) (by omega) (by omega) (by omega) h4 (fun i a b=>by
     have:=hu ((l+t)/2) i a b;omega)
    refine⟨m,?_,a1,a2,a3⟩;rw [← e];simp only [kas_place,c,cK,go,d',cR]
   ·have d':=zD d;obtain⟨m,e,a1,a2,a3⟩:=place hu f ((l+t)/2+1) t (by omega) h2 (by omega) (fun i a=>by
     have:=hu i ((l+t)/2) (by omega) (by omega);omega) h5
    refine⟨m,?_,a1,a2,a3⟩;rw [← e];simp only [kas_place,c,cK,go,d',eB]
theorem YD{p:Array Nat}{k d:Nat}(hs:k<p.size)(hd:d≤k)(i:Nat):Ky r (bubble p k d) i=if i=k - d then Ky r p k else if k - d<i∧i≤k then Ky r p (i - 1)else Ky r p i:=by
 have h:=getElem?_bubble hs d hd i
 by_cases c:i=k - d
 ·rw [if_pos c]at h ⊢;exact congrArg r (getD_eq h)
 ·rw [if_neg c]at h ⊢
  by_cases c2:k - d<i∧i≤k
  ·rw [if_pos c2]at h ⊢;exact congrArg r (getD_eq h)
  ·rw [if_neg c2]at h ⊢;exact congrArg r (getD_eq h)
theorem bin:∀(f:Nat) (p:Array Nat) (k:Nat),k+f≤p.size→Up r p k→∃p',go (oH r) (kas_bin f p k)=p'∧p'.size=p.size∧p'.Perm p∧Up r p' (k+f)
 | 0,p,k,_,h=>⟨p,rfl,rfl,.refl _,h⟩
 | f+1,p,k,hz,h=>by
  obtain⟨m,e,a1,a2,a3⟩:=place h k 0 k (by omega) cP (by omega) (fun i z=>by omega) (fun i a b=>by omega);have hu:Up r (bubble p k (k - m)) (k+1):=by
   intro i j dE hj;rw [YD (by omega) (by omega),YD (by omega) (by omega)];have e1:k - (k - m)=m:=by omega
   rw [e1]
   by_cases ci:i=m
   ·rw [if_pos ci]
    by_cases cj:j=m
    ·rw [if_pos cj];exact hU _
    ·rw [if_neg cj,if_pos ⟨by omega,by omega⟩];exact GK (a3 (j - 1) (by omega) (by omega))
   ·rw [if_neg ci]
    by_cases Bo:m<i∧i≤k
    ·rw [if_pos Bo,if_neg (by omega),if_pos ⟨by omega,by omega⟩];exact h _ _ (by omega) (by omega)
    ·rw [if_neg Bo]
     by_cases cj:j=m
     ·rw [if_pos cj];exact a2 i (by omega)
     ·rw [if_neg cj]
      by_cases Bn:m<j∧j≤k
      ·rw [if_pos Bn];exact h _ _ (by omega) (by omega)
      ·rw [if_neg Bn];exact h _ _ dE (by omega)
  obtain⟨p',e2,b1,b2,b3⟩:=bin f (bubble p k (k - m)) (k+1) (by rw [bubble_size];omega) hu;refine⟨p',?_,by rw [b1,bubble_size],b2.trans (bubble_perm _ _ _),by rw [show k+(f+1)=k+1+f by omega];exact b3⟩;rw [← e2];simp only [kas_bin,uE,e]
theorem sorts{n:Nat}(h1:1≤n):∃p,go (oH r) (kas_sort n)=p∧p.size=n∧p.toList.Perm (List.range n)∧Up r p n:=by
 obtain⟨m,p,e,a1,a2,a3,a4,a5⟩:=count (r:=r) (p:=List.toArray (List.range n)) (nrem:=n) h1 (by simp);have sz:(List.toArray (List.range n)).size=n:=by simp
 rw [sz]at a3;have pr:p.toList.Perm (List.range n):=by have:=vJ.mp a4;simpa using this
 unfold kas_sort;rw [uE,e]
 by_cases c:m<n
 ·simp only [c,cR];obtain⟨p',e2,b1,b2,b3⟩:=bin (r:=r) (n - max m 1) p (max m 1) (by omega) (by rw [show max m 1=m by omega];exact a5);refine⟨p',e2,by omega,(vJ.mp b2).trans pr,?_⟩;rw [show max m 1+(n - max m 1)=n by omega]at b3;exact b3
 ·simp only [c,cK];have:m=n:=by omega
  subst this;exact⟨p,rfl,a3,pr,a5⟩
end
def reach{α:Type}(lt:Nat→Nat→Bool)(N:Nat):KasT α→Prop
 | .ret _=>True
 | .ask i j k=>i<N∧j<N∧reach lt N (k (lt i j))
def Bd(N:Nat)(p:Array Nat):Prop:=0<N∧∀x∈p,x<N
section
variable{lt:Nat→Nat→Bool}{N:Nat}
theorem Bd.get{p:Array Nat}(h:Bd N p)(i:Nat):p.getD i 0<N:=by
 rw [Array.getD_eq_getD_getElem?];cases e:p[i]? with
 | none=>exact h.1
 | some x=>exact h.2 x (Array.mem_of_getElem? e)
theorem Bd.perm{p q:Array Nat}(h:Bd N p)(e:q.Perm p):Bd N q:=⟨h.1,fun x hx=>h.2 x (e.mem_iff.mp hx)⟩
end
def bO:List Int→List Int→Bool
 | [],[]=>false
 | [],_::_=>true
 | _::_,[]=>false
 | a::as,b::bs=>if a=b then bO as bs else decide (a<b)
theorem KC:∀a,bO a a=false
 | []=>rfl
 | a::as=>by simp [bO,KC as]
theorem zF:∀{a b c:List Int},bO a b=true→bO b c=true→bO a c=true
 | [],[],_,h,_=>by simp [bO]at h
 | [],_::_,[],_,h=>by simp [bO]at h
 | [],_::_,_::_,_,_=>rfl
 | _::_,[],_,h,_=>by simp [bO]at h
 | _::_,_::_,[],_,h=>by simp [bO]at h
 | a::as,b::bs,c::cs,h1,h2=>by
  simp only [bO]at h1 h2 ⊢
  by_cases e1:a=b
  ·subst e1
   by_cases e2:a=c
   ·subst e2;simp only [cR]at h1 h2 ⊢;exact zF h1 h2
   ·simp only [cR,e2,cK]at h1 h2 ⊢;exact h2
  ·by_cases e2:b=c
   ·subst e2;simp only [e1,cK]at h1 ⊢;exact h1
   ·simp only [e1,e2,cK,wO]at h1 h2;have e3:¬a=c:=by omega
    simp only [e3,cK,wO];omega
theorem DY:∀{a b:List Int},bO a b=false→bO b a=false→a=b
 | [],[],_,_=>rfl
 | [],_::_,h,_=>by simp [bO]at h
 | _::_,[],_,h=>by simp [bO]at h
 | a::as,b::bs,h1,h2=>by
  simp only [bO]at h1 h2
  by_cases e:a=b
  ·subst e;simp only [cR]at h1 h2;rw [DY h1 h2]
  ·have e':¬b=a:=fun z=>e z.symm;simp only [e,e',cK,wQ]at h1 h2;omega
def DF(ts:List (List Int))(t:List Int):Int:=((ts.filter fun x=>bO x t).length:Int)
theorem OW{α:Type}{p q:α→Bool}(h:∀x,p x=true→q x=true):∀l:List α,(l.filter p).length≤(l.filter q).length
 | []=>iM _
 | x::l=>by
  have ih:=OW h l
  by_cases hp:p x=true
  ·simp [hp,h x hp,ih]
  ·by_cases hq:q x=true
   ·simp [hp,hq];omega
   ·simp [hp,hq,ih]
theorem Ar{α:Type}{p q:α→Bool}(h:∀x,p x=true→q x=true):∀(l:List α) (y:α),y∈l→p y=false→q y=true→(l.filter p).length<(l.filter q).length
 | [],_,hy,_,_=>by cases hy
 | x::l,y,hy,hp,hq=>by
  have le:=OW h l
  rcases gD.mp hy with e | e
  ·subst e;simp [hp,hq];omega
  ·have ih:=Ar h l y e hp hq
   by_cases hx:p x=true
   ·simp [hx,h x hx,ih]
   ·by_cases YL:q x=true
    ·simp [hx,YL];omega
    ·simp [hx,YL,ih]
theorem WA{ts:List (List Int)}{a b:List Int}(ha:a∈ts):DF ts a<DF ts b↔bO a b=true:=by
 unfold DF;constructor
 ·intro h
  by_cases c:bO a b=true
  ·exact c
  ·exfalso;have c':bO a b=false:=by simpa using c
   have:(ts.filter fun x=>bO x b).length≤(ts.filter fun x=>bO x a).length:=OW (fun x hx=>by
    by_cases d:bO b a=true
    ·exact zF hx d
    ·have e:=DY c' (by simpa using d);rw [e];exact hx) ts
   omega
 ·intro h;have:=Ar (p:=fun x=>bO x a) (q:=fun x=>bO x b) (fun x hx=>zF hx h) ts a ha (KC a) h;omega
section
variable{prog:Program}{w:World}{A:Around}{E:Value→Shared→Prop}{s:Shared}
theorem YB{Q:Bool→Shared→Prop}:∀{xs ys:List Value} {ns ms:List Int} (i:Nat) (fin:Bool),IntsAre xs ns→IntsAre ys ms→fin=decide (ns.length<ms.length)→Q (bO ns ms) s→KatLex prog w A true fin Q (xs.zip ys) i s
 | [],[],_,_,i,fin,.nil,.nil,hf,h=>by subst hf;exact kat_nil (by simpa [bO]using h)
 | [],_::_,_,_,i,fin,.nil,.cons m u k,hf,h=>by subst hf;exact kat_nil (by simpa [bO]using h)
 | _::_,[],_,_,i,fin,.cons n t h1,.nil,hf,h=>by subst hf;exact kat_nil (by simpa [bO]using h)
 | _::_,_::_,_,_,i,fin,.cons n t h1,.cons m u h2,hf,h=>by
  rw [List.zip_cons_cons];refine kat_cons (wpAny_eqBool_int ?_)
  by_cases e:n=m
  ·subst e;rw [show(n == n)=true by simp];exact kat_yes (YB (i+1) fin h1 h2 (by rw [hf];simp) (by simpa [bO]using h))
  ·rw [show(n == m)=false by simpa using e];refine kat_no ?_;have h':Q (decide (n<m)) s:=by simpa [bO,e]using h
   by_cases hi:i=0
   ·subst hi;exact oneLt_int h'
   ·rw [show(true&&i == 0)=false by simpa using hi];exact kat_one _ _ (lt_int h')
end
def TupAt(h:Heap)(v:Value)(ns:List Int):Prop:=∃a o xs n,v = .ref a∧h.get? a=some o∧o.cls = .type "tuple"∧o.data = .seq xs n∧IntsAre xs.toList ns
def fF(h:Heap):List Value→List (List Int)→Prop
 | [],[]=>True
 | v::vs,t::ts=>TupAt h v t∧fF h vs ts
 | _,_=>False
theorem fF.len{h:Heap}:∀{vs:List Value} {ts:List (List Int)},fF h vs ts→vs.length=ts.length
 | [],[],_=>rfl
 | _::_,_::_,t=>by simp [fF.len t.2]
 | [],_::_,t=>t.elim
 | _::_,[],t=>t.elim
theorem fF.get{h:Heap}:∀{vs:List Value} {ts:List (List Int)},fF h vs ts→∀i,i<ts.length→TupAt h (vs.getD i .none) (ts.getD i [])
 | [],[],_,i,hi=>by simp at hi
 | _::_,_::_,t,0,_=>t.1
 | _::_,_::_,t,i+1,hi=>by simpa using fF.get t.2 i (by simpa using hi)
 | [],_::_,t,_,_=>t.elim
 | _::_,[],t,_,_=>t.elim
theorem fF.keeps{h h':Heap}(k:∀b o,h.get? b=some o→o.cls = .type "tuple"→h'.get? b=some o):∀{vs:List Value} {ts:List (List Int)},fF h vs ts→fF h' vs ts
 | [],[],_=>trivial
 | _::_,_::_,⟨⟨a,o,xs,n,h1,h2,h3,h4⟩,t⟩=>⟨⟨a,o,xs,n,h1,k _ _ h2 h3,h3,h4⟩,fF.keeps k t⟩
 | [],_::_,t=>t.elim
 | _::_,[],t=>t.elim
theorem fF.YF{h:Heap}:∀{vs:List Value} {ts:List (List Int)},fF h vs ts→(∀t∈ts,t≠[])→∃fs ns,KatTups h vs fs∧IntsAre fs ns∧fs.length=vs.length
 | [],[],_,_=>⟨[],[],.nil,.nil,rfl⟩
 | _::_,t::ts,⟨⟨a,o,xs,n,h1,h2,h3,h4,h5⟩,r⟩,cQ=>by
  obtain⟨fs,ns,k1,k2,k3⟩:=fF.YF r fun t ht=>cQ t (fC _ ht);subst h1;have hn:=cQ t lQ;obtain⟨l⟩:=xs;cases h5 with
  | nil=>exact absurd rfl hn
  | cons m u hh =>
   exact⟨.int m u::fs,m::ns,.cons h2 h3 h4 rfl k1,.cons m u k2,by simp [k3]⟩
 | [],_::_,t,_=>t.elim
 | _::_,[],t,_=>t.elim
section
variable{prog:Program}{w:World}{A:Around}{E:Value→Shared→Prop}{s:Shared}
theorem To{vs:List Value}{ts:List (List Int)}(T:fF s.heap vs ts)(cQ:∀t∈ts,t≠[])(h2:2≤vs.length){Q:SortKind→Shared→Prop}(h:Q (tuples' true) s):wpAny (model prog w) A (keyKind' vs.toArray) Q E s:=by
 obtain⟨fs,ns,k1,k2,k3⟩:=T.YF cQ;refine kat_kind (T := .type "int") k1 (by omega) (fun v hv=>?_) (by decide) ?_
 ·obtain⟨n,t,rfl⟩:=k2.all v hv;exact Looks.of_pure rfl
 ·have e:(Value.type "int" != Value.type "tuple")=true:=by decide
  rw [e];exact h
def wZ(ts:List (List Int))(p:List Nat):Prop:=p.Perm (List.range ts.length)∧p.Pairwise fun i j=>bO (ts.getD j []) (ts.getD i [])=false
theorem getD_mem{ts:List (List Int)}{i:Nat}(h:i<ts.length):ts.getD i []∈ts:=by
 rw [Eh,eV h];exact RD h
end
theorem XR{α β:Type}{f:α→β}:∀{r:List α} {l:List β},l.Perm (r.map f)→∃r':List α,r'.Perm r∧l=r'.map f
 | [],l,h=>⟨[],.refl _,by simpa using h⟩
 | a::r,l,h=>by
  have hm:f a∈l:=h.mem_iff.mpr (by simp);obtain⟨l1,l2,rfl⟩:=List.append_of_mem hm;have h2:(l1++l2).Perm (r.map f):=by
   have:(f a::(l1++l2)).Perm (f a::r.map f):=List.perm_middle.symm.trans h;exact this.cons_inv
  obtain⟨r',p,e⟩:=XR h2;obtain⟨r1,r2,rfl,e1,e2⟩:=List.map_eq_append_iff.mp e.symm;exact⟨r1++a::r2,List.perm_middle.trans (p.cons a),by simp [e1,e2]⟩
def HS(h:Heap)(v:Value):List Int:=match v with
 | .ref a=>(match h.get? a with
  | some o=>(match o.data with
   | .seq xs _=>xs.toList.map numOf
   | _=>[])
  | none=>[])
 | _=>[]
theorem TupAt.val{h:Heap}{v:Value}{t:List Int}(T:TupAt h v t):HS h v=t:=by
 obtain⟨a,o,xs,n,rfl,h2,h3,h4,h5⟩:=T;unfold HS;simp only [h2,h4];exact h5.nums
section
variable{prog:Program}{w:World}{A:Around}{E:Value→Shared→Prop}{s:Shared}
def tupP(h:Heap)(ts:List (List Int))(p:Keyed):Prop:=p.1=p.2∧∃t∈ts,TupAt h p.1 t
def vO(h:Heap)(ts:List (List Int))(p:Keyed):Int:=DF ts (HS h p.1)
theorem So{vs:List Value}{ts:List (List Int)}(_:fF s.heap vs ts):dR (model prog w) A E s (tuples' true) (tupP s.heap ts) (vO s.heap ts):=by
 rintro⟨x,x2⟩ ⟨y,y2⟩ ⟨_,t,ht,Tx⟩ ⟨_,u,hu,Ty⟩ st Q hk h;have e:decide (vO s.heap ts (x,x2)<vO s.heap ts (y,y2))=bO t u:=by
  unfold vO;rw [Tx.val,Ty.val];have q:=WA (ts:=ts) (b:=u) ht
  by_cases c:bO t u=true
  ·rw [c];exact qD (q.mpr c)
  ·have c':bO t u=false:=by simpa using c
   rw [c'];exact lX fun z=>c (q.mp z)
 rw [e]at h;obtain⟨a,o,xs,n,e1,h2,h3,h4,h5⟩:=Tx;obtain⟨b,o',ys,n',AH,oP,h3',Yl,ZZ⟩:=Ty;dsimp only at e1 AH;subst e1 AH;rw [lt'_eq];refine aQ (pD ?_);rw [hk];have l1:=h5.length;have l2:=ZZ.length;refine aQ (wpS_lift (wpAny_attempt (kat_lt h2 h4 oP Yl (YB 0 _ h5 ZZ ?_ ⟨rfl,?_⟩))))
 ·rw [← eE,← eE,l1,l2]
 ·exact bH h
theorem fF.mem{h:Heap}:∀{vs:List Value} {ts:List (List Int)},fF h vs ts→∀v∈vs,∃t∈ts,TupAt h v t
 | [],[],_,v,hv=>by cases hv
 | _::_,t::ts,T,v,hv=>by
  rcases gD.mp hv with e | e
  ·subst e;exact⟨t,List.mem_cons_self ..,T.1⟩
  ·obtain⟨u,hu,q⟩:=T.2.mem v e;exact⟨u,fC _ hu,q⟩
 | [],_::_,t,_,_=>t.elim
 | _::_,[],t,_,_=>t.elim
theorem Hc{h:Heap}{vs:List Value}{ts:List (List Int)}(T:fF h vs ts):∀x∈(pairsOf vs).toList,tupP h ts x:=fun x hx=>by
 rw [pairsOf_toList]at hx;obtain⟨e,m⟩:=mem_zip_self hx;exact⟨e,T.mem _ m⟩
theorem Yr{α:Type}(l:List α)(d:α):(List.range l.length).map (fun i=>l.getD i d)=l:=by
 apply List.ext_getElem
 ·simp
 ·intro i h1 h2;simp [h2]
theorem Hb{h:Heap}{vs:List Value}{ts:List (List Int)}(T:fF h vs ts){arr:Array Keyed}(hp:arr.Perm (pairsOf vs))(hs:bM (vO h ts) arr.toList):∃p,wZ ts p∧arr.map (·.2)=List.toArray (p.map fun i=>vs.getD i Value.none):=by
 have hl:arr.toList.Perm (vs.zip vs):=by rw [← pairsOf_toList];exact vJ.mp hp
 have hz:vs.zip vs=(List.range vs.length).map fun i=>(vs.getD i Value.none,vs.getD i Value.none):=by
  have:vs.zip vs=vs.map fun v=>(v,v):=by
   clear T hp hs hl
   induction vs with
   | nil=>rfl
   | cons v vs ih=>rw [List.zip_cons_cons,ih];rfl
  rw [this]
  conv=>lhs;rw [← Yr vs Value.none]
  rw [sJ];rfl
 rw [hz]at hl;obtain⟨p,p1,p2⟩:=XR hl;refine⟨p,⟨by rw [← T.len];exact p1,?_⟩,?_⟩
 ·rw [p2]at hs;have dI:=List.pairwise_map.mp hs;refine List.Pairwise.imp_of_mem (fun{i j} hi hj q=>?_) dI;have li:i<ts.length:=by have:=p1.mem_iff.mp hi;rw [← T.len];simpa using this
  have lj:j<ts.length:=by have:=p1.mem_iff.mp hj;rw [← T.len];simpa using this
  unfold vO at q;rw [(T.get i li).val,(T.get j lj).val]at q;have r:=WA (ts:=ts) (b:=ts.getD i []) (getD_mem lj)
  by_cases c:bO (ts.getD j []) (ts.getD i [])=true
  ·have:=r.mpr c;omega
  ·simpa using c
 ·apply Array.toList_inj.mp;rw [Array.toList_map,p2,sJ];rfl
theorem Sw{a:Addr}{vs:List Value}{ts:List (List Int)}{n:Nat}{P:PySem.Fin→Shared→Prop}(ho:s.heap.get? a=some (seqObj "list" vs.toArray n))(T:fF s.heap vs ts)(cQ:∀t∈ts,t≠[])(hz:vs.length≤sizeLine)
  (h:∀p:List Nat,wZ ts p→P (.done (.ret .none)) { s with heap:=sortedHeap s.heap a vs (List.toArray (p.map fun i=>vs.getD i Value.none)) }) :
  wpAny (model prog w) A (Builtin.«list.sort» ⟨[.ref a],[]⟩) P E s:=by
 rw [list_sort_plain];have hlen:=T.len;have ha:a<s.heap.objs.size:=cX ho;refine bI (listItems_at ho rfl ?_);refine bI (listUpdate_at ho rfl ?_ (by rw [dS];exact hz) vX);obtain⟨e1,YV⟩:∃e1,(s.heap.update a (Obj.mapSeq fun _=>(#[]:Array Value))).get? a=some (seqObj "list" #[] e1):=⟨_,get?_update_seq ho (fun _=>#[])⟩;refine bI (seqEpoch_at YV rfl ?_);refine bI (wpAny_newTuple ?_ (by show vs.length≤_;exact hz));refine bI (wpAny_newList ?_ vX);refine xV ?_;have old:∀b o,s.heap.get? b=some o→o.cls = .type "tuple"→(((s.heap.update a (Obj.mapSeq fun _=>(#[]:Array Value))).push (seqObj "tuple" vs.toArray 0)).push (seqObj "list" #[] 0)).get? b=some o:=fun b o hb hc=>by
  have Wy:b≠a:=fun z=>by subst z;rw [ho]at hb;cases hb;have hc:Value.type "list" = Value.type "tuple":=hc;exact absurd hc (by decide)
  have aZ:b<s.heap.objs.size:=cX hb;rw [BK _ _ _ (by rw [size_push',GN];exact fU (GG aZ)),BK _ _ _ (by rw [GN];exact fU aZ),Heap.get?_update_ne _ _ _ _ Wy];exact hb
 have EI:(((s.heap.update a (Obj.mapSeq fun _=>(#[]:Array Value))).push (seqObj "tuple" vs.toArray 0)).push (seqObj "list" #[] 0)).get? a=some (seqObj "list" #[] e1):=by
  rw [BK _ _ _ (by rw [size_push',GN];exact fU (GG ha)),BK _ _ _ (by rw [GN];exact fU ha)];exact YV
 show wpAny (model prog w) A _ P E { s with heap:=((s.heap.update a (Obj.mapSeq fun _=>(#[]:Array Value))).push (seqObj "tuple" vs.toArray 0)).push (seqObj "list" #[] 0) };dsimp only
 by_cases h2:vs.toArray.size<2
 ·have oP:vs.length<2:=by simpa using h2
  rw [if_pos h2,if_pos h2];refine bI (dQ ?_);rw [StateT.run_pure];refine bI (dQ ?_);dsimp only;have eo:(arrOf (SortSt.mk' general' (vs.toArray.zip vs.toArray) #[] 7 none)).map (·.2)=List.toArray ((List.range vs.length).map fun i=>vs.getD i Value.none):=by
   show(vs.toArray.zip vs.toArray).map (·.2)=_
   match vs,oP with
   | [],_=>simp
   | [v],_=>simp [List.range_succ]
  rw [eo];refine bI (seqEpoch_at EI rfl ?_);refine bI (listUpdate_at EI rfl ?_ vX (by rw [dS,hJ,QZ];omega));simp only [bne_self_eq_false,eB,cK];refine dQ (h (List.range vs.length) ⟨by rw [hlen],?_⟩)
  match vs,oP with
  | [],_=>exact .nil
  | [v],_=>exact List.pairwise_singleton _ _
 ·have oP:2≤vs.length:=by simpa using h2
  rw [if_neg h2,if_neg h2];have T':=T.keeps old;refine bI (To T' cQ oP ?_);refine bI (lH (Fj (So T') (x0:=pairsOf vs) (st:=SortSt.mk' (tuples' true) (vs.toArray.zip vs.toArray) #[] 7 none)
   (Q:=fun _ aE=>failedOf aE=none∧∃p,wZ ts p∧(arrOf aE).map (·.2)=List.toArray (p.map fun i=>vs.getD i Value.none))
   (Hc T') rfl rfl rfl rfl fun aE a1 a2 a3=>⟨a2,Hb T' a1 a3⟩) ?_ fun _ _ e=>e)
  rintro⟨⟨⟩,aE⟩ s' ⟨rfl,hf,p,sg,Vi⟩;dsimp only;rw [Vi];refine bI (seqEpoch_at EI rfl ?_);refine bI (listUpdate_at EI rfl ?_ vX (by rw [dS,hJ,sg.1.length_eq,QZ];omega));rw [hf];simp only [bne_self_eq_false,eB,cK];exact dQ (h _ sg)
theorem Lw{l:Addr}{vs:List Value}{ts:List (List Int)}{Q:Value→Shared→Prop}(hl:s.heap.IsList l vs.toArray)(T:fF s.heap vs ts)(cQ:∀t∈ts,t≠[])(hz:vs.length≤sizeLine)
  (h:∀p:List Nat,wZ ts p→Q (.ref (s.heap.objs.size+1)) { s with heap:=sortedAll s.heap vs (List.toArray (p.map fun i=>vs.getD i Value.none)) }) :
  wpAny (model prog w) A (call (.builtin "sorted") [.ref l]) Q E s:=by
 refine Calls.call_function_entry kind_sorted plain_sorted entry_sorted (args_sorted1 _) ?_;unfold Builtin.«sorted»;refine bI (m:=checkCount "sorted" 1 1 _) (dQ ?_);refine bI (collect_list hl ?_ hz);refine bI (wpAny_newList ?_ (by show vs.length≤_;exact hz));have cS:((s.heap.push (seqObj "list" #[] 0)).update s.heap.objs.size (Obj.mapSeq (· ++ vs.toArray))).objs.size=s.heap.objs.size+1:=by
  rw [GN,size_push']
 have EH:(((s.heap.push (seqObj "list" #[] 0)).update s.heap.objs.size (Obj.mapSeq (· ++ vs.toArray))).push (seqObj "list" vs.toArray 0)).get? (s.heap.objs.size+1)=some (seqObj "list" vs.toArray 0):=by
  rw [← cS];exact nS _ rfl
 have keep:∀b o,s.heap.get? b=some o→(((s.heap.push (seqObj "list" #[] 0)).update s.heap.objs.size (Obj.mapSeq (· ++ vs.toArray))).push (seqObj "list" vs.toArray 0)).get? b=some o:=fun b o q=>by
  have aZ:b<s.heap.objs.size:=cX q;rw [BK _ _ _ (by rw [cS];exact fU (GG aZ)),Heap.get?_update_ne _ _ _ _ (fU aZ),BK _ _ _ (fU aZ)];exact q
 show wpAny _ _ _ _ _ { s with heap:=((s.heap.push (seqObj "list" #[] 0)).update s.heap.objs.size (Obj.mapSeq (· ++ vs.toArray))).push (seqObj "list" vs.toArray 0) };rw [cS];refine bI (xV (wpAny_call_entry slot_list_sort ⟨_,EH,rfl⟩ entry_list_sort (Sw EH (T.keeps fun b o q _=>keep b o q) cQ hz fun p hp=>⟨_,rfl,?_⟩) (args_list_sort _)));exact dQ ⟨_,rfl,h p hp⟩
end
end KS
namespace V2
open PySem PySem.Spec PyProof.Rows L2 KS
def vR(ts:List (List Int)):List (List Int):=ts.mergeSort fun a b=>!bO b a
theorem Sy{a b c:List Int}(h1:bO b a=false)(h2:bO c b=false):bO c a=false:=by
 by_cases z:bO c a=true
 ·by_cases y:bO a b=true
  ·rw [zF z y]at h2;cases h2
  ·have e:=DY (by simpa using y) h1;subst e;rw [z]at h2;cases h2
 ·simpa using z
theorem Sz(a b:List Int):bO b a=false∨bO a b=false:=by
 by_cases z:bO b a=true
 ·right
  by_cases y:bO a b=true
  ·have:=zF z y;rw [KC]at this;cases this
  ·simpa using y
 ·left;simpa using z
theorem Ly(ts:List (List Int)):(vR ts).Perm ts:=List.mergeSort_perm ts _
theorem Lx(ts:List (List Int)):(vR ts).Pairwise fun a b=>bO b a=false:=by
 have h:=List.pairwise_mergeSort (le:=fun a b:List Int=>!bO b a) (fun a b c h1 h2=>by
  simp only [xR]at h1 h2 ⊢;exact Sy h1 h2) (fun a b=>by
  rcases Sz a b with z | z <;> simp [z]) ts
 exact h.imp fun h=>by simpa using h
theorem UX{ts us:List (List Int)}(p:us.Perm ts)(h:us.Pairwise fun a b=>bO b a=false):us=vR ts :=
 List.Perm.eq_of_pairwise (le:=fun a b=>bO b a=false) (fun a b _ _ h1 h2=>DY h2 h1) h (Lx ts) (p.trans (Ly ts).symm)
theorem range_getD{α:Type}(l:List α)(d:α):(List.range l.length).map (fun i=>l.getD i d)=l:=by
 apply List.ext_getElem
 ·simp
 ·intro i h1 h2;simp [h2]
theorem Lv{ts:List (List Int)}{p:List Nat}(h:wZ ts p):p.map (fun i=>ts.getD i [])=vR ts:=by
 refine UX ?_ ?_
 ·have:=h.1.map fun i=>ts.getD i [];rwa [range_getD]at this
 ·exact List.pairwise_map.mpr h.2
def uU(H:Hp):List V→List (List Int)→Prop
 | [],[]=>True
 | y::ys,t::ts=>(∃b,y = .ref b∧H b=some (.tup (t.map V.int)))∧uU H ys ts
 | _,_=>False
section
variable{X:Cx}{W:WX}
theorem TY{pins:List (Addr×Obj)}{σ:L2.St}{H:Hp}{s:Shared}(I:Inv X pins σ H s):∀{ys:List V} {us:List Value} {ts:List (List Int)},Vals ys us→uU H ys ts→fF s.heap us ts
 | [],[],[],.nil,_=>trivial
 | _::_,_::_,t::ts,.cons r rs,⟨⟨b,e,hb⟩,T⟩=>by
  subst e;cases r;obtain⟨_,aI,vi,⟨o,ho,kU,n,Wk⟩⟩:=I.aK b _ hb;exact⟨⟨b,o,_,n,rfl,ho,kU,Wk,by simpa using intsAre_of vi⟩,TY I rs T⟩
 | _::_,_::_,[],_,T=>T.elim
 | [],[],_::_,_,T=>T.elim
theorem TK:∀{ys:List V} {us:List Value},Vals ys us→∀i,i<ys.length→RelV (ys.getD i .bS) (us.getD i .none)
 | _::_,_::_,.cons r rs,0,_=>r
 | _::_,_::_,.cons r rs,i+1,h=>by simpa using TK rs i (by simpa using h)
theorem TF{ys:List V}{us:List Value}(r:Vals ys us):∀{p:List Nat},(∀i∈p,i<ys.length)→Vals (p.map fun i=>ys.getD i .bS) (p.map fun i=>us.getD i .none)
 | [],_ => .nil
 | i::p,h => .cons (TK r i (h i lQ)) (TF r fun j hj=>h j (fC _ hj))
theorem uU.len{H:Hp}:∀{ys:List V} {ts:List (List Int)},uU H ys ts→ys.length=ts.length
 | [],[],_=>rfl
 | _::_,_::_,t=>by simp [uU.len t.2]
 | [],_::_,t=>t.elim
 | _::_,[],t=>t.elim
theorem aaY:lF X (.builtin "sorted") (fun xs H Q=>∃(a:Addr) (ys:List V) (ts:List (List Int)),xs=[.ref a]∧dO X.K H a ys∧uU H ys ts∧(∀t∈ts,t≠[])∧ys.length<4000∧∀p,wZ ts p→∀l,H l=none→Q (.ref l) (upd H l (.lst (p.map fun i=>ys.getD i .bS)))):=by
 intro pins s σ H xs us Q I r h;obtain⟨a,ys,ts,rfl,hq,T,cQ,Yk,q⟩:=h;obtain⟨u,rfl,ru⟩:=vals1 r;cases ru;obtain⟨aI,rv,pl,hz⟩:=I.list hq;have hl:aI.length=ys.length:=by rw [← rv.length]
 refine Lw pl.isList (TY I rv T) cQ (by rw [jS];omega) fun p hp=>?_;have kT:∀i∈p,i<ys.length:=fun i hi=>by
  have:=hp.1.mem_iff.mp hi;rw [T.len];simpa using this
 have jF:p.length=ys.length:=by rw [hp.1.length_eq,QZ,T.len]
 obtain⟨e,he⟩:=sortedAll_at s.heap aI (List.toArray (p.map fun i=>aI.getD i Value.none));refine⟨.ref (s.heap.objs.size+1),_,I.laid (t':=s.toks) (o := .lst (p.map fun i=>ys.getD i .bS)) (fun b o q=>sortedAll_old q) (Nat.le_succ _) ?_,rfl,q p hp _ (I.aK.fresh (Nat.le_succ _))⟩;exact⟨by rw [hJ,jF,jS];omega,p.map (fun i=>aI.getD i Value.none),e,TF rv kT,he⟩
def oW(t:List Int):A := .tup (t.map A.int)
def yE:A→Option (List Int)
 | .tup ds=>(intsOf ds).bind fun ns=>if ns=[]then none else some ns
 | _=>none
def sU:List A→Option (List (List Int))
 | []=>some []
 | a::r=>(yE a).bind fun t=>(sU r).map fun ts=>t::ts
theorem YJ:∀{ds:List A} {ns:List Int},intsOf ds=some ns→ds=ns.map A.int
 | [],ns,h=>by simp only [intsOf,iY]at h;subst h;rfl
 | a::ds,ns,h=>by
  cases a with
  | int i =>
   simp only [intsOf,sG]at h;obtain⟨ms,h1,rfl⟩:=h;simp [YJ h1]
  | _=>simp [intsOf]at h
theorem TZ:∀{ds:List A} {ts:List (List Int)},sU ds=some ts→ds=ts.map oW∧∀t∈ts,t≠[]
 | [],ts,h=>by simp only [sU,iY]at h;subst h;simp
 | a::ds,ts,h=>by
  simp only [sU,AV,sG]at h;obtain⟨t,h1,us,h2,rfl⟩:=h;obtain⟨e,hn⟩:=TZ h2;cases a with
  | tup xs =>
   simp only [yE,AV]at h1;obtain⟨ns,h3,h4⟩:=h1;split at h4
   ·cases h4
   ·rename_i cQ;cases h4;refine⟨by simp [oW,YJ h3,← e],fun t ht=>?_⟩
    rcases gD.mp ht with z | z
    ·rw [z];exact cQ
    ·exact hn t z
  | _=>cases h1
theorem Zs{K:Frag}{G:Hp}{ι:List Addr}{xs:List V}{ns:List Int}(d:aN K G ι xs (ns.map A.int)):xs=ns.map V.int:=ME (YI ns) d
theorem UA{K:Frag}{G H:Hp}{ι:List Addr}(sub:dZ G H):∀{ts:List (List Int)} {ys:List V},aN K G ι ys (ts.map oW)→uU H ys ts
 | [],ys,d=>by rw [qJ,kE]at d;subst d;trivial
 | t::ts,ys,d=>by
  obtain⟨x,r,rfl,d1,d2⟩:=d.hX;simp only [oW,Den]at d1;obtain⟨b,xs,rfl,hG,dl⟩:=d1;rw [Zs dl]at hG;exact⟨⟨b,rfl,sub _ _ hG⟩,UA sub d2⟩
theorem Bh{K:Frag}{G:Hp}{ι:List Addr}:∀{ts:List (List Int)} {ys:List V},aN K G ι ys (ts.map oW)→∀i,i<ts.length→Den K G ι (ys.getD i .bS) (oW (ts.getD i []))
 | t::ts,ys,d,i,h=>by
  obtain⟨x,r,rfl,d1,d2⟩:=d.hX;cases i with
  | zero=>exact d1
  | succ i=>simpa using Bh d2 i (by simpa using h)
theorem Bf{K:Frag}{G:Hp}{ι:List Addr}{ts:List (List Int)}{ys:List V}(d:aN K G ι ys (ts.map oW)):∀{p:List Nat},(∀i∈p,i<ts.length)→aN K G ι (p.map fun i=>ys.getD i .bS) ((p.map fun i=>ts.getD i []).map oW)
 | [],_=>by rw [qJ,qJ,qJ,kE]
 | i::p,h => .cons (Bh d i (h i lQ)) (Bf d fun j hj=>h j (fC _ hj))
@[simp] def OK(c:Bool)(as:List A):Mo A:=fun Ω=>match as with
 | [a]=>(match (bP Ω a).bind sU with
  | some ts=>if ts.length<4000 then tK c ((vR ts).map oW) Ω else none
  | none=>none)
 | _=>none
theorem aa5(c:Bool):qO X W (.builtin "sorted") (OK c):=by
 refine⟨_,aaY,?_⟩;intro G ι Ω H σ xs as Q w d h;unfold OK at h;split at h
 ·rename_i a;split at h
  ·rename_i ts e;split at h
   ·rename_i Yk;obtain⟨x,rfl,d1⟩:=wN d;rw [AV]at e;obtain⟨ds,e1,e2⟩:=e;obtain⟨p,ys,rfl,h2,h3⟩:=tO w d1 e1;obtain⟨e3,cQ⟩:=TZ e2;rw [e3]at h3;have hlen:ys.length=ts.length:=by rw [h3.length];simp
    refine⟨p,ys,ts,rfl,h2,UA w.sub h3,cQ,by omega,fun q hq l hl=>?_⟩;have dp:=Bf h3 (p:=q) fun i hi=>by have:=hq.1.mem_iff.mp hi;simpa using this
    rw [Lv hq]at dp;exact yW w hl dp h
   ·exact False.elim h
  ·exact False.elim h
 ·exact False.elim h
end
def jV:List Int→Int
 | []=>0
 | [a]=>a
 | a::b::r=>max a (jV (b::r))
theorem XQ:∀{ns:List Int},ns≠[]→jV ns∈ns∧∀x∈ns,x≤jV ns
 | [],h=>absurd rfl h
 | [a],_=>by simp [jV]
 | a::b::r,_=>by
  obtain⟨h1,h2⟩:=XQ (ns:=b::r) (by simp);simp only [jV];refine⟨?_,fun x hx=>?_⟩
  ·by_cases c:a≤jV (b::r)
   ·rw [Int.max_eq_right c];exact fC _ h1
   ·rw [Int.max_eq_left (by omega)];exact List.mem_cons_self ..
  ·rcases gD.mp hx with z | z
   ·subst z;omega
   ·have:=h2 x z;omega
theorem XO{ns:List Int}{M:Int}(h:M∈ns)(hm:∀x∈ns,x≤M):M=jV ns:=by
 have cQ:ns≠[]:=fun z=>by rw [z]at h;cases h
 obtain⟨h1,h2⟩:=XQ cQ;have:=h2 M h;have:=hm _ h1;omega
section
variable{X:Cx}{W:WX}
theorem aa0(hc:X.calm=true):lF X (.builtin "max") (fun xs H Q=>∃(a:Addr) (ns:List Int),xs=[.ref a]∧dO X.K H a (ns.map V.int)∧ns≠[]∧Q (.int (jV ns)) H):=by
 intro pins s σ H xs us Q I r h;obtain⟨a,ns,rfl,hq,cQ,q⟩:=h;obtain⟨u,rfl,ru⟩:=vals1 r;cases ru;obtain⟨aI,rv,pl,hz⟩:=I.list hq;have hi:IntsAre aI ns:=intsAre_of rv;have hl:=pl.isList;obtain⟨ys,e⟩:=hi.allInts.items;have tS:ns=ys.toList.map (·.1):=by rw [← hi.numsOf,← nums_intItems,← e]
 have cS:0<ys.size:=by
  have h3:0<ns.length:=List.length_pos_iff.mpr cQ;rw [tS,hJ,eE]at h3;exact h3
 rw [e]at hl;refine max_intList (I.ok.hd hc) hl cS fun v h' tk hv hk=>?_;obtain⟨t,rfl⟩:=intItems_at hv;obtain⟨h1,h2⟩:=argBest_gt (numAt ys) (ys.size - 1);have hM:numAt ys (argBest (fun i j=>decide (numAt ys i>numAt ys j)) (ys.size - 1))=jV ns:=XO (by
  rw [tS,numAt_eq,Eh,eV (by rw [hJ,eE];omega)];exact RD _) fun a ha=>by
  rw [tS]at ha;obtain⟨j,hj,rfl⟩:=mem_getD ha;rw [hJ,eE]at hj;rw [← numAt_eq];exact h2 j (by omega)
 exact⟨.int (jV ns),H,I.kept hk,⟨t,by rw [hM]⟩,q⟩
@[simp] def OM(as:List A):Mo A:=fun Ω=>match as with
 | [a]=>(match (bP Ω a).bind intsOf with
  | some ns=>if ns=[]then none else some (.ok (.int (jV ns)),Ω)
  | none=>none)
 | _=>none
theorem aa7(hc:X.calm=true):qO X W (.builtin "max") OM:=by
 refine⟨_,aa0 hc,?_⟩;intro G ι Ω H σ xs as Q w d h;unfold OM at h;split at h
 ·rename_i a;split at h
  ·rename_i ns e;split at h
   ·exact False.elim h
   ·rename_i cQ;obtain⟨x,rfl,d1⟩:=wN d;rw [AV]at e;obtain⟨ds,e1,e2⟩:=e;obtain⟨p,ys,rfl,h2,h3⟩:=tO w d1 e1;rw [ME e2 h3]at h2;exact⟨p,ns,rfl,h2,cQ,h _ H G ι (Ext.refl _ _) w (by simp only [Den])⟩
  ·exact False.elim h
 ·exact False.elim h
end
end V2
namespace M
open PySem L2 V2
def jX(xs:List E):Int:=match xs.getLast? with
 | some x=>x.2.1
 | none=>0
def gU(t:Int)(xs:List E):Int:=match xs.head? with
 | some x=>x.2.2
 | none=>t+1
def iU(t:Int)(fs:List E)(e:E):E:=(e.1,e.2.1+jX (fs.filter fun f=>decide (f.1<e.1)),e.2.2+gU t (fs.filter fun f=>decide (e.1≤f.1)) - 1)
def kQ(s:Int)(es:List E)(f:E):E:=(f.1,f.2.1+jX (es.filter fun e=>decide (e.1≤f.1)),f.2.2+gU s (es.filter fun e=>decide (f.1<e.1)) - 1)
theorem filter_all{p:E→Bool}:∀{xs:List E},(∀x∈xs,p x=true)→xs.filter p=xs:=fun h=>List.filter_eq_self.mpr h
theorem filter_none{p:E→Bool}{xs:List E}(h:∀x∈xs,p x=false):xs.filter p=[]:=List.filter_eq_nil_iff.mpr fun x hx=>by rw [h x hx];simp
theorem Qz{t:Int}{jI fs:List E}{e:E}(h0:∀f∈jI,f.1<e.1)(h1:∀f∈fs,e.1≤f.1):iU t (jI++fs) e=(e.1,e.2.1+jX jI,e.2.2+gU t fs - 1):=by
 unfold iU;rw [RF,RF,filter_all fun f hf=>by simpa using h0 f hf,filter_none (xs:=fs) fun f hf=>by have:=h1 f hf;simp;omega,filter_none (xs:=jI) fun f hf=>by have:=h0 f hf;simp;omega,filter_all (xs:=fs) fun f hf=>by simpa using h1 f hf];simp
theorem Qi{s:Int}{jJ es:List E}{f:E}(h0:∀e∈jJ,e.1≤f.1)(h1:∀e∈es,f.1<e.1):kQ s (jJ++es) f=(f.1,f.2.1+jX jJ,f.2.2+gU s es - 1):=by
 unfold kQ;rw [RF,RF,filter_all fun f hf=>by simpa using h0 f hf,filter_none (xs:=es) fun f hf=>by have:=h1 f hf;simp;omega,filter_none (xs:=jJ) fun f hf=>by have:=h0 f hf;simp;omega,filter_all (xs:=es) fun f hf=>by simpa using h1 f hf];simp
theorem KI(xs:List E)(x:E):jX (xs++[x])=x.2.1:=by simp [jX]
abbrev Nf(xs:List E):Prop:=xs.Pairwise fun a b=>a.1≤b.1
theorem Rw{s t:Int}:∀(n:Nat) (jJ es jI fs:List E),n=es.length+fs.length→Nf es→Nf fs→(∀f∈jI,∀e∈es,f.1<e.1)→(∀e∈jJ,∀f∈fs,e.1≤f.1) →
  (dB s t n (jX jJ) (jX jI) es fs).Perm (es.map (iU t (jI++fs))++fs.map (kQ s (jJ++es))):=by
 intro n
 induction n with
 | zero =>
  intro jJ es jI fs hn _ _ _ _;have h1:es=[]:=vA (by omega);have h2:fs=[]:=vA (by omega);subst h1 h2;exact .refl _
 | succ n ih =>
  intro jJ es jI fs hn he hf h1 h2;have UI:∀e iJ,es=e::iJ→(∀f∈fs,e.1≤f.1)→((e.1,e.2.1+jX jI,e.2.2+gU t fs - 1)::dB s t n e.2.1 (jX jI) iJ fs).Perm (es.map (iU t (jI++fs))++fs.map (kQ s (jJ++es))):=by
   rintro e iJ rfl hle;obtain⟨zU,gJ⟩:=xF.mp he;rw [gM,RH,Qz (fun f rN=>h1 f rN e lQ) hle];refine List.Perm.cons _ ?_;have q:=ih (jJ++[e]) iJ jI fs (by simp at hn;omega) gJ hf (fun f rN x hx=>h1 f rN x (fC _ hx)) (fun x hx f rN=>by
    rcases eK.mp hx with z | z
    ·exact h2 x z f rN
    ·simp only [kH]at z;subst z;exact hle f rN)
   rw [KI]at q;simpa using q
  have UH:∀f fO,fs=f::fO→(∀e∈es,f.1<e.1)→((f.1,f.2.1+jX jJ,f.2.2+gU s es - 1)::dB s t n (jX jJ) f.2.1 es fO).Perm (es.map (iU t (jI++fs))++fs.map (kQ s (jJ++es))):=by
   rintro f fO rfl aZ;obtain⟨ZI,ZH⟩:=xF.mp hf;rw [gM,Qi (fun e wG=>h2 e wG f lQ) aZ];refine List.Perm.trans (List.Perm.cons _ ?_) List.perm_middle.symm;have q:=ih jJ es (jI++[f]) fO (by simp at hn;omega) he ZH (fun x hx e wG=>by
    rcases eK.mp hx with z | z
    ·exact h1 x z e wG
    ·simp only [kH]at z;subst z;exact aZ e wG) (fun x hx y hy=>h2 x hx y (fC _ hy))
   rw [KI]at q;simpa using q
  cases es with
  | nil =>
   cases fs with
   | nil=>simp at hn
   | cons f fO =>
    have q:=UH f fO rfl (fun e wG=>by cases wG);simp only [dB];have e1:f.2.2+gU s [] - 1=f.2.2+s:=by simp only [gU,List.head?_nil];omega
    rw [e1]at q;exact q
  | cons e iJ =>
   cases fs with
   | nil =>
    have q:=UI e iJ rfl (fun f rN=>by cases rN);simp only [dB];have e1:e.2.2+gU t [] - 1=e.2.2+t:=by simp only [gU,List.head?_nil];omega
    rw [e1]at q;exact q
   | cons f fO =>
    obtain⟨zU,gJ⟩:=xF.mp he;obtain⟨ZI,ZH⟩:=xF.mp hf;simp only [dB]
    by_cases c:e.1≤f.1
    ·rw [if_pos c];have q:=UI e iJ rfl (fun x hx=>by
      rcases gD.mp hx with z | z
      ·subst z;exact c
      ·have:=ZI x z;omega)
     have e1:e.2.2+gU t (f::fO) - 1=e.2.2+(f.2.2 - 1):=by simp only [gU,List.head?_cons];omega
     rw [e1]at q;exact q
    ·rw [if_neg c];have q:=UH f fO rfl (fun x hx=>by
      rcases gD.mp hx with z | z
      ·subst z;omega
      ·have:=zU x z;omega)
     have e1:f.2.2+gU s (e::iJ) - 1=f.2.2+(e.2.2 - 1):=by simp only [gU,List.head?_cons];omega
     rw [e1]at q;exact q
def oB(e:E):List Int:=[e.1,e.2.1,e.2.2]
theorem AI{l s:Int}:∀{es:List E} {lo hp:Int} {pr:Option Int},Ch l s lo hp pr es→Nf es∧(∀e∈es,lo<e.2.1)∧(∀p,pr=some p→∀e∈es,p≤e.1)∧es.Pairwise (fun a b=>a.2.1<b.2.1)
 | [],_,_,_,_=>⟨.nil,by simp,by simp,.nil⟩
 | e::r,lo,hp,pr,h=>by
  obtain⟨h1,_,h3,_,_,_,h7⟩:=h;obtain⟨a,b,c,d⟩:=AI h7;refine⟨xF.mpr ⟨fun x hx=>c e.1 rfl x hx,a⟩,fun x hx=>?_,fun p hp x hx=>?_,xF.mpr ⟨b,d⟩⟩
  ·rcases gD.mp hx with z | z
   ·subst z;exact h3
   ·have:=b x z;omega
  ·rcases gD.mp hx with z | z
   ·subst z;exact h1 p hp
   ·have:=h1 p hp;have:=c e.1 rfl x z;omega
theorem Yp{s l d:Int}{es:List E}(h:GF s l d es):(es.map oB).Pairwise fun a b=>KS.bO b a=false:=by
 obtain⟨a,_,_,b⟩:=AI h.ch;refine List.pairwise_map.mpr ((List.Pairwise.and a b).imp fun{x y} h=>?_);simp only [oB,KS.bO]
 by_cases c:y.1=x.1
 ·have c2:¬y.2.1=x.2.1:=by omega
  rw [if_pos c,if_neg c2];simp;omega
 ·rw [if_neg c];simp;omega
theorem Sb{s1 l1 d1 s2 l2 d2:Int}{es fs:List E}(h1:GF s1 l1 d1 es)(h2:GF s2 l2 d2 fs):vR ((es.map (iU s2 fs)++fs.map (kQ s1 es)).map oB)=(kR s1 s2 es fs).map oB:=by
 have g:=Yp (wH h1 h2);have p:=Rw (s:=s1) (t:=s2) (es.length+fs.length) [] es [] fs rfl (AI h1.ch).1 (AI h2.ch).1 (by simp) (by simp);exact(UX (p.map oB) g).symm
end M
namespace V2
open PySem L2
theorem Zm(es:List E):fQ 8 (.lst (encL es)) (.lst [])=es.isEmpty:=by
 cases es <;> rfl
theorem Yx(neg:Bool)(es:List E)(Ω:aG):oS neg (.lst (encL es)) (.lst []) Ω=some (.ok (.bl (if neg then !es.isEmpty else es.isEmpty)),Ω):=by
 have h1:bR 8 (.lst (encL es))=true:=by rw [JG];exact JI 6 es
 have h2:bR 8 (.lst [])=true:=rfl;unfold oS;rw [mP h1,mP h2];simp [h1,h2,Zm]
@[simp] theorem aeJ(es:List E)(Ω:aG):oQ (.lst (encL es)) (.lst []) Ω=some (.ok (.bl (!es.isEmpty)),Ω):=Yx true es Ω
end V2
namespace M
open PySem L2 V2
noncomputable section
def QF:MS :=
 (aX (iA (cG (aD fZ bL bD))
   (dG (hW (aB bD (aB bQ (aB bQ (aB (fM false (aB (hW (aB aW (aB bD (aB bD a0)))) a0)) a0))))))
   jT)
  (dG (hW (aB bL (aB bQ (aB bQ (aB (fM false (aB (hW (aB aW (aB bD (aB bD a0)))) (aB (hW (aB aW (aB bL (aB bL a0)))) a0))) a0)))))))
def xO:List A→Mo A:=eQ 2 QF
def Cs:Ev→Mo A :=
 (oA false 1 [3] (mH (aD aR bL fK)) (gN 0) (cG (aD uH (aD aR aW bQ) bL)) (aD aR aW bD))
def Cr:Ev→Mo A :=
 (oA false 1 [3] (mH (aD aR bL fK)) (gN 0) (cG (aD Aj (aD aR aW bQ) bL)) (aD aR aW jR))
def FW:MS :=
 (aX (bU (aD cE (fM false (aB bQ a0)) Cs) (gN 6))
   (aX (bU (aD cE Cr (fM false (aB (aD cE (aD aR bL bQ) bD) a0))) (gN 7))
   (oD (lL oU dA (aB (hW (aB eY (aB (aD cE gE (aD aR fJ (kL bD))) (aB (aD (jG) (aD cE nB (aD aR nY bQ)) bD) a0)))) a0)))))
def Cq:Ev→Mo A :=
 (oA false 1 [3] (mH (aD aR aW fK)) (gN 0) (cG (aD EV (aD aR aW bQ) bL)) (aD aR aW bD))
def Cp:Ev→Mo A :=
 (oA false 1 [3] (mH (aD aR aW fK)) (gN 0) (cG (aD AE (aD aR aW bQ) bL)) (aD aR aW jR))
def FV:MS :=
 (aX (bU (aD cE (fM false (aB bQ a0)) Cq) (gN 6))
   (aX (bU (aD cE Cp (fM false (aB (aD cE (aD aR aW bQ) bD) a0))) (gN 7))
   (oD (lL oU dA (aB (hW (aB eY (aB (aD cE gE (aD aR fJ (kL bD))) (aB (aD (jG) (aD cE nB (aD aR nY bQ)) bD) a0)))) a0)))))
def FX:MS :=
 (aX (bU (fM true a0) (gN 2))
  (aX (oC (mH (aD aR aW fK)) (rS 3 (gC (gN 3) (gC (gN 4) (gC (gN 5) uG)))) FW)
  (aX (oC (mH (aD aR bL fK)) (rS 3 (gC (gN 3) (gC (gN 4) (gC (gN 5) uG)))) FV)
  (dG (hW (aB (aD cE (aD aR aW bQ) (aD aR bL bQ)) (aB (aD cE (aD aR aW bD) (aD aR bL bD)) (aB (aU rT (aB (aD aR aW jR) (aB (aD aR bL jR) a0))) (aB (aU (OK false) (aB dA a0)) a0)))))))))
def lE:List A→Mo A:=eQ 8 FX
def wX:MS :=
 (iA (nF (cG (aD fZ (aD aR (aD aR nB HF) bQ) vM)) (cG (aD EV (aD aR (aD aR nB HF) jR) (aD cE (aD cE (aD cE BU eY) fJ) bD))))
     (oD (lL oU SV (aB HF a0)))
     jT)
def wW:MS :=
 (aX (bU (aD aR nB (aD aR nY (kL bD))) (rS 3 (gC (gN 8) (gC (gN 9) (gC (gN 10) uG)))))
   (aX (bU (fM true (aB (aD cE (aD aR nY (kL bD)) bD) a0)) (gN 11))
   (aX (oC (CB (aB (aD cE (aD aR nY (kL bD)) bD) (aB (aU kB (aB nB a0)) a0))) (gN 12) wX)
   (oD (lL oU nY (aB (aU OM (aB SV a0)) a0))))))
def uQ:Ev→Mo Bool :=
 (HN (cG (aD oQ nB (fM false a0))) (cG (aD uH (aD aR nY (kL bD)) (aD (jG) (aU kB (aB nB a0)) bD))))
def Cm:Ev→Mo A :=
 (oA false 1 [5] (mH nY) (gN 0) (cG (aD oQ bL (fM false a0))) (aD aR bL aW))
def FT:MS :=
 (aX (bU aW (rS 4 (gC (gN 2) (gC (gN 3) (gC (gN 4) (gC (gN 5) uG))))))
  (aX (bU (aD (pZ) dA bL) (gN 6))
  (aX (bU (fM true (aB bQ a0)) (gN 7))
  (aX (fun ρ Ω=>gY uQ wW ((fun _ _=>1000000) ρ Ω) ρ Ω)
  (dG (hW (aB dA (aB (aD cE eY fJ) (aB (aD cE gE bD) (aB Cm a0))))))))))
def GR:List A→Mo A:=eQ 13 FT
def Ct:MS :=
 (dG (aD cE (yC false aW CS (yD fK)) (hW (aB (aU (AD true) (aB (aD aR aW fK) a0)) a0))))
def vG:List A→Mo A:=eQ 1 Ct
def sA:MS :=
 (aX (bU (aU (bY 2 vF) (aB (aU (bY 2 jO) (aB aW (aB (aD cE (aD cE bL bD) (aD (fY) nY (aU rT (aB bD (aB nB a0))))) a0))) (aB nY a0))) (gN 8))
   (iA (HN (cG (aD fZ (aD (fY) vM nC) bQ)) (cG (aD AE (aU kB (aB fJ a0)) bD)))
    (aX (bU (lL EU fJ a0) (gN 9))
    (bU (aD aR (fM false (aB (aU (bY 2 lE) (aB (aD aR fJ (kL bD)) (aB BU a0))) (aB (aU (bY 2 lE) (aB BU (aB (aD aR fJ (kL bD)) a0))) a0))) (aD (fY) (aD (pZ) vM nC) jR)) (ET fJ (kL bD))))
    (iA (cG (aD fZ (aD (fY) vM nC) bD))
     (bU (aU (bY 2 GR) (aB (aD aR fJ (kL bD)) (aB gE a0))) (ET fJ (kL bD)))
     (oD (lL oU fJ (aB (aU (bY 2 xO) (aB (aU (bY 2 sN) (aB (aU (bY 2 vF) (aB vM (aB bD a0))) (aB eY a0))) (aB (aU (bY 1 GQ) (aB (aU (bY 2 vF) (aB vM (aB jR a0))) a0)) a0))) a0))))))
def QD:MS :=
 (aX (bU (lL EU fJ a0) (gN 9))
   (bU (aU (bY 2 lE) (aB (aD aR fJ (kL bD)) (aB BU a0))) (ET fJ (kL bD))))
def FQ:Ev→Mo Bool :=
 (cG (aD AE (aU kB (aB fJ a0)) bD))
def FR:MS :=
 (aX (bU (aD (fY) (aU (bY 2 jO) (aB aW (aB bL a0))) HG) (gN 3))
  (aX (bU (aD cE bD (aD (fY) (aD (pZ) (aU (bY 2 jO) (aB aW (aB bL a0))) HG) Gg)) (gN 4))
  (aX (bU (aU rT (aB bQ (aB (aD (jG) (aD (jG) (aU kB (aB aW a0)) bL) bD) a0))) (gN 5))
  (aX (bU (fM true (aB (hW (aB bQ (aB bQ (aB bQ (aB (fM false a0) a0))))) a0)) (gN 6))
  (aX (oC (CC (aB (aU OL (aB dA (aB (aU rT (aB nB (aB (aD (fY) (aD (pZ) (aU (bY 2 jO) (aB aW (aB bL a0))) (cI 30)) (aD cE dA bD)) a0))) a0))) a0)) (gN 7) sA)
  (aX (fun ρ Ω=>gY FQ QD ((fun _ _=>1000000) ρ Ω) ρ Ω)
  (dG (aD aR fJ bQ))))))))
def BN:List A→Mo A:=eQ 10 FR
end
end M
namespace V2
open PySem L2
theorem sC{α:Type}(l:List α)(x:α):bZ (l++[x]) (-1)=some x:=by
 unfold bZ jE;rw [if_neg (by decide),if_pos (by simp;omega)];simp;have:((-1:Int)+((l.length:Int)+1)).toNat=l.length:=by omega
 rw [this];simp
theorem MB(n:Nat):jE (n+1) (-1)=some n:=by
 unfold jE;rw [if_neg (by decide),if_pos (by omega)];congr 1;omega
theorem Ad{α:Type}(l:List α)(x:α):(l++[x])[(l++[x]).length - 1]? = some x:=by simp
theorem OX{ok:aG→Prop}{g:A→MS}{c:Ev→Mo Bool}{e:Ev→Mo A}(F:A→Option A)(P:Ev→Prop)(Ω0:aG)(aK:∀ys,ok (Ω0++[.lst ys])):∀(xs:List A) (ρ:Ev) (acc:List A),P ρ→acc.length+xs.length≤1000000 →
  (∀x∈xs,∀ρ,P ρ→∀ys,∃ρ1,P ρ1∧g x ρ (Ω0++[.lst ys])=some (.nx,ρ1,Ω0++[.lst ys])∧((∃y,F x=some y∧c ρ1 (Ω0++[.lst ys])=some (.ok true,Ω0++[.lst ys])∧e ρ1 (Ω0++[.lst ys])=some (.ok y,Ω0++[.lst ys]))∨(F x=none∧c ρ1 (Ω0++[.lst ys])=some (.ok false,Ω0++[.lst ys])))) →
  ∃ρ',kD ok g c e Ω0.length xs ρ (Ω0++[.lst acc])=some (ρ',Ω0++[.lst (acc++xs.filterMap F)])
 | [],ρ,acc,_,_,_=>⟨ρ,by simp [kD,aK]⟩
 | x::xs,ρ,acc,hP,hl,turn=>by
  simp only [eU]at hl;obtain⟨ρ1,ZT,e1,q⟩:=turn x lQ ρ hP acc;have hz:acc.length<sizeLine:=by rw [jS];omega
  rcases q with⟨y,f1,e2,e3⟩ | ⟨f1,e2⟩
  ·obtain⟨ρ',ih⟩:=OX F P Ω0 aK xs ρ1 (acc++[y]) ZT (by simp;omega) fun x hx=>turn x (fC _ hx);exact⟨ρ',by simp [kD,aK,e1,e2,e3,hz,ih,f1]⟩
  ·obtain⟨ρ',ih⟩:=OX F P Ω0 aK xs ρ1 acc ZT (by omega) fun x hx=>turn x (fC _ hx);exact⟨ρ',by simp [kD,aK,e1,e2,ih,f1]⟩
theorem TQ{n:Nat}{js:List Nat}{fi:Ev→Mo Src}{g:A→MS}{c:Ev→Mo Bool}{e:Ev→Mo A}{ρ:Ev}{Ω Ω0:aG}{S:Src}(F:A→Option A)(P:Ev→Prop)(Wh:fi ρ Ω=some (.ok S,Ω0))(aK:∀ys,S.ok (Ω0++[.lst ys]))(hP:P (pQ n js ρ))(hl:S.ds.length≤1000000)
  (turn:∀x∈S.ds,∀ρ,P ρ→∀ys,∃ρ1,P ρ1∧g x ρ (Ω0++[.lst ys])=some (.nx,ρ1,Ω0++[.lst ys])∧((∃y,F x=some y∧c ρ1 (Ω0++[.lst ys])=some (.ok true,Ω0++[.lst ys])∧e ρ1 (Ω0++[.lst ys])=some (.ok y,Ω0++[.lst ys]))∨(F x=none∧c ρ1 (Ω0++[.lst ys])=some (.ok false,Ω0++[.lst ys]))))
  (hc:dP Ω0.length (S.ds.filterMap F)):oA false n js fi g c e ρ Ω=some (.ok (.lst (S.ds.filterMap F)),Ω0):=by
 obtain⟨ρ',q⟩:=OX F P Ω0 aK S.ds (pQ n js ρ) [] hP (by simpa using hl) turn;simp [oA,mb,Wh,q,KG,hc]
theorem Yv{a b c:A}{Ω:aG}(ha:res Ω 6 a=some c)(hb:res Ω 6 b=some c)(hc:bR 8 c=true):oQ a b Ω=some (.ok (.bl false),Ω):=by
 simp [oQ,oS,ha,hb,hc,Ay 8 c hc]
theorem ON{a:A}{Ω:aG}(h:bR 8 a=true):fZ a a Ω=some (.ok (.bl true),Ω):=Yw (mP h) (mP h) h
theorem Nn{f:Ev→Mo (List A)}{ρ:Ev}{Ω Ω':aG}{j:Int}(h:f ρ Ω=some (.ok [.int j],Ω'))(hs:kO j):CC f ρ Ω=some (.ok (nH 0 j.toNat),Ω'):=by
 unfold CC;rw [XM h];show mb (hE (kO j)) _ Ω'=_;rw [XN _ hs];rfl
theorem EX{fi:Ev→Mo Src}{g:A→MS}{b:MS}{ρ:Ev}{Ω Ω':aG}{S:Src}(h:fi ρ Ω=some (.ok S,Ω')):oC fi g b ρ Ω=dC S.ok g b S.ds ρ Ω':=by
 unfold oC;rw [Na h]
theorem PM{n:Nat}:∀{as:List A},(∀a∈as,Cl n a)→dP n as
 | [],_=>by simp only [dP]
 | a::as,h=>by simp only [dP];exact⟨h a lQ,PM fun b hb=>h b (fC _ hb)⟩
end V2
namespace M
open PySem L2 V2
abbrev Rn:=Int×Int
def whole(rs:List Rn):Int:=(rs.map (·.2)).sum
theorem sC{α:Type}(xs:List α)(x:α):bZ (xs++[x]) (-1)=some x:=by
 unfold bZ jE;rw [if_neg (by omega)];have e:(-1+(((xs++[x]).length:Nat):Int)).toNat=xs.length:=by simp;omega
 have c:(0:Int) ≤ -1+(((xs++[x]).length:Nat):Int):=by simp;omega
 have d:(1:Int)≤(xs.length:Int)+1:=by omega
 simp only [c,cR,e,Option.bind_some];simp [d]
theorem DZ{b:Ev→Mo A}{fi:Ev→Mo A}{c:Ev→Mo Bool}{e:Ev→Mo A}(hb:b=oA false 1 [3] (mH fi) (gN 0) c e)(fs:List E)(hl:fs.length≤1000)(n:Int)(p:E→Bool)(g:E→Int)(ρ:Ev)(Ω:aG)
  (h0:fi ρ Ω=bX (.lst (encL fs)) Ω) (h3:(ρ[3]?).join=(aA n))
  (hc:∀f Ω,c [some (bK f),aA n] Ω=bX (p f) Ω) (he:∀f Ω,e [some (bK f),aA n] Ω=bX (.int (g f)) Ω):b ρ Ω=bX (.lst (((fs.filter p).map g).map A.int)) Ω:=by
 subst hb
 let F:A→Option A:=fun a=>match a with
  | .tup [.int x,.int y,.int z]=>if p (x,y,z)=true then(aA (g (x,y,z)))else none
  | _=>none
 have eF:(encL fs).filterMap F=((fs.filter p).map g).map A.int:=by
  clear h0 h3 hl
  induction fs with
  | nil=>rfl
  | cons f fs ih =>
   have e1:F (bK f)=if p f=true then(aA (g f))else none:=rfl
   show List.filterMap F (bK f::encL fs)=_;rw [Ej,e1]
   by_cases hp:p f=true
   ·simp [hp,ih]
   ·simp [hp,ih]
 rw [← eF];refine TQ (S:=srcOf (.lst (encL fs)) (encL fs)) F (fun ρ=>∃u,ρ=[u,aA n]) (by simp [h0]) (fun _=>rfl) ⟨none,by simp [pQ,h3]⟩ (by simp [encL];omega) ?_ (by
  show dP _ (List.filterMap F (encL fs));rw [eF];exact PM fun a h=>by
   obtain⟨r,_,rfl⟩:=AX.mp h;simp only [Cl])
 rintro x hx ρ ⟨u,rfl⟩ ys;obtain⟨f,_,rfl⟩:=AX.mp hx;refine⟨[some (bK f),aA n],⟨_,rfl⟩,by simp,?_⟩
 by_cases hp:p f=true
 ·exact .inl ⟨_,by show F (bK f)=_;exact if_pos hp,by rw [hc,hp],by rw [he]⟩
 ·exact .inr ⟨by show F (bK f)=_;exact if_neg hp,by rw [hc];simp [hp]⟩
theorem XT(xs:List E):bZ (A.int 0::(xs.map fun f=>f.2.1).map A.int) (-1)=(aA (jX xs)):=by
 rcases List.eq_nil_or_concat xs with rfl | ⟨ys,y,rfl⟩
 ·exact sC [] _
 ·have:=sC (A.int 0::(ys.map fun f=>f.2.1).map A.int) (.int y.2.1);rw [List.concat_eq_append,KI];simpa using this
theorem ZC(t:Int)(xs:List E):bZ ((xs.map fun f=>f.2.2).map A.int++[A.int (t+1)]) 0=(aA (gU t xs)):=by
 cases xs with
 | nil=>simp [gU]
 | cons x xs=>simp [gU]
theorem Sa(P:A)(t m c:Int)(fs:List E)(hl:fs.length≤1000)(e:E)(acc:List E)(ha:acc.length≤1000)(x6 x7:Option A)(Ω:aG) :
  ∃y6 y7,FW [some P,some (aT t m c fs),bB Ω.length,aA e.1,aA e.2.1,aA e.2.2,x6,x7] (Ω++[.lst (encL acc)])
   = mK [some P,some (aT t m c fs),bB Ω.length,aA e.1,aA e.2.1,aA e.2.2,y6,y7] (Ω++[.lst (encL (acc++[iU t fs e]))]):=by
 have q1:=DZ (b:=Cs) rfl fs hl e.1 (fun f=>decide (f.1<e.1)) (fun f=>f.2.1) [some P,some (aT t m c fs),bB Ω.length,aA e.1,aA e.2.1,aA e.2.2,x6,x7] (Ω++[.lst (encL acc)]) (by simp [aT]) rfl (fun f Ω=>by simp [bK]) (fun f Ω=>by simp [bK]);have q2:=fun x6=>DZ (b:=Cr) rfl fs hl e.1 (fun f=>decide (e.1≤f.1)) (fun f=>f.2.2) [some P,some (aT t m c fs),bB Ω.length,aA e.1,aA e.2.1,aA e.2.2,x6,x7] (Ω++[.lst (encL acc)]) (by simp [aT]) rfl (fun f Ω=>by simp [bK]) (fun f Ω=>by simp [bK]);have f1:(fs.filter fun f=>decide (f.1<e.1)).length≤fs.length:=RC _ _;have f2:(fs.filter fun f=>decide (e.1≤f.1)).length≤fs.length:=RC _ _;have h1:(1:Nat)≤sizeLine:=by decide
 have h3:(3:Nat)≤sizeLine:=by decide
 have z1:¬sizeLine<1+(fs.filter fun f=>decide (f.1<e.1)).length:=by rw [jS];omega
 have z2:¬sizeLine<(fs.filter fun f=>decide (e.1≤f.1)).length+1:=by rw [jS];omega
 have z3:acc.length<sizeLine:=by rw [jS];omega
 have hi:mS (Ω++[.lst (encL acc)]) (.aM Ω.length):=pT (jD (ds:=encL acc) (by simp));have kU:iX (Ω++[.lst (encL acc)]) (.aM Ω.length)=some (Ω.length,encL acc):=qG (by simp);have a1:=XT (fs.filter fun f=>decide (f.1<e.1));have a2:=ZC t (fs.filter fun f=>decide (e.1≤f.1));refine⟨some (.lst (A.int 0::((fs.filter fun f=>decide (f.1<e.1)).map fun f=>f.2.1).map A.int)),cM (((fs.filter fun f=>decide (e.1≤f.1)).map fun f=>f.2.2).map A.int++[A.int (t+1)]),?_⟩;unfold FW;rw [cY (ρ1:=[some P,some (aT t m c fs),bB Ω.length,aA e.1,aA e.2.1,aA e.2.2,cM (A.int 0::((fs.filter fun f=>decide (f.1<e.1)).map fun f=>f.2.1).map A.int),x7]) (Ω':=Ω++[.lst (encL acc)]) (by
  simp [q1,h1,pS,z1])]
 rw [cY (ρ1:=[some P,some (aT t m c fs),bB Ω.length,aA e.1,aA e.2.1,aA e.2.2,cM (A.int 0::((fs.filter fun f=>decide (f.1<e.1)).map fun f=>f.2.1).map A.int),cM (((fs.filter fun f=>decide (e.1≤f.1)).map fun f=>f.2.2).map A.int++[A.int (t+1)])]) (Ω':=Ω++[.lst (encL acc)]) (by
  have yQ:=q2 (some (.lst (A.int 0::((fs.filter fun f=>decide (f.1<e.1)).map fun f=>f.2.1).map A.int)));simp only [sJ,aT]at yQ;simp [yQ,h1,pS,z2,aT])]
 have er:encL (acc++[iU t fs e])=encL acc++[.tup [.int e.1,.int (e.2.1+jX (fs.filter fun f=>decide (f.1<e.1))),.int (e.2.2+gU t (fs.filter fun f=>decide (e.1≤f.1)) - 1)]]:=by simp [encL,bK,iU]
 rw [er];simp only [sJ]at a1 a2;simp [a1,a2,h3,hi,kU,z3]
theorem Rz(P:A)(t m c:Int)(fs:List E)(hl:fs.length≤1000)(e:E)(acc:List E)(ha:acc.length≤1000)(x6 x7:Option A)(Ω:aG) :
  ∃y6 y7,FV [some (aT t m c fs),some P,bB Ω.length,aA e.1,aA e.2.1,aA e.2.2,x6,x7] (Ω++[.lst (encL acc)])
   = mK [some (aT t m c fs),some P,bB Ω.length,aA e.1,aA e.2.1,aA e.2.2,y6,y7] (Ω++[.lst (encL (acc++[kQ t fs e]))]):=by
 have q1:=DZ (b:=Cq) rfl fs hl e.1 (fun f=>decide (f.1≤e.1)) (fun f=>f.2.1) [some (aT t m c fs),some P,bB Ω.length,aA e.1,aA e.2.1,aA e.2.2,x6,x7] (Ω++[.lst (encL acc)]) (by simp [aT]) rfl (fun f Ω=>by simp [bK]) (fun f Ω=>by simp [bK]);have q2:=fun x6=>DZ (b:=Cp) rfl fs hl e.1 (fun f=>decide (e.1<f.1)) (fun f=>f.2.2) [some (aT t m c fs),some P,bB Ω.length,aA e.1,aA e.2.1,aA e.2.2,x6,x7] (Ω++[.lst (encL acc)]) (by simp [aT]) rfl (fun f Ω=>by simp [bK]) (fun f Ω=>by simp [bK]);have f1:(fs.filter fun f=>decide (f.1≤e.1)).length≤fs.length:=RC _ _;have f2:(fs.filter fun f=>decide (e.1<f.1)).length≤fs.length:=RC _ _;have h1:(1:Nat)≤sizeLine:=by decide
 have h3:(3:Nat)≤sizeLine:=by decide
 have z1:¬sizeLine<1+(fs.filter fun f=>decide (f.1≤e.1)).length:=by rw [jS];omega
 have z2:¬sizeLine<(fs.filter fun f=>decide (e.1<f.1)).length+1:=by rw [jS];omega
 have z3:acc.length<sizeLine:=by rw [jS];omega
 have hi:mS (Ω++[.lst (encL acc)]) (.aM Ω.length):=pT (jD (ds:=encL acc) (by simp));have kU:iX (Ω++[.lst (encL acc)]) (.aM Ω.length)=some (Ω.length,encL acc):=qG (by simp);have a1:=XT (fs.filter fun f=>decide (f.1≤e.1));have a2:=ZC t (fs.filter fun f=>decide (e.1<f.1));refine⟨some (.lst (A.int 0::((fs.filter fun f=>decide (f.1≤e.1)).map fun f=>f.2.1).map A.int)),cM (((fs.filter fun f=>decide (e.1<f.1)).map fun f=>f.2.2).map A.int++[A.int (t+1)]),?_⟩;unfold FV;rw [cY (ρ1:=[some (aT t m c fs),some P,bB Ω.length,aA e.1,aA e.2.1,aA e.2.2,cM (A.int 0::((fs.filter fun f=>decide (f.1≤e.1)).map fun f=>f.2.1).map A.int),x7]) (Ω':=Ω++[.lst (encL acc)]) (by
  simp [q1,h1,pS,z1])]
 rw [cY (ρ1:=[some (aT t m c fs),some P,bB Ω.length,aA e.1,aA e.2.1,aA e.2.2,cM (A.int 0::((fs.filter fun f=>decide (f.1≤e.1)).map fun f=>f.2.1).map A.int),cM (((fs.filter fun f=>decide (e.1<f.1)).map fun f=>f.2.2).map A.int++[A.int (t+1)])]) (Ω':=Ω++[.lst (encL acc)]) (by
  have yQ:=q2 (some (.lst (A.int 0::((fs.filter fun f=>decide (f.1≤e.1)).map fun f=>f.2.1).map A.int)));simp only [sJ,aT]at yQ;simp [yQ,h1,pS,z2,aT])]
 have er:encL (acc++[kQ t fs e])=encL acc++[.tup [.int e.1,.int (e.2.1+jX (fs.filter fun f=>decide (f.1≤e.1))),.int (e.2.2+gU t (fs.filter fun f=>decide (e.1<f.1)) - 1)]]:=by simp [encL,bK,kQ]
 rw [er];simp only [sJ]at a1 a2;simp [a1,a2,h3,hi,kU,z3]
theorem Hd(es:List E):sU (encL es)=some (es.map oB):=by
 induction es with
 | nil=>rfl
 | cons e es ih =>
  show(yE (bK e)).bind _=_;have e1:yE (bK e)=some (oB e):=by simp [yE,bK,intsOf,oB]
  rw [e1];show(sU (encL es)).map _=_;rw [ih];rfl
theorem Sf(ok:aG→Prop)(aK:∀Ω,ok Ω)(P:A)(t m c:Int)(fs:List E)(hl:fs.length≤1000)(Ω:aG):∀(xs acc:List E) (x3 x4 x5 x6 x7:Option A),acc.length+xs.length≤1000 →
  ∃y3 y4 y5 y6 y7,dC ok (rS 3 (gC (gN 3) (gC (gN 4) (gC (gN 5) uG)))) FW (encL xs) [some P,some (aT t m c fs),bB Ω.length,x3,x4,x5,x6,x7] (Ω++[.lst (encL acc)])
   = mK [some P,some (aT t m c fs),bB Ω.length,y3,y4,y5,y6,y7] (Ω++[.lst (encL (acc++xs.map (iU t fs)))]):=by
 intro xs
 induction xs with
 | nil=>intro acc x3 x4 x5 x6 x7 _;exact⟨x3,x4,x5,x6,x7,by simp [encL,dC,aK]⟩
 | cons e xs ih =>
  intro acc x3 x4 x5 x6 x7 hz;simp only [eU]at hz;obtain⟨y6,y7,q⟩:=Sa P t m c fs hl e acc (by omega) x6 x7 Ω;obtain⟨z3,z4,z5,z6,z7,r⟩:=ih (acc++[iU t fs e]) (aA e.1) (aA e.2.1) (aA e.2.2) y6 y7 (by simp;omega);refine⟨z3,z4,z5,z6,z7,?_⟩;show dC ok _ _ (bK e::encL xs) _ _=_;rw [wL (aK _) (ρ0:=[some P,some (aT t m c fs),bB Ω.length,aA e.1,aA e.2.1,aA e.2.2,x6,x7]) (Ω0:=Ω++[.lst (encL acc)]) (by simp [bK]) q,r];simp
theorem Se(ok:aG→Prop)(aK:∀Ω,ok Ω)(P:A)(t m c:Int)(fs:List E)(hl:fs.length≤1000)(Ω:aG):∀(xs acc:List E) (x3 x4 x5 x6 x7:Option A),acc.length+xs.length≤1000 →
  ∃y3 y4 y5 y6 y7,dC ok (rS 3 (gC (gN 3) (gC (gN 4) (gC (gN 5) uG)))) FV (encL xs) [some (aT t m c fs),some P,bB Ω.length,x3,x4,x5,x6,x7] (Ω++[.lst (encL acc)])
   = mK [some (aT t m c fs),some P,bB Ω.length,y3,y4,y5,y6,y7] (Ω++[.lst (encL (acc++xs.map (kQ t fs)))]):=by
 intro xs
 induction xs with
 | nil=>intro acc x3 x4 x5 x6 x7 _;exact⟨x3,x4,x5,x6,x7,by simp [encL,dC,aK]⟩
 | cons e xs ih =>
  intro acc x3 x4 x5 x6 x7 hz;simp only [eU]at hz;obtain⟨y6,y7,q⟩:=Rz P t m c fs hl e acc (by omega) x6 x7 Ω;obtain⟨z3,z4,z5,z6,z7,r⟩:=ih (acc++[kQ t fs e]) (aA e.1) (aA e.2.1) (aA e.2.2) y6 y7 (by simp;omega);refine⟨z3,z4,z5,z6,z7,?_⟩;show dC ok _ _ (bK e::encL xs) _ _=_;rw [wL (aK _) (ρ0:=[some (aT t m c fs),some P,bB Ω.length,aA e.1,aA e.2.1,aA e.2.2,x6,x7]) (Ω0:=Ω++[.lst (encL acc)]) (by simp [bK]) q,r];simp
theorem PL(n:Nat)(es:List E):dP n (encL es):=PM fun a h=>by
 obtain⟨e,_,rfl⟩:=AX.mp h;simp [bK,Cl,dP]
theorem xE{s1 l1 d1 s2 l2 d2:Int}{es fs:List E}(h1:GF s1 l1 d1 es)(h2:GF s2 l2 d2 fs)(hz:es.length+fs.length<1000)(Ω:aG):lE [aT s1 l1 d1 es,aT s2 l2 d2 fs] Ω=bX (aT (s1+s2) (l1+l2) (max d1 d2) (kR s1 s2 es fs)) Ω:=by
 obtain⟨y3,y4,y5,y6,y7,q1⟩:=Sf (fun Ω'=>fA Ω' (.lst (encL es))=some (encL es)) (fun _=>rfl) (aT s1 l1 d1 es) s2 l2 d2 fs (by omega) Ω es [] none none none none none (by simp;omega);obtain⟨z3,z4,z5,z6,z7,q2⟩:=Se (fun Ω'=>fA Ω' (.lst (encL fs))=some (encL fs)) (fun _=>rfl) (aT s2 l2 d2 fs) s1 l1 d1 es (by omega) Ω fs (es.map (iU s2 fs)) y3 y4 y5 y6 y7 (by simp;omega);simp only [xH]at q1;have h4:(4:Nat)≤sizeLine:=by decide
 have ms:=Sb h1 h2;have tl:=Hd (es.map (iU s2 fs)++fs.map (kQ s1 es));have hlen:((es.map (iU s2 fs)++fs.map (kQ s1 es)).map oB).length<4000:=by simp;omega
 generalize es.map (iU s2 fs)++fs.map (kQ s1 es)=L at q2 ms tl hlen;have li:bP (Ω++[.lst (encL L)]) (.aM Ω.length)=some (encL L):=jD (by simp);have eo:((kR s1 s2 es fs).map oB).map oW=encL (kR s1 s2 es fs):=by
  rw [sJ];rfl
 show trim Ω (oF (FX [some (aT s1 l1 d1 es),some (aT s2 l2 d2 fs),none,none,none,none,none,none] Ω))=_;have e:FX [some (aT s1 l1 d1 es),some (aT s2 l2 d2 fs),none,none,none,none,none,none] Ω=some (.ret (aT (s1+s2) (l1+l2) (max d1 d2) (kR s1 s2 es fs)),[some (aT s1 l1 d1 es),some (aT s2 l2 d2 fs),bB Ω.length,z3,z4,z5,z6,z7],Ω++[.lst (encL L)]):=by
  unfold FX;rw [cY (ρ1:=[some (aT s1 l1 d1 es),some (aT s2 l2 d2 fs),bB Ω.length,none,none,none,none,none]) (Ω':=Ω++[.lst []]) (by simp)];rw [cY (ρ1:=[some (aT s1 l1 d1 es),some (aT s2 l2 d2 fs),bB Ω.length,y3,y4,y5,y6,y7]) (Ω':=Ω++[.lst (encL (es.map (iU s2 fs)))]) (by
   rw [EX (S:=srcOf (.lst (encL es)) (encL es)) (Ω':=Ω++[.lst []]) (by simp [aT])];exact q1)]
  rw [cY (ρ1:=[some (aT s1 l1 d1 es),some (aT s2 l2 d2 fs),bB Ω.length,z3,z4,z5,z6,z7]) (Ω':=Ω++[.lst (encL L)]) (by
   rw [EX (S:=srcOf (.lst (encL fs)) (encL fs)) (Ω':=Ω++[.lst (encL (es.map (iU s2 fs)))]) (by simp [aT])];exact q2)]
  simp only [hJ]at hlen;simp [aT,li,tl,hlen,ms,eo,h4]
 rw [e];simp only [oF];exact yF (by simp only [aT,Cl,dP];exact⟨trivial,trivial,trivial,PL _ _,trivial⟩)
theorem Bq{l s:Int}:∀{es:List E} {lo hp:Int} {pr:Option Int},Ch l s lo hp pr es→(∀e∈es,hp<e.2.2)∧es.Pairwise (fun a b=>a.2.2<b.2.2)
 | [],_,_,_,_=>⟨by simp,.nil⟩
 | e::r,lo,hp,pr,h=>by
  obtain⟨_,_,_,h4,_,_,h7⟩:=h;obtain⟨a,b⟩:=Bq h7;refine⟨fun x hx=>?_,xF.mpr ⟨a,b⟩⟩
  rcases gD.mp hx with z | z
  ·subst z;exact h4
  ·have:=a x z;omega
theorem Ro{s l0 d l:Int}{es:List E}(h:GF s l0 d es){i a b:Nat}(hi:i<a)(ZS:a<b)(hb:b<es.length)(hn:fE l es[i] es[b]=true):fE l es[i] es[a]=true:=by
 have h1:=List.pairwise_iff_getElem.mp (AI h.ch).1;have h2:=List.pairwise_iff_getElem.mp (Bq h.ch).2;rw [rA]at hn ⊢;have x1:=h1 i a (by omega) (by omega) hi;have x2:=h1 a b (by omega) hb ZS;have x3:=h2 a b (by omega) hb ZS
 rcases hn with z | z
 ·left;omega
 ·right;omega
def Eu(l:Int)(es:List E)(i j m:Nat):Prop:=j≤m∧∃hm:m<es.length,∃hi:i<es.length,(m=j∨fE l es[i] es[m]=true)∧∀k (hk:k<es.length),m<k→fE l es[i] es[k]=false
theorem Ho{s l0 d l:Int}{es:List E}(h:GF s l0 d es)(i:Nat):∀(c j:Nat),c=es.length - j→(dE:i<j)→(hj:j<es.length)→∃m,∃hm:m<es.length,Eu l es i j m∧hZ l (es[i]'(by omega)) (es.drop j)=es[m]::hZ l es[m] (es.drop (m+1)):=by
 intro c
 induction c with
 | zero=>intro j hc _ hj;omega
 | succ c ih =>
  intro j hc dE hj;have hi:i<es.length:=by omega
  by_cases e:j+1<es.length
  ·have k2:hZ l es[i] (es.drop j)=if fE l es[i] es[j+1]=true then hZ l es[i] (es.drop (j+1))else es[j]::hZ l es[j] (es.drop (j+1)):=by
    rw [kZ hj,kZ e];exact CK l es[i] es[j] es[j+1] (es.drop (j+1+1))
   by_cases hn:fE l es[i] es[j+1]=true
   ·rw [if_pos hn]at k2;obtain⟨m,hm,⟨f1,_,hi,f2,f3⟩,q⟩:=ih (j+1) (by omega) (by omega) e;refine⟨m,hm,⟨by omega,hm,hi,.inr ?_,f3⟩,k2.trans q⟩
    rcases f2 with z | z
    ·subst z;exact hn
    ·exact z
   ·rw [if_neg hn]at k2;refine⟨j,hj,⟨iM _,hj,by omega,.inl rfl,fun k hk Vx=>?_⟩,k2⟩
    by_cases z:k=j+1
    ·subst z;simpa using hn
    ·by_cases y:fE l es[i] es[k]=true
     ·exact absurd (Ro h (a:=j+1) (b:=k) (by omega) (by omega) hk y) hn
     ·simpa using y
  ·have e2:es.drop (j+1)=[]:=El (by omega);refine⟨j,hj,⟨iM _,hj,by omega,.inl rfl,fun k hk Vx=>by omega⟩,?_⟩;rw [kZ hj,e2];rfl
def qB(l:Int)(es:List E)(i:Nat):List Int:=((i:Int)+1)::((List.range' (i+1) (es.length - (i+1))).filter fun k=>fE l (es[i]?.getD (0,0,0)) (es[k]?.getD (0,0,0))).map Int.ofNat
theorem Ze{l:Int}{es:List E}{i m:Nat}(h:Eu l es i (i+1) m):jV (qB l es i)=(m:Int):=by
 obtain⟨f1,hm,hi,f2,f3⟩:=h;symm;have gi:es[i]?.getD (0,0,0)=es[i]:=by simp [hi]
 have gm:es[m]?.getD (0,0,0)=es[m]:=by simp [hm]
 refine XO ?_ fun x hx=>?_
 ·rcases f2 with z | z
  ·subst z;exact gD.mpr (.inl (by simp))
  ·refine fC _ (AX.mpr ⟨m,List.mem_filter.mpr ⟨?_,by rw [gi,gm];exact z⟩,rfl⟩);rw [Ed];omega
 ·rcases gD.mp hx with z | z
  ·subst z;omega
  ·obtain⟨k,hk,rfl⟩:=AX.mp z;obtain⟨k1,k2⟩:=List.mem_filter.mp hk;rw [Ed]at k1;have zR:k<es.length:=by omega
   have gk:es[k]?.getD (0,0,0)=es[k]:=by simp [zR]
   rw [gi,gk]at k2;show(k:Int)≤m
   by_cases y:m<k
   ·rw [f3 k zR y]at k2;cases k2
   ·omega
theorem Zd(es:List E)(l st:Int)(x0 x1 x2 x4 x7:Option A)(k:E)(iW:List Int)(hz:iW.length≤1000)(j:Nat)(hj:j<es.length)(S:aG) :
  wX [x0,x1,x2,aA l,x4,cM (encL es),aA st,x7,aA k.1,aA k.2.1,aA k.2.2,bB S.length,aA j] (S++[.lst (iW.map A.int)])
   = mK [x0,x1,x2,aA l,x4,cM (encL es),aA st,x7,aA k.1,aA k.2.1,aA k.2.2,bB S.length,aA j] (S++[.lst ((iW++if fE (l+st) k es[j]=true then [(j:Int)]else []).map A.int)]):=by
 have e1:bZ (encL es) (j:Int)=some (bK es[j]):=by rw [qH,oV,eV hj];rfl
 have hi:mS (S++[.lst (iW.map A.int)]) (.aM S.length):=pT (jD (ds:=iW.map A.int) (by simp));have kU:iX (S++[.lst (iW.map A.int)]) (.aM S.length)=some (S.length,iW.map A.int):=qG (by simp);have z3:iW.length<sizeLine:=by rw [jS];omega
 by_cases a:es[j].1=k.1
 ·have hn:fE (l+st) k es[j]=true:=(rA _ _ _).mpr (.inl a);simp [wX,e1,bK,a,hi,kU,z3,hn]
 ·by_cases b:es[j].2.2≤k.2.1+l+st+1
  ·have hn:fE (l+st) k es[j]=true:=(rA _ _ _).mpr (.inr (by omega));simp [wX,e1,bK,a,b,hi,kU,z3,hn]
  ·have hn:fE (l+st) k es[j]=false:=by
    by_cases z:fE (l+st) k es[j]=true
    ·rw [rA]at z;omega
    ·simpa using z
   simp [wX,e1,bK,a,b,hn]
theorem Zf(ok:aG→Prop)(aK:∀Ω,ok Ω)(es:List E)(l st:Int)(x0 x1 x2 x4 x7:Option A)(k:E)(S:aG):∀(js:List Nat) (iW:List Int) (iP:Option A),(∀j∈js,j<es.length)→iW.length+js.length≤1000 →
  ∃gQ,dC ok (gN 12) wX (js.map fun(j:Nat)=>A.int (j:Int)) [x0,x1,x2,aA l,x4,cM (encL es),aA st,x7,aA k.1,aA k.2.1,aA k.2.2,bB S.length,iP] (S++[.lst (iW.map A.int)])
   = mK [x0,x1,x2,aA l,x4,cM (encL es),aA st,x7,aA k.1,aA k.2.1,aA k.2.2,bB S.length,gQ] (S++[.lst ((iW++(js.filter fun j=>fE (l+st) k (es[j]?.getD (0,0,0))).map Int.ofNat).map A.int)]):=by
 intro js
 induction js with
 | nil=>intro iW iP _ _;exact⟨iP,by simp [dC,aK]⟩
 | cons j js ih =>
  intro iW iP hb hz;simp only [eU]at hz;have hj:=hb j lQ;have q:=Zd es l st x0 x1 x2 x4 x7 k iW (by omega) j hj S;have gj:es[j]?.getD (0,0,0)=es[j]:=by simp [hj]
  obtain⟨gQ,r⟩:=ih (iW++if fE (l+st) k es[j]=true then [(j:Int)]else []) (aA j) (fun x hx=>hb x (fC _ hx)) (by split <;> simp <;> omega);refine⟨gQ,?_⟩;rw [gM,wL (aK _) (ρ0:=[x0,x1,x2,aA l,x4,cM (encL es),aA st,x7,aA k.1,aA k.2.1,aA k.2.2,bB S.length,aA j]) (Ω0:=S++[.lst (iW.map A.int)]) (by simp) q,r];rw [List.filter_cons,gj]
  by_cases hn:fE (l+st) k es[j]=true
  ·simp [hn]
  ·simp [hn]
theorem Nm{f:Ev→Mo (List A)}{ρ:Ev}{Ω Ω':aG}{i j:Int}(h:f ρ Ω=bX [.int i,.int j] Ω')(hs:kO i∧kO j):CB f ρ Ω=bX (nH i (j - i).toNat) Ω':=by
 unfold CB;rw [XM h];show mb (hE (kO i∧kO j)) _ Ω'=_;rw [XN _ hs];rfl
theorem Nl(a c:Nat):(List.range c).map (fun(i:Nat)=>A.int (((a:Nat):Int)+(i:Int)))=(List.range' a c).map fun(j:Nat)=>A.int (j:Int):=by
 rw [List.range'_eq_map_range,sJ];refine List.map_congr_left fun k _=>?_;simp
theorem Hl(es:List E)(hlen:es.length≤500)(l st:Int)(x0 x1 x2 x4 x8 x9 pC nX iP:Option A)(Ω Δ:aG)(pre:List Nat)(i:Nat)(hi:i+1<es.length)(hp:pre.length≤500) :
  ∃gQ,wW [x0,x1,x2,aA l,x4,cM (encL es),aA st,bB Ω.length,x8,x9,pC,nX,iP] (Ω ++ .lst ((pre++[i]).map fun(j:Nat)=>A.int (j:Int))::Δ)
   = some (.nx,[x0,x1,x2,aA l,x4,cM (encL es),aA st,bB Ω.length,aA (es[i].1),aA (es[i].2.1),aA (es[i].2.2),bB (Ω.length+Δ.length+1),gQ],
     Ω ++ .lst (((pre++[i]).map fun(j:Nat)=>A.int (j:Int))++[.int (jV (qB (l+st) es i))])::(Δ++[.lst ((qB (l+st) es i).map A.int)])):=by
 let S:aG:=Ω ++ .lst ((pre++[i]).map fun(j:Nat)=>A.int (j:Int))::Δ
 have hS:S.length=Ω.length+Δ.length+1:=by simp [S];omega
 have pX:i<es.length:=by omega
 have e1:bZ (encL es) (i:Int)=some (bK es[i]):=by rw [qH,oV,eV pX];rfl
 have lst:bZ ((pre++[i]).map fun(j:Nat)=>A.int (j:Int)) (-1)=(aA (i:Int)):=by
  rw [mF];exact sC _ _
 have lk:∀T,bP (S++T) (.aM Ω.length)=some ((pre++[i]).map fun(j:Nat)=>A.int (j:Int)):=fun T=>jD (by simp [S]);have rE:bP S (.aM Ω.length)=some ((pre++[i]).map fun(j:Nat)=>A.int (j:Int)):=by simpa using lk []
 have h1:(1:Nat)≤sizeLine:=by decide
 have g0:es[i]?.getD (0,0,0)=es[i]:=by simp [pX]
 obtain⟨gQ,q⟩:=Zf (fun _=>True) (fun _=>trivial) es l st x0 x1 x2 x4 (bB Ω.length) es[i] S (List.range' (i+1) (es.length - (i+1))) [(i:Int)+1] iP (fun j hj=>by rw [Ed]at hj;omega) (by simp;omega);have eF:[(i:Int)+1]++((List.range' (i+1) (es.length - (i+1))).filter fun j=>fE (l+st) es[i] (es[j]?.getD (0,0,0))).map Int.ofNat=qB (l+st) es i:=by
  unfold qB;rw [g0];rfl
 rw [eF]at q;have fl:(qB (l+st) es i)≠[]:=by simp [qB]
 generalize qB (l+st) es i=FL at q fl;refine⟨gQ,?_⟩;show wW _ S=_;unfold wW;rw [cY (ρ1:=[x0,x1,x2,aA l,x4,cM (encL es),aA st,bB Ω.length,aA (es[i].1),aA (es[i].2.1),aA (es[i].2.2),nX,iP]) (Ω':=S) (by
  simp only [mF,gM,qJ]at rE lst;simp [rE,lst,e1,bK])]
 rw [cY (ρ1:=[x0,x1,x2,aA l,x4,cM (encL es),aA st,bB Ω.length,aA (es[i].1),aA (es[i].2.1),aA (es[i].2.2),bB S.length,iP]) (Ω':=S++[.lst ([(i:Int)+1].map A.int)]) (by
  simp only [mF,gM,qJ]at rE lst;simp [rE,lst,h1])]
 have KA:=lk [.lst ([(i:Int)+1].map A.int)];rw [cY (ρ1:=[x0,x1,x2,aA l,x4,cM (encL es),aA st,bB Ω.length,aA (es[i].1),aA (es[i].2.1),aA (es[i].2.2),bB S.length,gQ]) (Ω':=S++[.lst (FL.map A.int)]) (by
  rw [EX (S:=nH ((i:Int)+1) ((es.length:Int) - ((i:Int)+1)).toNat) (Ω':=S++[.lst ([(i:Int)+1].map A.int)]) (Nm (by
   simp only [mF,gM,qJ]at KA lst;have hle:(encL es).length=es.length:=by simp [encL]
   simp [KA,lst,hle]) ⟨by unfold kO;omega,by unfold kO;omega⟩)]
  have en:((es.length:Int) - ((i:Int)+1)).toNat=es.length - (i+1):=by omega
  have:=Nl (i+1) (es.length - (i+1));simp only [nH,en];rw [show((i:Int)+1)=(((i+1:Nat)):Int)by simp,this];exact q)]
 have XZ:=lk [.lst (FL.map A.int)];have lf:bP (S++[.lst (FL.map A.int)]) (.aM S.length)=some (FL.map A.int):=jD (by simp);have Wf:mS (S++[.lst (FL.map A.int)]) (.aM Ω.length):=pT XZ;have kU:iX (S++[.lst (FL.map A.int)]) (.aM Ω.length)=some (Ω.length,(pre++[i]).map fun(j:Nat)=>A.int (j:Int)):=qG (by simp [S]);have z3:pre.length+1<sizeLine:=by rw [jS];omega
 have iF:=YI FL;rw [← hS];have YR:(S++[Cell.lst (FL.map A.int)]).set Ω.length (Cell.lst (((pre++[i]).map fun(j:Nat)=>A.int (j:Int))++[A.int (jV FL)]))=Ω++Cell.lst (((pre++[i]).map fun(j:Nat)=>A.int (j:Int))++[A.int (jV FL)])::(Δ++[Cell.lst (FL.map A.int)]):=by simp [S]
 rw [← YR];clear YR lk rE KA XZ q hS
 clear_value S
 generalize S++[Cell.lst (FL.map A.int)]=T at *;have z4:(((pre++[i]).map fun(j:Nat)=>A.int (j:Int))).length<sizeLine:=by simp;omega
 generalize ((pre++[i]).map fun(j:Nat)=>A.int (j:Int))=KP at *;simp [lf,iF,fl,Wf,kU,z4]
abbrev fX(ks:List Nat):List A:=ks.map fun(j:Nat)=>A.int (j:Int)
theorem Hm(es:List E)(cQ:es≠[])(l st:Int)(x0 x1 x2 x4 x8 x9 pC nX iP:Option A)(Ω Δ:aG)(pre:List Nat)(i:Nat) :
  uQ [x0,x1,x2,aA l,x4,cM (encL es),aA st,bB Ω.length,x8,x9,pC,nX,iP] (Ω ++ .lst (fX (pre++[i]))::Δ)=bX (decide (i+1<es.length)) (Ω ++ .lst (fX (pre++[i]))::Δ):=by
 have rE:bP (Ω ++ .lst (fX (pre++[i]))::Δ) (.aM Ω.length)=some (fX (pre++[i])):=jD (by simp);have lst:bZ (fX (pre++[i])) (-1)=(aA (i:Int)):=by
  unfold fX;rw [List.map_append];exact sC _ _
 have hq:es.isEmpty=false:=by cases es with | nil=>exact absurd rfl cQ | cons=>rfl
 have hle:(encL es).length=es.length:=by simp [encL]
 generalize fX (pre++[i])=KP at rE lst;have hd:decide ((i:Int)<(es.length:Int) - 1)=decide (i+1<es.length):=by
  by_cases c:i+1<es.length
  ·rw [qD c];exact qD (by omega)
  ·rw [lX c];exact lX (by omega)
 simp [uQ,rE,lst,hq,hle,hd]
theorem Hk{s l0 d:Int}{es:List E}(h:GF s l0 d es)(cQ:es≠[])(hlen:es.length≤500)(l st:Int)(x0 x1 x2 x4:Option A)(Ω:aG):∀(c i:Nat) (pre:List Nat) (Δ:aG) (fuel:Nat) (x8 x9 pC nX iP:Option A),c=es.length - 1 - i→(hi:i<es.length)→c<fuel→pre.length≤i →
  ∃y8 y9 qS qR gQ post Δ',gY uQ wW fuel [x0,x1,x2,aA l,x4,cM (encL es),aA st,bB Ω.length,x8,x9,pC,nX,iP] (Ω ++ .lst (fX (pre++[i]))::Δ)
   = mK [x0,x1,x2,aA l,x4,cM (encL es),aA st,bB Ω.length,y8,y9,qS,qR,gQ] (Ω ++ .lst (fX (pre++[i]++post))::Δ')∧(∀k∈post,k<es.length)∧post.length≤es.length∧post.map (fun k=>es[k]?.getD (0,0,0))=hZ (l+st) es[i] (es.drop (i+1)):=by
 intro c
 induction c using Nat.strongRecOn with
 | _ c ih =>
  intro i pre Δ fuel x8 x9 pC nX iP hc hi hf hp;obtain⟨fu,rfl⟩:∃fu,fuel=fu+1:=⟨fuel - 1,by omega⟩;have t:=Hm es cQ l st x0 x1 x2 x4 x8 x9 pC nX iP Ω Δ pre i
  by_cases hl:i+1<es.length
  ·obtain⟨m,hm,fr,q⟩:=Ho (l:=l+st) h i (es.length - (i+1)) (i+1) rfl (by omega) hl;have fm:=Ze fr;obtain⟨gQ,b⟩:=Hl es hlen l st x0 x1 x2 x4 x8 x9 pC nX iP Ω Δ pre i hl (by omega);rw [fm]at b;have him:i+1≤m:=fr.1;have ek:((pre++[i]).map fun(j:Nat)=>A.int (j:Int))++[.int ((m:Nat):Int)]=fX ((pre++[i])++[m]):=by simp
   rw [ek]at b;rw [qD hl]at t;obtain⟨z8,z9,Fh,Fg,Ff,post,Δ',r1,r2,r3,r4⟩:=ih (es.length - 1 - m) (by omega) m (pre++[i]) (Δ++[.lst ((qB (l+st) es i).map A.int)]) fu (aA (es[i].1)) (aA (es[i].2.1)) (aA (es[i].2.2)) (bB (Ω.length+Δ.length+1)) gQ rfl hm (by omega) (by simp;omega);refine⟨z8,z9,Fh,Fg,Ff,m::post,Δ',?_,?_,?_,?_⟩
   ·rw [wK t b,r1];simp
   ·intro k hk
    rcases gD.mp hk with z | z
    ·subst z;exact hm
    ·exact r2 k z
   ·have e1:(post.map fun k=>es[k]?.getD (0,0,0)).length≤(es.drop (m+1)).length:=by
     rw [r4];have:∀(xs:List E) (k:E),(hZ (l+st) k xs).length≤xs.length:=by
      intro xs
      induction xs with
      | nil=>intro k;simp [hZ]
      | cons x r YK =>
       intro k;cases r with
       | nil=>simp [hZ]
       | cons y r =>
        rw [CK];split
        ·have:=YK k;simp only [eU]at this ⊢;omega
        ·have:=YK x;simp only [eU]at this ⊢;omega
     exact this _ _
    simp only [hJ,uZ]at e1;simp only [eU];omega
   ·rw [gM,r4,q];simp [hm]
  ·rw [lX hl]at t;refine⟨x8,x9,pC,nX,iP,[],Δ,?_,by simp,by simp,?_⟩
   ·rw [FA t];simp
   ·rw [El (by omega)];simp [hZ]
theorem Hq(es:List E)(ks:List Nat)(hk:es≠[]→∀k∈ks,k<es.length)(hz:ks.length≤2000)(Ω:aG)(c:Nat)(hc:Ω[c]? = some (.lst (fX ks)))(ρ:Ev)(h7:(ρ[7]?).join=(bB c))(h5:(ρ[5]?).join=some (.lst (encL es))) :
  Cm ρ Ω=bX (.lst (encL (if es.isEmpty then []else ks.map fun k=>es[k]?.getD (0,0,0)))) Ω:=by
 let F:A→Option A:=fun a=>match a with
  | .int j=>if es.isEmpty then none else some (bK (es[j.toNat]?.getD (0,0,0)))
  | _=>none
 have eF:(fX ks).filterMap F=encL (if es.isEmpty then []else ks.map fun k=>es[k]?.getD (0,0,0)):=by
  cases he:es.isEmpty with
  | true =>
   have:∀a,F a=none:=by
    intro a;cases a <;> simp [F,he]
   simp [this,encL]
  | false =>
   simp only [fX,List.filterMap_map,eB,cK,encL,sJ];rw [← List.filterMap_eq_map];congr 1;funext k;simp [F,he]
 have kU:c<Ω.length:=(eA.mp hc).1;have si:∀T,fA (Ω++T) (.aM c)=some (fX ks):=fun T=>by
  rw [Me];exact jD (by rw [gO kU];exact hc)
 have Mn:fA Ω (.aM c)=some (fX ks):=by simpa using si []
 rw [← eF];refine TQ (S:=srcOf (.aM c) (fX ks)) F (fun ρ=>∃u,ρ=[u,cM (encL es)]) (by simp only [mH,eZ,h7];simp [mb,Mn]) (fun ys=>si _) ⟨none,by simp [pQ,h5]⟩ (by simp;omega) ?_ (by
  show dP _ (List.filterMap F (fX ks));rw [eF];exact PL _ _)
 rintro x hx ρ ⟨u,rfl⟩ ys;obtain⟨k,Vv,rfl⟩:=AX.mp hx;refine⟨[aA k,cM (encL es)],⟨_,rfl⟩,by simp,?_⟩;cases he:es.isEmpty with
 | true=>exact .inr ⟨by simp [F,he],by simp [he]⟩
 | false =>
  have cQ:es≠[]:=fun z=>by rw [z]at he;cases he
  have zR:=hk cQ k Vv;have e1:bZ (encL es) (k:Int)=some (bK es[k]):=by rw [qH,oV,eV zR];rfl
  exact .inl ⟨_,by simp [F,he];rfl,by simp [he],by simp [e1,zR]⟩
theorem abZ{s l d:Int}{es:List E}(h:GF s l d es)(hlen:es.length≤500)(keep:Int)(hk:1≤keep)(dW:nW s keep)(Ω:aG):GR [aT s l d es,.int keep] Ω=bX (aT s (l+s/keep) (d+1) (sW (l+s/keep) es)) Ω:=by
 have h1:(1:Nat)≤sizeLine:=by decide
 have h4:(4:Nat)≤sizeLine:=by decide
 have wh:∃y8 y9 qS qR gQ ks Δ,gY uQ wW 1000000 [some (aT s l d es),aA keep,aA s,aA l,aA d,cM (encL es),aA (s/keep),bB Ω.length,none,none,none,none,none] (Ω++[.lst [.int 0]])
   = mK [some (aT s l d es),aA keep,aA s,aA l,aA d,cM (encL es),aA (s/keep),bB Ω.length,y8,y9,qS,qR,gQ] (Ω ++ .lst (fX ks)::Δ)∧(es≠[]→∀k∈ks,k<es.length)∧ks.length≤2000∧(if es.isEmpty then []else ks.map fun k=>es[k]?.getD (0,0,0))=sW (l+s/keep) es:=by
  cases es with
  | nil =>
   refine⟨none,none,none,none,none,[0],[],?_,by simp,by simp,rfl⟩;have t:uQ [some (aT s l d []),aA keep,aA s,aA l,aA d,cM (encL []),aA (s/keep),bB Ω.length,none,none,none,none,none] (Ω++[.lst [.int 0]])=bX false (Ω++[.lst [.int 0]]):=by
    simp [uQ]
   rw [FA (n:=999999) t];rfl
  | cons e r =>
   obtain⟨y8,y9,qS,qR,gQ,post,Δ',r1,r2,r3,r4⟩:=Hk h (by simp) hlen l (s/keep) (some (aT s l d (e::r))) (aA keep) (aA s) (aA d) Ω ((e::r).length - 1 - 0) 0 [] [] 1000000 none none none none none rfl (by simp) (by simp at hlen ⊢;omega) cP;refine⟨y8,y9,qS,qR,gQ,0::post,Δ',r1,fun _ k hk=>?_,?_,?_⟩
   ·rcases gD.mp hk with z | z
    ·subst z;simp
    ·exact r2 k z
   ·simp only [eU]at r3 hlen ⊢;omega
   ·simp only [List.isEmpty_cons,eB,cK,gM,r4];rfl
 obtain⟨y8,y9,qS,qR,gQ,ks,Δ,w1,w2,w3,w4⟩:=wh;show trim Ω (oF (FT [some (aT s l d es),aA keep,none,none,none,none,none,none,none,none,none,none,none] Ω))=_;have e:FT [some (aT s l d es),aA keep,none,none,none,none,none,none,none,none,none,none,none] Ω=some (.ret (aT s (l+s/keep) (d+1) (sW (l+s/keep) es)),[some (aT s l d es),aA keep,aA s,aA l,aA d,cM (encL es),aA (s/keep),bB Ω.length,y8,y9,qS,qR,gQ],Ω ++ .lst (fX ks)::Δ):=by
  unfold FT;rw [cY (ρ1:=[some (aT s l d es),aA keep,aA s,aA l,aA d,cM (encL es),none,none,none,none,none,none,none]) (Ω':=Ω) (by simp [aT])];rw [cY (ρ1:=[some (aT s l d es),aA keep,aA s,aA l,aA d,cM (encL es),aA (s/keep),none,none,none,none,none,none]) (Ω':=Ω) (by simp [dW])];rw [cY (ρ1:=[some (aT s l d es),aA keep,aA s,aA l,aA d,cM (encL es),aA (s/keep),bB Ω.length,none,none,none,none,none]) (Ω':=Ω++[.lst [.int 0]]) (by simp [h1])];rw [cY w1];have cp:=Hq es ks w2 w3 (Ω ++ .lst (fX ks)::Δ) Ω.length (by simp) [some (aT s l d es),aA keep,aA s,aA l,aA d,cM (encL es),aA (s/keep),bB Ω.length,y8,y9,qS,qR,gQ] rfl rfl;rw [w4]at cp;generalize fX ks=KP at cp;simp only [aT]at cp;simp [cp,h4,aT]
 rw [e];simp only [oF];exact yF (by simp only [aT,Cl,dP];exact⟨trivial,trivial,trivial,PL _ _,trivial⟩)
structure Po where
 s:Int
 l:Int
 d:Int
 es:List E
def aH(p:Po):A:=aT p.s p.l p.d p.es
structure Ok(keep:Int)(m:Nat)(p:Po):Prop where
 gf:GF p.s p.l p.d p.es
 kp:keep*p.l≤p.d*p.s
 dm:p.d≤m
theorem Rx(s t:Int):∀(n:Nat) (lo1 cN:Int) (es fs:List E),n=es.length+fs.length→(dB s t n lo1 cN es fs).length=n:=by
 intro n
 induction n with
 | zero=>intro lo1 cN es fs _;rfl
 | succ n ih =>
  intro lo1 cN es fs h;cases es with
  | nil =>
   cases fs with
   | nil=>simp at h
   | cons f fs=>simp only [dB,eU];rw [ih _ _ _ _ (by simp at h ⊢;omega)]
  | cons e es =>
   cases fs with
   | nil=>simp only [dB,eU];rw [ih _ _ _ _ (by simp at h ⊢;omega)]
   | cons f fs =>
    simp only [dB];split
    ·simp only [eU];rw [ih _ _ _ _ (by simp at h ⊢;omega)]
    ·simp only [eU];rw [ih _ _ _ _ (by simp at h ⊢;omega)]
theorem HV(l:Int):∀(xs:List E) (k:E),(hZ l k xs).length≤xs.length
 | [],_=>iM _
 | [x],_=>iM _
 | x::y::r,k=>by
  rw [CK];split
  ·exact Nat.le_succ_of_le (HV l (y::r) k)
  ·exact QU (HV l (y::r) x)
theorem Hn(l:Int)(es:List E):(sW l es).length≤es.length:=by
 cases es with
 | nil=>exact iM _
 | cons x xs=>exact QU (HV l xs x)
def fN(p q:Po):Po:=⟨p.s+q.s,p.l+q.l,max p.d q.d,kR p.s q.s p.es q.es⟩
def yG(keep:Int)(p:Po):Po:=⟨p.s,p.l+p.s/keep,p.d+1,sW (p.l+p.s/keep) p.es⟩
def oK(ps:List Po):Nat:=(ps.map fun p=>p.es.length).sum
def sX(ps:List Po):Int:=(ps.map fun p=>p.s).sum
structure AR(i:Nat)(ps:List Po):Prop where
 ne:ps≠[]
 gf:∀p∈ps,GF p.s p.l p.d p.es
 le:oK ps≤2*i
 ln:ps.length≤i+1
 sz:sX ps≤1000000*i
theorem pH(l:List Po)(p:Po):sX (l++[p])=sX l+p.s:=by simp [sX]
theorem oJ(l:List Po)(p:Po):oK (l++[p])=oK l+p.es.length:=by simp [oK]
theorem tM(p q:Po):(fN p q).es.length=p.es.length+q.es.length:=by
 show(dB _ _ _ _ _ _ _).length=_;rw [Rx _ _ _ _ _ _ _ rfl]
theorem Ea(n t:Int)(Ω:aG):xO [.int n,.int t] Ω=bX (aH ⟨t,0,0,kP n t⟩) Ω:=by
 have h1:(1:Nat)≤sizeLine:=by decide
 have h2:(2:Nat)≤sizeLine:=by decide
 have h3:(3:Nat)≤sizeLine:=by decide
 have h4:(4:Nat)≤sizeLine:=by decide
 by_cases ht:t=1
 ·simp [xO,QF,ht,h1,h3,h4,kP,aH,aT,encL,bK]
 ·simp [xO,QF,ht,h2,h3,h4,kP,aH,aT,encL,bK]
theorem Hg(a:A)(ns:List Int)(tY:∀k Ω,0≤k→k<1000000→jO [a,.int k] Ω=bX (.int (lY ns k)) Ω)(st mo kind keep cs:Int)(tQ:0≤st)(YQ:st<1000)(hk:1≤keep)(dW:keep<1000)(zZ:0≤cs)(aeF:cs<1000)(Ω:aG)(k:Nat)(aeB:k<24)(ps:List Po)(h:AR k ps)(x8 x9:Option A) :
  ∃DI SF SE,sA [some a,aA st,aA mo,aA kind,aA keep,aA cs,bB Ω.length,aA k,x8,x9] (Ω++[.lst (ps.map aH)])
   = mK [some a,aA st,aA mo,aA kind,aA keep,aA cs,bB Ω.length,aA k,SF,SE] (Ω++[.lst (DI.map aH)])∧AR (k+1) DI:=by
 have hL:∀ds,bP (Ω++[.lst ds]) (.aM Ω.length)=some ds:=fun ds=>jD (by simp);have hI:∀ds,mS (Ω++[.lst ds]) (.aM Ω.length):=fun ds=>pT (hL ds);have hC:∀ds,iX (Ω++[.lst ds]) (.aM Ω.length)=some (Ω.length,ds):=fun ds=>qG (by simp);have hd:∀j,nW j 7:=fun j=>⟨by decide,by decide⟩
 have rG:0<max 1 cs:=by omega
 have r0:=BG (k:Int) (show max 1 cs≠0 by omega);have r1:=BH (k:Int) rG;have g1:=fun Ω=>tY (st+1+(k:Int)%max 1 cs) Ω (by omega) (by omega);have y0:=PU ns (st+1+(k:Int)%max 1 cs);have y1:=PR ns (st+1+(k:Int)%max 1 cs);generalize lY ns (st+1+(k:Int)%max 1 cs)=z at g1 y0 y1;have g2:=fun Ω=>uX z (k:Int) Ω y0 (by omega) (by omega) (by omega);have c0:=vY z (k:Int);have c1:=JR z (k:Int);generalize mQ z (k:Int)=c at g2 c0 c1;obtain⟨l1,x,rfl⟩:∃l1 x,ps=l1++[x]:=⟨ps.dropLast,ps.getLast h.ne,(RG h.ne).symm⟩;have hx:=h.gf x (by simp);have hle:=h.le;have MV:=h.ln;have cS:=h.sz;rw [oJ]at hle;rw [pH]at cS
 by_cases rH:c%7=0∧1<(l1++[x]).length
 ·obtain⟨h7,hlen⟩:=rH;have h0:l1≠[]:=fun e=>by simp [e]at hlen
  obtain⟨l,y,rfl⟩:∃l y,l1=l++[y]:=⟨l1.dropLast,l1.getLast h0,(RG h0).symm⟩;have hy:=h.gf y (by simp);rw [oJ]at hle;rw [pH]at cS;have m1:∀Ω,lE [aH y,aH x] Ω=bX (aH (fN y x)) Ω:=fun Ω=>xE hy hx (by omega) Ω;have m2:∀Ω,lE [aH x,aH y] Ω=bX (aH (fN x y)) Ω:=fun Ω=>xE hx hy (by omega) Ω;have qA:((l++[y]++[x]).map aH)[((l++[y]++[x]).map aH).length - 1]? = some (aH x):=by rw [mF];exact Ad _ _
  have rV:((l++[y]++[x]).map aH).dropLast=l.map aH++[aH y]:=by rw [mF,mF];simp
  have g3:bZ (l.map aH++[aH y]) (-1)=some (aH y):=V2.sC _ _;have g4:jE (l.length+1) (-1)=some l.length:=MB _;have g5:∀z,(l.map aH++[aH y]).set l.length z=l.map aH++[z]:=fun z=>by
   have e:l.length=(l.map aH).length:=by simp
   rw [e];simp
  have rM:1<((l++[y]++[x]).map aH).length:=by simp
  have wC:(l.map aH++[aH y]).length=l.length+1:=by simp
  have ad7:l.length+2≤k+1:=by simpa using MV
  have tU:∀p,(∀q∈[p],GF q.s q.l q.d q.es)→p.s=y.s+x.s→p.es.length=y.es.length+x.es.length→AR (k+1) (l++[p]):=fun p hp e1 e2 =>
   ⟨by simp,fun q hq=>(eK.mp hq).elim (fun z=>h.gf q (by simp [z])) (hp q),by rw [oJ];omega,by simp;omega,by rw [pH];omega⟩
  have tR:(2:Nat)≤sizeLine:=by decide
  generalize Yd:(l++[y]++[x]).map aH=L1 at qA rV rM ⊢;generalize Yc:l.map aH++[aH y]=L2 at rV g3 g5 wC;have EN:(1:Int)<(L1.length:Int):=by omega
  by_cases hs:c/7%2=0
  ·refine⟨l++[fN y x],aA c,some (aH x),?_,tU _ (fun q hq=>by simp at hq;rw [hq];exact wH hy hx) rfl (tM y x)⟩;simp [sA,rG,g1,g2,h7,hL,hI,hC,EN,qA,rV,g3,hd,hs,m1,m2,wC,g4,g5,tR]
  ·have dI:c/7%2=1:=by omega
   refine⟨l++[fN x y],aA c,some (aH x),?_,tU _ (fun q hq=>by simp at hq;rw [hq];exact wH hx hy) (by show x.s+y.s=_;omega) (by rw [tM];omega)⟩;simp [sA,rG,g1,g2,h7,hL,hI,hC,EN,qA,rV,g3,hd,dI,m1,m2,wC,g4,g5,tR]
 ·by_cases h1:c%7=1
  ·have q':∀Ω,GR [aH x,.int keep] Ω=bX (aH (yG keep x)) Ω:=fun Ω=>abZ hx (by omega) keep hk ⟨by omega,by omega⟩ Ω;have a1:(l1++[x]).map aH=l1.map aH++[aH x]:=by simp
   have b3:∀z,bZ (l1.map aH++[z]) (-1)=some z:=fun z=>V2.sC _ _;have b4:jE (l1.length+1) (-1)=some l1.length:=MB _;have b5:∀z,(l1.map aH++[aH x]).set l1.length z=l1.map aH++[z]:=fun z=>by
    have e:l1.length=(l1.map aH).length:=by simp
    rw [e];simp
   have hdd:0≤x.s/keep:=Int.ediv_nonneg hx.s0 (by omega);have aZ:(yG keep x).es.length≤x.es.length:=Hn _ _;refine⟨l1++[yG keep x],aA c,x9,?_,by simp,fun q hq=>?_,by rw [oJ];omega,by simp at MV ⊢;omega,by rw [pH];show _+x.s≤_;omega⟩
   ·rw [a1];have ht:((l1++[yG keep x]).map aH)=l1.map aH++[aH (yG keep x)]:=by simp
    rw [ht];simp [sA,rG,g1,g2,h1,hL,hI,hC,b3,b4,b5,q']
   ·rcases eK.mp hq with z | z
    ·exact h.gf q (by simp [z])
    ·simp at z;rw [z];exact Yo hx (show x.l≤x.l+x.s/keep by omega)
  ·have t1:=fun Ω=>uX c 2 Ω c0 (by omega) (by decide) (by decide);have t2:=fun Ω=>abU (mQ c 2) Ω (vY _ _);have t3:=fun Ω=>uX c 1 Ω c0 (by omega) (by decide) (by decide);have t4:=fun Ω=>abW (mQ c 1) kind Ω (vY _ _) (by have:=JR c 1;omega);have ht:=Hj (mQ c 2) (vY _ _);have Ve:=Hi (mQ c 2) (vY _ _);generalize sV (mQ c 2)=t at t2 ht Ve;generalize tJ (mQ c 1) kind=n at t4;have t5:=fun Ω=>Ea n t Ω;have hrl:=(show(kP n t).length≤2 by unfold kP;split <;> simp);have tU:(l1++[x]).length<sizeLine:=by rw [jS];omega
   refine⟨l1++[x]++[⟨t,0,0,kP n t⟩],aA c,x9,?_,by simp,fun q hq=>?_,by rw [oJ,oJ];show _+(kP n t).length≤_;omega,by simp at MV ⊢;omega,by rw [pH,pH];show _+t≤_;omega⟩
   ·have tT:((l1++[x]).map aH).length<sizeLine:=by rw [hJ];exact tU
    have YW:((l1++[x]).map aH).length=(l1++[x]).length:=by rw [hJ]
    have ht:((l1++[x]++[(⟨t,0,0,kP n t⟩:Po)]).map aH)=(l1++[x]).map aH++[aH ⟨t,0,0,kP n t⟩]:=by simp
    rw [ht];generalize hQ1:(l1++[x]).map aH=Q1 at tT YW ⊢;have Wq:c%7=0→¬(1:Int)<(Q1.length:Int):=fun z z'=>rH ⟨z,by rw [YW]at z';omega⟩
    by_cases h7:c%7=0
    ·simp [sA,rG,g1,g2,hL,hI,hC,h7,Wq h7,t1,t2,t3,t4,t5,tT]
    ·simp [sA,rG,g1,g2,hL,hI,hC,h7,h1,t1,t2,t3,t4,t5,tT]
   ·rcases eK.mp hq with z | z
    ·exact h.gf q z
    ·simp at z;rw [z];exact Ab n t ht
theorem Hh(Ω:aG)(e0 e1 e2 e3 e4 e5 e7 e8:Option A):∀(m n:Nat) (ps:List Po) (u:Option A),ps.length=m+1→m<n→(∀p∈ps,GF p.s p.l p.d p.es)→oK ps≤48 →
  ∃(p:Po) (u':Option A),gY FQ QD n [e0,e1,e2,e3,e4,e5,bB Ω.length,e7,e8,u] (Ω++[.lst (ps.map aH)])=mK [e0,e1,e2,e3,e4,e5,bB Ω.length,e7,e8,u'] (Ω++[.lst [aH p]])∧GF p.s p.l p.d p.es∧p.es.length=oK ps∧p.s=sX ps:=by
 have hL:∀ds,bP (Ω++[.lst ds]) (.aM Ω.length)=some ds:=fun ds=>jD (by simp);have hI:∀ds,mS (Ω++[.lst ds]) (.aM Ω.length):=fun ds=>pT (hL ds);have hC:∀ds,iX (Ω++[.lst ds]) (.aM Ω.length)=some (Ω.length,ds):=fun ds=>qG (by simp);intro m
 induction m with
 | zero =>
  intro n ps u hb hn hg hl;obtain⟨n,rfl⟩:∃k,n=k+1:=⟨n - 1,by omega⟩;obtain⟨b,rfl⟩:=List.length_eq_one_iff.mp hb;exact⟨b,u,by rw [FA (Ω1:=Ω++[.lst [aH b]]) (by simp [FQ,hL])],hg b (by simp),by simp [oK],by simp [sX]⟩
 | succ m ih =>
  intro n ps u hb hn hg hl;obtain⟨n,rfl⟩:∃k,n=k+1:=⟨n - 1,by omega⟩;have cQ:ps≠[]:=fun e=>by simp [e]at hb
  obtain⟨l1,x,rfl⟩:∃l1 x,ps=l1++[x]:=⟨ps.dropLast,ps.getLast cQ,(RG cQ).symm⟩;have h0:l1≠[]:=fun e=>by simp [e]at hb
  obtain⟨l,y,rfl⟩:∃l y,l1=l++[y]:=⟨l1.dropLast,l1.getLast h0,(RG h0).symm⟩;have hx:=hg x (by simp);have hy:=hg y (by simp);have hle:oK (l++[y]++[x])=oK l+y.es.length+x.es.length:=by rw [oJ,oJ]
  have m1:∀Ω,lE [aH y,aH x] Ω=bX (aH (fN y x)) Ω:=fun Ω=>xE hy hx (by omega) Ω;have g1:((l++[y]++[x]).map aH)[((l++[y]++[x]).map aH).length - 1]? = some (aH x):=by rw [mF];exact Ad _ _
  have g2:((l++[y]++[x]).map aH).dropLast=l.map aH++[aH y]:=by rw [mF,mF];simp
  have g3:bZ (l.map aH++[aH y]) (-1)=some (aH y):=V2.sC _ _;have g4:jE (l.length+1) (-1)=some l.length:=MB _;have g5:∀z,(l.map aH++[aH y]).set l.length z=l.map aH++[z]:=fun z=>by
   have e:l.length=(l.map aH).length:=by simp
   rw [e];simp
  have rM:1<((l++[y]++[x]).map aH).length:=by simp
  have wC:(l.map aH++[aH y]).length=l.length+1:=by simp
  have hm:(l++[fN y x]).map aH=l.map aH++[aH (fN y x)]:=by simp
  obtain⟨b,u',q1,q2,q3,q4⟩:=ih n (l++[fN y x]) (some (aH x)) (by simp at hb ⊢;omega) (by omega) (fun q hq=>(eK.mp hq).elim (fun z=>hg q (by simp [z])) fun z=>by simp at z;rw [z];exact wH hy hx) (by rw [oJ,tM];omega);refine⟨b,u',?_,q2,by rw [q3,oJ,tM];omega,by rw [q4,pH,pH,pH];show _+(y.s+x.s)=_;omega⟩;rw [← q1,hm];generalize Yd:(l++[y]++[x]).map aH=L1 at g1 g2 rM ⊢;generalize Yc:l.map aH++[aH y]=L2 at g2 g3 g5 wC;have EN:(1:Int)<(L1.length:Int):=by omega
  refine wK (Ω1:=Ω++[.lst L1]) (by simp [FQ,hL,EN]) ?_;simp [QD,hL,hI,hC,g1,g2,g3,m1,wC,g4,g5]
theorem aaS(n:Nat)(p:Po):Cl n (aH p):=acD n _ _ _ _
theorem abT(a:A)(ns:List Int)(tS:ns.length≤63)(Vf:∀Ω,fA Ω a=some (ns.map A.int))(tY:∀k Ω,0≤k→k<1000000→jO [a,.int k] Ω=bX (.int (lY ns k)) Ω)(st:Int)(tQ:0≤st)(YQ:st<1000)(Ω:aG) :
  ∃p:Po,BN [a,.int st,.int 24] Ω=bX (aH p) Ω∧GF p.s p.l p.d p.es∧p.es.length≤48∧p.s≤24000000:=by
 have c1:=fun Ω=>tY st Ω tQ (by omega);have c10:=PU ns st;have c11:=PR ns st;generalize lY ns st=z1 at c1 c10 c11;have Wm:∀j,nW j 5:=fun j=>⟨by decide,by decide⟩
 have Wn:∀j,nW j 30:=fun j=>⟨by decide,by decide⟩
 have h1:(1:Nat)≤sizeLine:=by decide
 have h4:(4:Nat)≤sizeLine:=by decide
 generalize zZ:max 0 ((ns.length:Int) - st - 1)=cs;have cs0:0≤cs:=by omega
 have cs1:cs<1000:=by omega
 generalize Vr:min 24 (max cs (z1/30%25))=mn;have mn0:0≤mn:=by omega
 have mn1:mn≤24:=by omega
 have ML:kO mn:=⟨by omega,by omega⟩;have p0:AR 0 [⟨0,0,0,[]⟩]:=⟨by simp,fun p hp=>by simp at hp;rw [hp];exact Ac,by simp [oK],by simp,by simp [sX]⟩;have e0:aH ⟨0,0,0,[]⟩ = .tup [.int 0,.int 0,.int 0,.lst []]:=rfl;obtain⟨ρ1,Ω1,e1,x7,x8,x9,ps,rfl,rfl,hp⟩:=As (ok:=fun _=>True) (g:=gN 7) (b:=sA)
  (fun i ρ Ω'=>∃(x7 x8 x9:Option A) (ps:List Po),ρ=[some a,aA st,aA 24,aA (z1%5),aA (1+z1/5%6),aA cs,bB Ω.length,x7,x8,x9]∧Ω'=Ω++[.lst (ps.map aH)]∧AR i ps) (fun _ _ _ _=>trivial)
  ((List.range mn.toNat).map fun(i:Nat)=>A.int (0+(i:Int))) 0 [some a,aA st,aA 24,aA (z1%5),aA (1+z1/5%6),aA cs,bB Ω.length,none,none,none] (Ω++[.lst [.tup [.int 0,.int 0,.int 0,.lst []]]]) ⟨none,none,none,[⟨0,0,0,[]⟩],rfl,rfl,p0⟩
  (by
   rintro i x ρ Ω' hx ⟨x7,x8,x9,ps,rfl,rfl,hp⟩;have hi:i<mn.toNat:=by simpa using(eA.mp hx).1
   obtain rfl:A.int (0+(i:Int))=x:=by
    have:=(eA.mp hx).2;simpa using this
   rw [xC]at hp ⊢;obtain⟨DI,SF,SE,q,wB⟩:=Hg a ns tY st 24 (z1%5) (1+z1/5%6) cs tQ YQ (by omega) (by omega) cs0 cs1 Ω i (by omega) ps hp x8 x9;rw [Int.zero_add];exact⟨_,_,_,_,rfl,.inl q,_,_,_,DI,rfl,rfl,wB⟩)
 simp only [xC,hJ,QZ]at hp;have hle:=hp.le;have cS:=hp.sz;obtain⟨p,u',q1,q2,q3,q4⟩:=Hh Ω (some a) (aA st) (aA 24) (aA (z1%5)) (aA (1+z1/5%6)) (aA cs) x7 x8 (ps.length - 1) 1000000 ps x9
  (by have:=List.length_pos_iff.mpr hp.ne;omega) (by have:=hp.ln;omega) hp.gf (by omega)
 refine⟨p,?_,q2,by omega,by omega⟩;simp only [Int.zero_add]at e1;have Ye:bP (Ω++[.lst [aH p]]) (.aM Ω.length)=some [aH p]:=jD (by simp);show trim Ω (oF (FR [some a,aA st,aA 24,none,none,none,none,none,none,none] Ω))=_;have e:FR [some a,aA st,aA 24,none,none,none,none,none,none,none] Ω=some (.ret (aH p),[some a,aA st,aA 24,aA (z1%5),aA (1+z1/5%6),aA cs,bB Ω.length,x7,x8,u'],Ω++[.lst [aH p]]):=by
  unfold FR;rw [cY (ρ1:=[some a,aA st,aA 24,aA (z1%5),none,none,none,none,none,none]) (Ω':=Ω) (by simp [c1])];rw [cY (ρ1:=[some a,aA st,aA 24,aA (z1%5),aA (1+z1/5%6),none,none,none,none,none]) (Ω':=Ω) (by simp [c1,Wm])];rw [cY (ρ1:=[some a,aA st,aA 24,aA (z1%5),aA (1+z1/5%6),aA cs,none,none,none,none]) (Ω':=Ω) (by simp [Vf,zZ])];rw [cY (ρ1:=[some a,aA st,aA 24,aA (z1%5),aA (1+z1/5%6),aA cs,bB Ω.length,none,none,none]) (Ω':=Ω++[.lst [.tup [.int 0,.int 0,.int 0,.lst []]]]) (by simp [h1,h4])];rw [cY (ρ1:=[some a,aA st,aA 24,aA (z1%5),aA (1+z1/5%6),aA cs,bB Ω.length,x7,x8,x9]) (Ω':=Ω++[.lst (ps.map aH)]) (by
   rw [EX (Nn (j:=mn) (Ω':=Ω++[.lst [.tup [.int 0,.int 0,.int 0,.lst []]]]) (by simp [c1,Wn,Vr]) ML)];simp only [nH,Int.zero_add];exact e1)]
  rw [cY (ρ1:=[some a,aA st,aA 24,aA (z1%5),aA (1+z1/5%6),aA cs,bB Ω.length,x7,x8,u']) (Ω':=Ω++[.lst [aH p]]) q1];simp [Ye]
 rw [e];simp only [Qh];exact yF (aaS _ _)
end M
namespace V2
open PySem PySem.Spec PyProof.Rows L2
def putD{α:Type}(f:Str)(v:α):List (Str×α)→List (Str×α)
 | []=>[(f,v)]
 | (g,x)::r=>if g=f then(g,v)::r else(g,x)::putD f v r
@[simp] def Fd.cell:Fd→Option Cell
 | .lst ds=>some (.lst ds)
 | .gZ aL=>some (.gZ aL)
 | .val _=>none
theorem XX{α:Type}{f:Str}:∀{l:List (Str×α)} {x:α},l.lookup f=some x→∃i,l[i]? = some (f,x)∧∀y,putD f y l=l.set i (f,y)
 | [],_,h=>by simp at h
 | (g,z)::r,x,h=>by
  by_cases e:g=f
  ·subst e;simp [List.lookup]at h;subst h;exact⟨0,rfl,fun y=>by simp [putD]⟩
  ·have hb:(f == g)=false:=Cc.mpr (fT e);simp only [List.lookup,hb]at h;obtain⟨i,h1,h2⟩:=XX h;exact⟨i+1,by simpa using h1,fun y=>by simp [putD,e,h2 y]⟩
section
variable{K:Frag}{G H:Hp}{ι:List Addr}{Ω:aG}
theorem uJ:∀{ws:List (Str×V)} {fs:List (Str×Fd)},jN K G ι H ws fs↔ws.length=fs.length∧∀(i:Nat) (h:Str) (v:V) (g:Str) (fd:Fd),ws[i]? = some (h,v)→fs[i]? = some (g,fd)→h=g∧iO K G ι H v fd
 | [],[]=>⟨fun _=>⟨rfl,fun i h v g fd q=>by simp at q⟩,fun _=>trivial⟩
 | [],_::_=>⟨fun h=>h.elim,fun h=>by simp at h⟩
 | _::_,[]=>⟨fun h=>h.elim,fun h=>by simp at h⟩
 | (f,v)::ws,(g,d)::fs=>by
  constructor
  ·rintro⟨h1,h2,h3⟩;obtain⟨q1,q2⟩:=uJ.mp h3;refine⟨by simp [q1],fun i h v' g' fd a b=>?_⟩;cases i with
   | zero=>simp at a b;obtain⟨rfl,rfl⟩:=a;obtain⟨rfl,rfl⟩:=b;exact⟨h1,h2⟩
   | succ i=>exact q2 i h v' g' fd (by simpa using a) (by simpa using b)
  ·rintro⟨q1,q2⟩;obtain⟨h1,h2⟩:=q2 0 f v g d rfl rfl;exact⟨h1,h2,uJ.mpr ⟨by simpa using q1,fun i h v' g' fd a b=>q2 (i+1) h v' g' fd (by simpa using a) (by simpa using b)⟩⟩
theorem jN.len{ws:List (Str×V)}{fs:List (Str×Fd)}(h:jN K G ι H ws fs):ws.length=fs.length:=(uJ.mp h).1
theorem iO.Qg{v:V}{fd:Fd}{c:Cell}(h:iO K G ι H v fd)(hc:fd.cell=some c):∃b,v = .ref b∧b∉ι∧(∃o,H b=some o)∧qN K G ι H b c:=by
 cases fd with
 | val a=>cases hc
 | lst ds=>cases hc;obtain⟨b,xs,h1,h2,h3,h4,h5⟩:=h;exact⟨b,h1,h3,⟨_,h4⟩,h2,xs,h4,h5⟩
 | gZ aL=>cases hc;obtain⟨b,ws,h1,h2,h3,h4,h5,h6⟩:=h;exact⟨b,h1,h3,⟨_,h4⟩,h2,ws,h4,h5,h6⟩
theorem Fd.aaV{fd:Fd}{c:Cell}(hc:fd.cell=some c):fd.own=true:=by cases fd <;> first | rfl | cases hc
theorem Fd.aaW{fd:Fd}{c:Cell}(hc:fd.cell=some c):c.noOwn=true:=by cases fd <;> cases hc <;> rfl
theorem iO.lend{b:Addr}{v:V}{fd:Fd}(h:iO K G ι H v fd)(hb:fd.own=true→v ≠ .ref b):iO K G (ι++[b]) H v fd:=by
 cases fd with
 | val a=>exact Den.ext (Ext.cell b) h
 | lst ds =>
  obtain⟨b',xs,h1,h2,h3,h4,h5⟩:=h;exact⟨b',xs,h1,h2,by simp;exact⟨h3,fun e=>hb rfl (by rw [h1,e])⟩,h4,h5.ext (Ext.cell b)⟩
 | gZ aL =>
  obtain⟨b',ws,h1,h2,h3,h4,h5,h6⟩:=h;exact⟨b',ws,h1,h2,by simp;exact⟨h3,fun e=>hb rfl (by rw [h1,e])⟩,h4,h5,h6.ext (Ext.cell b)⟩
theorem Wd.unfold{s:Nat}{cls f:Str}{fs:List (Str×Fd)}{fd:Fd}{c:Cell}(w:Wd K G ι Ω H)(hs:Ω[s]? = some (.ins cls fs))(hf:fs.lookup f=some fd)(hc:fd.cell=some c) :
  ∃b,Wd K G (ι++[b]) (Ω.set s (.ins cls (putD f (.val (.aM Ω.length)) fs))++[c]) H:=by
 obtain⟨a,ha⟩:=w.addr hs;obtain⟨g,C,dx,ws,h0,h1,h2⟩:=w.aM s _ a hs ha;obtain⟨i0,e1,e2⟩:=XX hf;obtain⟨q1,q2⟩:=uJ.mp h2;have pX:i0<fs.length:=(eA.mp e1).1;obtain⟨⟨k0,v0⟩,e3⟩:∃p,ws[i0]? = some p:=⟨ws[i0]'(by omega),eV _⟩;obtain⟨rfl,o0⟩:=q2 i0 k0 v0 f fd e3 e1;obtain⟨b,rfl,hb,⟨o,ho⟩,hC⟩:=o0.Qg hc;have WQ:fR H ι Ω s i0 b:=⟨a,cls,fs,C,dx,ws,_,_,fd,ha,hs,h1,e1,Fd.aaV hc,e3⟩;have wA:s<Ω.length:=(eA.mp hs).1;have hι:∀k,k<Ω.length→(ι++[b])[k]? = ι[k]?:=fun k hk=>gO (by rw [w.len];exact hk);have hΩ:∀k,k<Ω.length→(Ω.set s (.ins cls (putD k0 (.val (.aM Ω.length)) fs))++[c])[k]? = (Ω.set s (.ins cls (putD k0 (.val (.aM Ω.length)) fs)))[k]?:=fun k hk=>gO (by simpa using hk);refine⟨b,w.sub,?_,by simp [w.len],fun x hx=>?_,fun k c' a' z1 z2=>?_,fun b' k i k' i' z1 z2=>?_⟩
 ·rw [List.nodup_append];exact⟨w.inj,by simp,fun x hx y hy=>by simp at hy;subst hy;exact fun e=>hb (e ▸ hx)⟩
 ·rcases eK.mp hx with h | h
  ·exact w.live x h
  ·simp at h;subst h;exact⟨o,ho⟩
 ·by_cases hk:k<Ω.length
  ·rw [hι k hk]at z2;rw [hΩ k hk]at z1
   by_cases rJ:k=s
   ·subst rJ;rw [nQ wA]at z1;cases z1;rw [ha]at z2;cases z2;refine⟨g,C,dx,ws,h0,h1,uJ.mpr ⟨by rw [e2];simpa using q1,fun j h v g' rW y1 y2=>?_⟩⟩;rw [e2]at y2
    by_cases hj:j=i0
    ·subst hj;rw [nQ pX]at y2;cases y2;rw [e3]at y1;cases y1;refine⟨rfl,?_⟩;simp only [iO,Den];exact⟨b,rfl,by rw [← w.len];simp⟩
    ·rw [pA (fT hj)]at y2;obtain⟨r1,r2⟩:=q2 j h v g' rW y1 y2;refine⟨r1,r2.lend fun ow ev=>hj ?_⟩;subst ev;exact(w.sep b _ j _ i0 ⟨a,cls,fs,C,dx,ws,_,_,rW,ha,hs,h1,y2,ow,y1⟩ WQ).2
   ·rw [pA (fT rJ)]at z1;have q:=w.aM k c' a' z1 z2;cases c' with
    | lst ds=>obtain⟨y1,xs,y2,y3⟩:=q;exact⟨y1,xs,y2,y3.ext (Ext.cell b)⟩
    | gZ aL=>obtain⟨y1,qT,y2,y3,y4⟩:=q;exact⟨y1,qT,y2,y3,y4.ext (Ext.cell b)⟩
    | ins PJ fO =>
     obtain⟨y0,C',FD,qT,y1,y2,y3⟩:=q;obtain⟨p1,p2⟩:=uJ.mp y3;refine⟨y0,C',FD,qT,y1,y2,uJ.mpr ⟨p1,fun j h v g' rW y4 y5=>?_⟩⟩;obtain⟨r1,r2⟩:=p2 j h v g' rW y4 y5;refine⟨r1,r2.lend fun ow ev=>rJ ?_⟩;subst ev;exact(w.sep b k j s i0 ⟨a',PJ,fO,C',FD,qT,_,_,rW,z2,z1,y2,y5,ow,y4⟩ WQ).1
    | tab x pos qual=>exact q
    | dead=>trivial
  ·have nK:k=Ω.length:=by
    have:=(eA.mp z1).1;simp at this;omega
   subst nK;rw [← w.len]at z2;simp at z2;subst z2;simp at z1;subst z1;cases fd with
   | val x=>cases hc
   | lst ds=>cases hc;obtain⟨y1,xs,y2,y3⟩:=hC;exact⟨y1,xs,y2,y3.ext (Ext.cell b)⟩
   | gZ aL=>cases hc;obtain⟨y1,qT,y2,y3,y4⟩:=hC;exact⟨y1,qT,y2,y3,y4.ext (Ext.cell b)⟩
 ·have back:∀{k i},fR H (ι++[b]) (Ω.set s (.ins cls (putD k0 (.val (.aM Ω.length)) fs))++[c]) k i b'→fR H ι Ω k i b':=fun{k i} h=>by
   have Ym:=h;obtain⟨a',PJ,fO,C',FD,qT,g',h',rW,y1,y2,y3,y4,y5,y6⟩:=h
   by_cases hk:k<Ω.length
   ·rw [hι k hk]at y1;rw [hΩ k hk]at y2
    by_cases rJ:k=s
    ·subst rJ;rw [nQ wA]at y2;cases y2;rw [ha]at y1;cases y1;rw [h1]at y3;cases y3;rw [e2]at y4
     by_cases hj:i=i0
     ·subst hj;rw [nQ pX]at y4;cases y4;cases y5
     ·rw [pA (fT hj)]at y4;exact⟨a,_,fs,C,dx,ws,g',h',rW,ha,hs,h1,y4,y5,y6⟩
    ·rw [pA (fT rJ)]at y2;exact⟨a',PJ,fO,C',FD,qT,g',h',rW,y1,y2,y3,y4,y5,y6⟩
   ·have nK:k=Ω.length:=by
     have:=(eA.mp y2).1;simp at this;omega
    subst nK;exact(Ym.no (by simp) (Fd.aaW hc)).elim
  exact w.sep b' k i k' i' (back z1) (back z2)
theorem vI.get{n:Nat}:∀{fs:List (Str×Fd)} {i:Nat} {p:Str×Fd},vI n fs→fs[i]? = some p→GY n p.2
 | [],_,_,_,h=>by simp at h
 | _::_,0,_,c,h=>by simp at h;subst h;exact c.1
 | _::fs,i+1,_,c,h=>vI.get (fs:=fs) c.2 (by simpa using h)
end
structure ClS(Ω:aG)(ρ:Ev):Prop where
 aM:∀(k:Nat) (c:Cell),Ω[k]? = some c→Ey Ω.length c
 env:∀(i:Nat) (d:A),ρ[i]? = some (some d)→Cl Ω.length d
section
variable{K:Frag}{G H:Hp}{ι:List Addr}{Ω:aG}
theorem Wd.ins(w:Wd K G ι Ω H){s:Nat}{cls:Str}{fs:List (Str×Fd)}{v:V}(h:Ω[s]? = some (.ins cls fs))(d:Den K G ι v (.aM s)):∃a C dx,∃ws:List (Str×V),v = .ref a∧ι[s]? = some a∧G a=none∧nsIn K mainGlobals cls=some (some (.ref C))∧H a=some (.ins C dx ws)∧jN K G ι H ws fs:=by
 simp only [Den]at d;obtain⟨a,rfl,ha⟩:=d;obtain⟨g,C,dx,ws,h1,h2,h3⟩:=w.aM s _ a h ha;exact⟨a,C,dx,ws,rfl,ha,g,h1,h2,h3⟩
end
end V2
namespace L2
open PySem PySem.Spec PyProof.Rows
section
variable{X:Cx}{W:WX}{k:Nat}{f C:Addr}{fd:FuncData}{ps:List Str}{sp:Sp}{FE:List V}{ds:List Value}{x m:Str}{p pos apos:Pos}{e o:Expr}{es:List Expr}{ta:TE}{t:TA}
structure Fb(K:Frag)(R:Addr)(m:Str)(f:Addr):Prop where
 reads:PySem.W.readsIn K R (.type "type")=true
 find:PySem.W.findCls K (.ref R) (.type "type") m=some (.val (.ref f))
 ga:specialIn K (.ref R) "__getattribute__" = some (some (.builtin "type.__getattribute__"))
 kp:keepIn K (.ref f)=true
end
end L2
namespace V2
open PySem PySem.Spec PyProof.Rows L2
@[simp] def WT(n:Nat)(nO:List A)(F:List A→Mo A):List A→Mo A:=fun as=>if as.length+nO.length=n then F (as++nO)else stuck
structure xD(P:Program)(w:World)(K:Frag)(mg:Str→Option Value)(base:Heap)(cls m:Str)(k:Nat)(n:Nat)(nO:List A)(F:List A→Mo A):Prop where
 ex:∃C f fd ps ds FE,nsIn K mainGlobals cls=some (some (.ref C))∧sP K C∧Meth K C m f∧ps.length=n∧fD P w K mg base (mG P w) k f fd ps (nG K ps.length F)∧Binds K fd ps ds∧Vals FE ds∧∀G ι,aN K G ι FE nO
def AO(X:Cx)(m:Str)(tab:List (Str×(List A→Mo A))):Prop:=∀cls F,tab.lookup cls=some F→∃k n nO F0,F=WT n nO F0∧cW k X.A∧xD X.prog X.w X.K X.mg X.base cls m k n nO F0
section
variable{X:Cx}{W:WX}{m:Str}{tab:List (Str×(List A→Mo A))}{o e:Expr}{es:List Expr}{fo:Ev→Mo A}{fs:Ev→Mo (List A)}{pos apos:Pos}
theorem AO.nil:AO X m []:=fun cls F h=>by simp at h
theorem AO.cons{cls:Str}{k n:Nat}{nO:List A}{F:List A→Mo A}(h:xD X.prog X.w X.K X.mg X.base cls m k n nO F)(hr:cW k X.A)(t:AO X m tab):AO X m ((cls,WT n nO F)::tab):=fun c F' q=>by
 by_cases e:c=cls
 ·subst e;simp [List.lookup]at q;exact⟨k,n,nO,F,q.symm,hr,h⟩
 ·have hb:(c == cls)=false:=Cc.mpr e;simp only [List.lookup,hb]at q;exact t c F' q
structure Dy(P:Program)(w:World)(K:Frag)(mg:Str→Option Value)(base:Heap)(cls:Str)(k:Nat)(n:Nat)(F:List A→Mo A):Prop where
 ex:∃C f fd ps,nsIn K mainGlobals cls=some (some (.ref C))∧mg cls=some (.ref C)∧Mk K C f∧ps.length=n∧fD P w K mg base (mG P w) k f fd ps (nG K ps.length F)∧Binds K fd ps []
structure Em(P:Program)(w:World)(K:Frag)(mg:Str→Option Value)(base:Heap)(rk m:Str)(k:Nat)(n:Nat)(F:List A→Mo A):Prop where
 ex:∃R f fd ps,mg rk=some (.ref R)∧Fb K R m f∧ps.length=n∧fD P w K mg base (mG P w) k f fd ps (nG K ps.length F)∧Binds K fd ps []
end
abbrev adR(Ω:aG)(s:Nat)(cls f:Str)(fs:List (Str×Fd))(c:Cell):aG:=Ω.set s (.ins cls (putD f (.val (.aM Ω.length)) fs))++[c]
section
variable{P:Program}{w:World}{K:Frag}{mg:Str→Option Value}{base:Heap}
theorem OV{x qual:Str}{st:Stmt}{N ps:List Str}{k:Nat}{b:MS}{f:Addr}{fd:FuncData}(F:lD K x qual st f fd)(S:dM N ps (aY st))
  (gX:∀(f:Addr) (aV:Value) (A:Around) (outer:List Env) (s:Shared) (H:Hp) (E:XK),cW k (A.deeper (envOfC qual (aY st) s.heap.objs.size f aV)) →
   jK (qE P w K mg base N qual (aY st) f aV A outer s H E) (fun _=>E) (eR st) b):fD P w K mg base (mG P w) (k+1) f fd ps (nG K ps.length (eQ N.length b)):=by
 obtain⟨oc,od,kV,doc,pm,an,aV,ct,jU,rfl,lk,gW⟩:=F.ex;refine EY lk gW S (fun vs H Q E h=>h.1) fun A outer s H vs Q E hr iH=>?_;obtain⟨t,p,q⟩:=gX f aV A outer s H E hr;exact⟨t,KD p,Bx q iH⟩
structure RO(K:Frag)(mg:Str→Option Value)(cls m qual:Str)(st:Stmt):Prop where
 ex:∃C f fd,nsIn K mainGlobals cls=some (some (.ref C))∧mg cls=some (.ref C)∧sP K C∧Meth K C m f∧lD K m qual st f fd
theorem xD.of{cls m qual:Str}{st:Stmt}{N ps:List Str}{k:Nat}{b:MS}(h:RO K mg cls m qual st)(S:dM N ps (aY st))
  (bind:∀(kV doc pm:Value) (an:Option Addr) (aV ct:Value) (us:List Value),us.length=ps.length→bindArgs (fnOf m qual (kF st) (eR st) (aY st) .none kV doc pm an aV ct) ⟨us,[]⟩=pure (ps.zip us))
  (gX:∀(f:Addr) (aV:Value) (A:Around) (outer:List Env) (s:Shared) (H:Hp) (E:XK),cW k (A.deeper (envOfC qual (aY st) s.heap.objs.size f aV)) →
   jK (qE P w K mg base N qual (aY st) f aV A outer s H E) (fun _=>E) (eR st) b):xD P w K mg base cls m (k+1) ps.length [] (eQ N.length b):=by
 obtain⟨C,f,fd,h1,_,h2,h3,F⟩:=h.ex;exact⟨C,f,fd,ps,[],[],h1,h2,h3,rfl,OV F S gX,F.binds bind,.nil,fun _ _ => .nil⟩
theorem xD.none{cls m qual:Str}{st:Stmt}{N ps:List Str}{k n:Nat}(h:RO K mg cls m qual st)(hn:ps.length=n)(bind:∀(kV doc pm:Value) (an:Option Addr) (aV ct:Value) (us:List Value),us.length=ps.length→bindArgs (fnOf m qual (kF st) (eR st) (aY st) .none kV doc pm an aV ct) ⟨us,[]⟩=pure (ps.zip us)) :
  xD P w K mg base cls m k n [] (fun _=>stuck):=by
 obtain⟨C,f,fd,h1,_,h2,h3,F⟩:=h.ex;exact⟨C,f,fd,ps,[],[],h1,h2,h3,hn,⟨fun vs H Q E h=>h.1,fun A outer s H args us vs Q E hr he hb hv hs=>by obtain⟨_,_,_,_,_,_,_,q⟩:=hs;exact q.elim⟩,F.binds bind,.nil,fun _ _ => .nil⟩
structure Er(K:Frag)(mg:Str→Option Value)(cls qual:Str)(st:Stmt):Prop where
 ex:∃C f fd,nsIn K mainGlobals cls=some (some (.ref C))∧mg cls=some (.ref C)∧Mk K C f∧lD K "__init__" qual st f fd
theorem Dy.of{cls qual:Str}{st:Stmt}{N ps:List Str}{k:Nat}{b:MS}(h:Er K mg cls qual st)(S:dM N ps (aY st))
  (bind:∀(kV doc pm:Value) (an:Option Addr) (aV ct:Value) (us:List Value),us.length=ps.length→bindArgs (fnOf "__init__" qual (kF st) (eR st) (aY st) .none kV doc pm an aV ct) ⟨us,[]⟩=pure (ps.zip us))
  (gX:∀(f:Addr) (aV:Value) (A:Around) (outer:List Env) (s:Shared) (H:Hp) (E:XK),cW k (A.deeper (envOfC qual (aY st) s.heap.objs.size f aV)) →
   jK (qE P w K mg base N qual (aY st) f aV A outer s H E) (fun _=>E) (eR st) b):Dy P w K mg base cls (k+1) ps.length (eQ N.length b):=by
 obtain⟨C,f,fd,h1,h2,h3,F⟩:=h.ex;exact⟨C,f,fd,ps,h1,h2,h3,rfl,OV F S gX,F.binds bind⟩
structure acA(K:Frag)(mg:Str→Option Value)(rk m qual:Str)(st:Stmt):Prop where
 ex:∃R f fd,mg rk=some (.ref R)∧Fb K R m f∧lD K m qual st f fd
theorem Em.of{rk m qual:Str}{st:Stmt}{N ps:List Str}{k:Nat}{b:MS}(h:acA K mg rk m qual st)(S:dM N ps (aY st))
  (bind:∀(kV doc pm:Value) (an:Option Addr) (aV ct:Value) (us:List Value),us.length=ps.length→bindArgs (fnOf m qual (kF st) (eR st) (aY st) .none kV doc pm an aV ct) ⟨us,[]⟩=pure (ps.zip us))
  (gX:∀(f:Addr) (aV:Value) (A:Around) (outer:List Env) (s:Shared) (H:Hp) (E:XK),cW k (A.deeper (envOfC qual (aY st) s.heap.objs.size f aV)) →
   jK (qE P w K mg base N qual (aY st) f aV A outer s H E) (fun _=>E) (eR st) b):Em P w K mg base rk m (k+1) ps.length (eQ N.length b):=by
 obtain⟨R,f,fd,h1,h2,F⟩:=h.ex;exact⟨R,f,fd,ps,h1,h2,rfl,OV F S gX,F.binds bind⟩
end
open PySem PySem.Spec PyProof PyProof.Rows L2
end V2
namespace L2
open PySem PySem.Spec PyProof.Rows
def acF(h:Heap)(mg:Str→Option Value):Prop:=∃bm o,mg "__builtins__" = some (.ref bm)∧bm≠builtinsNs∧h.get? bm=some o∧o.cls = .type "module"∧o.dict=some builtinsNs∧o.data = .plain
structure aeW(h:Heap)(H:Hp)(f:Addr)(qual:Str)(params:Arguments)(body:Expr)(scope:Scope)(Bt:List (Str×Int)):Prop where
 ex:∃(cl:List (Str×Addr)) (pm ctv:Value) (c':Addr) (oc:Obj) (vs:Array Value) (t:Tok),
  H f=some (.fP (PySem.W.kla_obj "<lambda>" qual params body scope cl pm c' ctv) (.own 0))∧H c'=some (.fP oc (.own 0))∧oc.data = .fields vs∧vs[1]? = some (.str qual t) ∧
  (∀x y c,cl.lookup x=some c→cl.lookup y=some c→x=y)∧(∀y∈scope.names,y.2 = .free→∃c,cl.lookup y.1=some c) ∧
  (∀x c,cl.lookup x=some c→(∃v,h.IsCell c v)∧H c=none)∧∀p∈Bt,∃c t,cl.lookup p.1=some c∧h.IsCell c (some (.int p.2 t))
structure ab5(scope:Scope)(y:Str)(cs:List Str):Prop where
 kind:scope.kind = .function
 co:scope.isCoroutine=false
 gen:scope.isGenerator=false
 adC:∀x∈scope.names,x.2 ≠ .cell
 par:scope.names.lookup y=some .local
 Bu:∀x∈cs,scope.names.lookup x=some .free
end L2
namespace V2
open PySem PySem.Spec PyProof.Rows L2
structure aeV(K:Frag)(mg:Str→Option Value)(base:Heap)(x:Str):Prop where
 EC:K.In base
 glob:base.Ns mainGlobals mg
 blt:acF base mg
 hd:∃c P,PySem.W.tabIn K x=some (c,P)∧PySem.W.codeHdIn K c P=true
structure Es(X:Cx)(scope:Scope)(y:Str)(cs:List Str)(js:List Nat):Prop where
 S:ab5 scope y cs
 free:∀y∈scope.names,y.2 = .free→X.env.kindOf y.1=some .cell∨X.env.kindOf y.1=some .free
 Bt:js.map (fun j=>X.N[j]?)=cs.map some
 cell:∀x∈cs,X.env.scope.names.lookup x=some .cell
def RP(sc:Scope)(N:List Str)(scope:Scope)(y:Str)(cs:List Str)(js:List Nat):Prop :=
 ((scope.kind == .function)=true∧scope.isCoroutine=false∧scope.isGenerator=false)∧(∀x∈scope.names,(x.2 == .cell)=false)∧(scope.names.lookup y == some .local)=true∧(∀x∈cs,(scope.names.lookup x == some .free)=true) ∧
 (∀y∈scope.names,(y.2 == .free)=true→(sc.names.lookup y.1 == some .cell)=true)∧js.map (fun j=>N[j]?)=cs.map some∧∀x∈cs,(sc.names.lookup x == some .cell)=true
instance (sc:Scope) (N:List Str) (scope:Scope) (y:Str) (cs:List Str) (js:List Nat):Decidable (RP sc N scope y cs js):=by unfold RP;infer_instance
theorem Es.of{X:Cx}{scope:Scope}{y:Str}{cs:List Str}{js:List Nat}(sc:Scope)(N:List Str)(h1:X.env.scope=sc)(h2:X.N=N)(h:RP sc N scope y cs js):Es X scope y cs js:=by
 obtain⟨⟨a1,a2,a3⟩,a4,a5,a6,a7,a8,a9⟩:=h;refine⟨⟨by simpa using a1,a2,a3,fun x hx=>by simpa using a4 x hx,by simpa using a5,fun x hx=>by simpa using a6 x hx⟩,fun y hy hf => .inl ?_,by rw [h2];exact a8,fun x hx=>by rw [h1];simpa using a9 x hx⟩;have:=a7 y hy (by simp [hf]);show X.env.scope.names.lookup y.1=some .cell;rw [h1];simpa using this
@[elab_as_elim] theorem TR{P:List Value→Prop}(us:List Value)(h:us.length=0)(f:P []):P us:=by cases us with | nil=>exact f | cons _ _=>simp at h
@[elab_as_elim] theorem HR{P:List Value→Prop}(us:List Value)(h:us.length=1)(f:∀a,P [a]):P us:=by
 cases us with
 | nil=>simp at h
 | cons a r=>exact TR r (by simpa using h) (f a)
@[elab_as_elim] theorem mJ{P:List Value→Prop}(us:List Value)(h:us.length=2)(f:∀a b,P [a,b]):P us:=by
 cases us with
 | nil=>simp at h
 | cons a r=>exact HR (P:=fun r=>P (a::r)) r (by simpa using h) (f a)
@[elab_as_elim] theorem HQ{P:List Value→Prop}(us:List Value)(h:us.length=3)(f:∀a b c,P [a,b,c]):P us:=by
 cases us with
 | nil=>simp at h
 | cons a r=>exact mJ (P:=fun r=>P (a::r)) r (by simpa using h) (f a)
@[elab_as_elim] theorem Gm{P:List Value→Prop}(us:List Value)(h:us.length=4)(f:∀a b c d,P [a,b,c,d]):P us:=by
 cases us with
 | nil=>simp at h
 | cons a r=>exact HQ (P:=fun r=>P (a::r)) r (by simpa using h) (f a)
section
variable{X:Cx}{pins:List (Addr×Obj)}{σ:L2.St}{H:Hp}{s:Shared}
theorem Inv.AF(I:Inv X pins σ H s):∃m,s.heap.Ns X.env.locals m∧Fr X.base X.env.locals s.heap m :=
 let ⟨m,hn,_⟩:=I.loc
 ⟨m,hn,hn,I.bk,qI I.ok.mB I.ok.above⟩
end
end V2
namespace L2
open PySem PySem.Spec PyProof.Rows
open PySem PySem.Spec PyProof.Rows Builtin Builtin.ObjectAttr
section
variable{X:Cx}
def Hu(j:Nat):TE:=fun σ H Q=>∃i,σ[j]? = some (some (.int i))∧i.natAbs.log2<1920∧∀x,Q (.str x) H
end
theorem Rh{K:Frag}{h:Heap}{N:Addr}{mg:Str→Option Value}{n:Str}{v:Value}(X:K.In h)(G:h.Ns N mg)(e:nsIn K N n=some (some v)):mg n=some v:=by
 obtain⟨o,es,ep,ho,hd,_,hf⟩:=G;unfold nsIn at e;split at e
 ·rename_i c d iJ n' sl q;have:=X _ _ q;rw [ho]at this;cases this;cases hd;split at e
  ·rename_i en he;cases e;rw [← hf];unfold nsFind findBy;rw [← Array.find?_toList,he];rfl
  ·split at e <;> cases e
 ·cases e
def Av(K:Frag)(C fI:Addr):Bool:=match K.lookup C with
 | some ⟨.type "type",_,.cls cd,sl⟩=>(match cd.mro,sl.toList with
  | .ref C'::bm,[_,_,_,_,some (.builtin n),_]=>C' == C&&n == "ValueError.__new__" && !cd.hasDel&&cd.hasDict&&PySem.W.tailIn K FO bm&&PySem.W.nsOkIn K cd.ns&&nsIn K cd.ns "__init__" == some (some (.ref fI))
  | _,_=>false)
 | _=>false
structure Du(K:Frag)(C fI:Addr)(fld:Str):Prop where
 MF:Av K C fI=true
 fn:PySem.W.typeIn K (.ref fI)=some (.type "function")
 ac6:findIn K (.ref C) "__setattr__" = some (some (.builtin "object.__setattr__"))
 nof:findIn K (.ref C) fld=some none
theorem Du.obj{K:Frag}{C fI:Addr}{fld:Str}(O:Du K C fI fld){h:Heap}(X:K.In h):∃bm N nm q bs sn sub ab col dd k0 k1 k2 k3 k5 mN oI,h.get? C=some (excClassObj nm q C N bs bm true sn sub ab col dd k0 k1 k2 k3 k5 "ValueError.__new__")∧h.Ns N mN∧mN "__init__" = some (.ref fI)∧OwnTail h FO bm∧h.get? fI=some oI∧oI.cls = .type "function":=by
 have q:=O.MF;obtain⟨oI,mT,rO⟩:=sG.mp O.fn;unfold Av at q;split at q
 ·rename_i dd cd sl ho;split at q
  ·rename_i C' bm k0 k1 k2 k3 n k5 hm hs;simp only [jP,beq_iff_eq,xR]at q;obtain⟨⟨⟨⟨⟨⟨rfl,rfl⟩,zW⟩,ZL⟩,ht⟩,aK⟩,zO⟩:=q;obtain⟨nm,bs,mro,ns,qn,hd,sn,sub,ab,col,del⟩:=cd;dsimp only at hm zW aK zO ZL;subst hm zW ZL;have wA:sl = #[k0,k1,k2,k3,some (.builtin "ValueError.__new__"),k5]:=by
    obtain⟨l⟩:=sl;simp only at hs;rw [hs]
   subst wA;exact⟨bm,ns,nm,qn,bs,sn,sub,ab,col,dd,k0,k1,k2,k3,k5,_,oI,X _ _ ho,.of_isNs (isNs_of_in X aK),Rh X (.of_isNs (isNs_of_in X aK)) zO,PySem.W.tail_of_in X ht,X _ _ mT,rO⟩
  ·cases q
 ·cases q
structure ae3(K:Frag)(R:Addr):Prop where
 reads:PySem.W.readsIn K R (.type "type")=true
 find:PySem.W.findCls K (.ref R) (.type "type") "__init__" = some (.val (.builtin "ValueError.__init__"))
 ga:specialIn K (.ref R) "__getattribute__" = some (some (.builtin "type.__getattribute__"))
section
variable{X:Cx}{pins:List (Addr×Obj)}{σ:St}{H:Hp}{s1:Shared}{C fI R e:Addr}{fld qual rk sf pa:Str}{st:Stmt}{fd:FuncData}{t:Tok}{i:Int}{h2:Heap}{k:Nat}{je:Expr}{np ap cp ep p1 p2 QJ p3 apos:Pos}
structure aeY(st:Stmt)(fld rk sf pa:Str):Prop where
 scope:dM [sf,pa] [sf,pa] (aY st)
 glob:(aY st).names.lookup rk=some .globalImplicit
 adL:(aY st).names.lookup sf=some .local
 adK:(aY st).names.lookup pa=some .local
 dbg:(rk == ("__debug__" : Str))=false∧(sf == ("__debug__" : Str))=false∧(pa == ("__debug__" : Str))=false∧(sf == ("__classdict__" : Str))=false∧(pa == ("__classdict__" : Str))=false
 text:∃(je:Expr) (np ap cp ep p1 p2 QJ p3 apos:Pos),eR st=[.Expr (.Call (.Attribute (.Name rk np) "__init__" ap) [.Name sf p1,je] [] cp) ep, .Assign [.Attribute (.Name sf p2) fld QJ] (.Name pa p3) apos] ∧
  (∀env,starEach [.Name sf p1,je] env=(false,eval (.Name sf p1) env)::starEach [je] env)∧(∀env,starEach [je] env=(false,eval je env)::starEach [] env) ∧
  (∀env:Env,∃pl,eval (.Call (.Attribute (.Name rk np) "__init__" ap) [.Name sf p1,je] [] cp) env=(do
   let ov ← eval (.Name rk np) env
   standAt ap.atName
   let (f,first) ← holding [ov] (getMethod ov "__init__" pl)
   callWith cp f first (backTo cp (starEach [.Name sf p1,je] env)) [])) ∧
  (∀env,swapsWith (.Call (.Attribute (.Name rk np) "__init__" ap) [.Name sf p1,je] [] cp) none ep.line env=pure false) ∧
  (∀env,swapsWith (.Name pa p3) (some (.Attribute (.Name sf p2) fld QJ)) apos.line env=pure false) ∧
  (∀Y:Cx,Y.N=[sf,pa]→Y.env.scope=aY st→PE Y je (Hu 1))
end
structure XAt(K:Frag)(D:Addr)(fld:Str):Prop where
 ga:findIn K (.ref D) "__getattribute__" = some (some (.builtin "BaseException.__getattribute__"))
 gx:findIn K (.ref D) "__getattr__" = some none
 no:findIn K (.ref D) fld=some none
 be:subIn K (.ref D) (.type "BaseException")=some true
 hd:(clsIn K D).any (·.hasDict)=true
end L2
namespace V2
open PySem PySem.Spec PyProof.Rows L2
def acB(e:Exc)(d:Addr)(dx:Option Addr):Prop:=(e.fs=[]∧dx=none)∨(e.fs≠[]∧dx=some d)
structure Cau(K:Frag)(oe:Obj)(d:Addr)(e:Exc):Prop where
 dat:∃vs,oe.data = .fields vs
 cls:∃E,nsIn K mainGlobals e.cls=some (some (.ref E))∧oe.cls = .ref E
 dic:acB e d oe.dict
section
variable{P:Program}{w:World}{K:Frag}{mg:Str→Option Value}{base:Heap}
structure Et(K:Frag)(x qual:Str)(st:Stmt)(f T:Addr)(fd:FuncData):Prop where
 ex:∃(oc:Value) (od:Option Addr) (kV doc pm:Value) (an:Option Addr) (aV ct:Value) (jU:Array (Option Value)),
  fd=fnOf x qual (kF st) (eR st) (aY st) (.ref T) kV doc pm an aV ct∧K.lookup f=some ⟨oc,od,.func fd,jU⟩∧codeIn K aV qual=true
structure ab9(K:Frag)(mg:Str→Option Value)(cls m qual:Str)(st:Stmt)(dv:Array Value):Prop where
 ex:∃C f fd T o n,nsIn K mainGlobals cls=some (some (.ref C))∧mg cls=some (.ref C)∧sP K C∧Meth K C m f∧Et K m qual st f T fd∧K.lookup T=some o∧o.data = .seq dv n
end
end V2
namespace L2
open PySem
theorem cW.m{j k:Nat}{A:Around}(r:cW k A)(h:j≤k:=by first | decide | omega):cW j A:=r.mono h
end L2
namespace V2
open PySem L2 PyProof.Rows
variable{P:Program}{w:World}{K:Frag}{mg:Str→Option Value}{base:Heap}
structure Dw(K:Frag)(X:Addr)(m q:Str)(st:Stmt):Prop where
 ex:∃f fd,Meth K X m f∧lD K m q st f fd
theorem Dw.has{h:Heap}{cls m q:Str}{st:Stmt}{C:Addr}(M:Dw K C m q st)(X:K.In h)(G:h.Ns mainGlobals mg)(n:nsIn K mainGlobals cls=some (some (.ref C)))(L:sP K C):RO K mg cls m q st :=
 let ⟨f,fd,a,b⟩:=M.ex; ⟨C,f,fd,n,mg_of X G n,L,a,b⟩
structure En(K:Frag)(X:Addr)(q:Str)(st:Stmt):Prop where
 ex:∃f fd,Mk K X f∧lD K "__init__" q st f fd
theorem En.has{h:Heap}{cls q:Str}{st:Stmt}{C:Addr}(M:En K C q st)(X:K.In h)(G:h.Ns mainGlobals mg)(n:nsIn K mainGlobals cls=some (some (.ref C))):Er K mg cls q st :=
 let ⟨f,fd,a,b⟩:=M.ex; ⟨C,f,fd,n,mg_of X G n,a,b⟩
structure Dx(K:Frag)(X:Addr)(m q:Str)(st:Stmt)(dv:Array Value):Prop where
 ex:∃f fd T o n,Meth K X m f∧Et K m q st f T fd∧K.lookup T=some o∧o.data = .seq dv n
theorem Dx.has{h:Heap}{cls m q:Str}{st:Stmt}{C:Addr}{dv:Array Value}(M:Dx K C m q st dv)(X:K.In h)(G:h.Ns mainGlobals mg)(n:nsIn K mainGlobals cls=some (some (.ref C)))(L:sP K C):ab9 K mg cls m q st dv :=
 let ⟨f,fd,T,o,k,a,b,c,d⟩:=M.ex; ⟨C,f,fd,T,o,k,n,mg_of X G n,L,a,b,c,d⟩
theorem iI{N P:List Str}{sc:Scope}(a:sc.kind = .function:=by rfl)(b:sc.isCoroutine=false:=by rfl)(c:sc.isGenerator=false:=by rfl)(d:N.Nodup:=by decide +kernel)(e:N.take P.length=P:=by rfl)(f:∀x∈P,sc.names.lookup x=some .local∨sc.names.lookup x=some .cell:=by decide +kernel)(g:∀y∈sc.names,y.2 ≠ .free:=by decide +kernel):dM N P sc:=⟨a,b,c,d,e,f,g⟩
theorem zH{X:Cx}{scope:Scope}{ls:List Str}{js:List Nat}(sc:Scope)(N:List Str)(MM:X.env.scope=sc:=by rfl)(hN:X.N=N:=by rfl)(ok:KH scope sc N js=true:=by decide +kernel):xM X scope ls js := .of sc N MM hN ok
end V2
namespace M
open PySem V2
noncomputable section
def QG:MS :=
 (aX (bU (fM false (aB (aU (bY 1 vG) (aB aW a0)) (aB (aU (bY 1 vG) (aB bL a0)) a0))) (gN 2))
  (aX (bU (aU (bY 2 GP) (aB (aD aR dA bQ) (aB (aD aR dA bD) a0))) (gN 3))
  (aX (bU (aU (bY 2 lE) (aB aW (aB bL a0))) (gN 4))
  (aX (iA (nF (mI (cG (aU (bY 2 BO) (aB eY (aB gE a0))))) (cG (aD oQ dA (fM false (aB aW (aB bL a0))))))
   (dG (cB false))
   jT)
  (aX (oD (lL OO (aD aR (aD aR dA bQ) fK) a0))
  (aX (oD (lL oU (aD aR (aD aR dA bD) fK) (aB (hW (aB nC (aB nC (aB nC a0)))) a0)))
  (dG (aD fZ eY gE))))))))
def nT:List A→Mo A:=eQ 5 QG
def QC:MS :=
 (aX (bU (aD cE jR (aD (fY) (aU (bY 2 jO) (aB aW (aB bQ a0))) (aU rT (aB bD (aB (aU kB (aB aW a0)) a0))))) (gN 1))
  (aX (bU (aU (bY 3 BN) (aB (yC false aW CS (yD bL)) (aB bD (aB (cI 24) a0)))) (gN 2))
  (aX (bU (aU (bY 3 BN) (aB (yC false aW (yD (aD (jG) bL jR)) CS) (aB bD (aB (cI 24) a0)))) (gN 3))
  (aX (iA (nF (mI (cG (aU (bY 2 nT) (aB dA (aB eY a0))))) (nF (mI (cG (aU (bY 2 nT) (aB eY (aB dA a0))))) (mI (cG (aU (bY 2 nT) (aB dA (aB dA a0)))))))
   (dG (cB false))
   jT)
  (aX (bU (aU (bY 2 xO) (aB (aD (fY) (aU (bY 2 jO) (aB aW (aB bQ a0))) nC) (aB (aD (jG) (cI 1000000000) (aD (fY) (aD (pZ) (aU (bY 2 jO) (aB aW (aB bQ a0))) nC) fK)) a0))) (gN 4))
  (aX (bU (aU (bY 2 lE) (aB gE (aB dA a0))) (gN 5))
  (aX (iA (nF (mI (cG (aU (bY 2 nT) (aB gE (aB dA a0))))) (nF (mI (cG (aU (bY 2 nT) (aB eY (aB gE a0))))) (mI (cG (aU (bY 2 nT) (aB nB (aB (aU (bY 2 lE) (aB gE (aB gE a0))) a0)))))))
   (dG (cB false))
   jT)
  (aX (bU (aU (bY 0 BM) a0) (gN 6))
  (dG (CF (aU (bY 2 nT) (aB dA (aB fJ a0))) (CF (aU (bY 2 nT) (aB fJ (aB eY a0))) (CF (aU (bY 2 nT) (aB fJ (aB fJ a0))) (aD fZ fJ (hW (aB bQ (aB bQ (aB bQ (aB (fM false a0) a0))))))))))))))))))
def Ew:List A→Mo A:=eQ 7 QC
end
open PySem L2 V2
abbrev bV(s l d:Int)(x:A):A := .tup [.int s,.int l,.int d,x]
theorem ab3(s l d:Int)(x:A)(es:List E)(i:Nat)(Ω:aG)(hx:bP Ω x=some (encL es))(h:i≤es.length):vE [bV s l d x,.int i] Ω=bX (.tup [.int (lS es i),.int (mV s es i)]) Ω:=by
 have h2:(2:Nat)≤sizeLine:=by decide
 have hS:=tD hx
 by_cases h0:i=0
 ·subst h0;cases es with
  | nil=>simp [vE,AM,encL,lS,mV,h2,hS,hx]
  | cons e es=>simp [vE,AM,encL,bK,lS,mV,h2,hS,hx]
 ·have e1:bZ (encL es) ((i:Int) - 1)=some (bK (es[i - 1]?.getD (0,0,0))):=by
   rw [abH _ _ (by omega),oV,eV (by omega)];rfl
  have hp:0<i:=by omega
  by_cases hl:i<es.length
  ·have e2:bZ (encL es) (i:Int)=some (bK es[i]):=by rw [qH,oV,eV hl];rfl
   have MW:(i:Int)<es.length:=by omega
   simp [vE,AM,e1,e2,hp,hl,MW,h2,bK,lS,mV,h0,hS,hx]
  ·have MW:¬(i:Int)<es.length:=by omega
   simp [vE,AM,e1,hp,hl,MW,h2,bK,lS,mV,h0,hS,hx]
theorem Dz(e:E)(s l d:Int)(x:A)(es:List E)(i:Nat)(Ω:aG)(hx:bP Ω x=some (encL es))(h:i≤es.length):BL [bK e,bV s l d x,.int i] Ω=bX (bK (e.1,e.2.1+lS es i,e.2.2+mV s es i)) Ω:=by
 have h3:(3:Nat)≤sizeLine:=by decide
 have q:=ab3 s l d x es i Ω hx h;simp only [bV]at q ⊢;simp [BL,Cf,q,bK,h3]
theorem ab0(x y:A)(es fs:List E)(i j:Nat)(Ω:aG)(hx:bP Ω x=some (encL es))(hy:bP Ω y=some (encL fs))(hi:i≤es.length)(hj:j≤fs.length):xN [x,.int i,y,.int j] Ω=bX (.bl (mY (es.drop i) (fs.drop j))) Ω:=by
 have hS:=tD hx;have hT:=tD hy
 by_cases h1:i=es.length
 ·subst h1;simp [xN,FP,mY,hS,hT,hx,hy]
 ·have hl:i<es.length:=by omega
  have e1:bZ (encL es) (i:Int)=some (bK es[i]):=by rw [qH,oV,eV hl];rfl
  have n1:¬(i:Int)=(es.length:Int):=by omega
  by_cases h2:j=fs.length
  ·subst h2;have fe:mY (es.drop i) []=true:=by rw [kZ hl];rfl
   simp [xN,FP,fe,n1,hS,hT,hx,hy]
  ·have nJ:j<fs.length:=by omega
   have e2:bZ (encL fs) (j:Int)=some (bK fs[j]):=by rw [qH,oV,eV nJ];rfl
   have n2:¬(j:Int)=(fs.length:Int):=by omega
   have fe:mY (es.drop i) (fs.drop j)=decide (es[i].1≤fs[j].1):=by rw [kZ hl,kZ nJ];rfl
   simp [xN,FP,fe,n1,n2,e1,e2,bK,hS,hT,hx,hy]
section
variable{x y:A}{Ω:aG}
theorem Ry(s1 l1 d1 s2 l2 d2:Int)(es fs:List E)(i j:Nat)(acc:List E)(hx:∀Δ,bP (Ω++Δ) x=some (encL es))(hy:∀Δ,bP (Ω++Δ) y=some (encL fs))(hi:i≤es.length)(hj:j≤fs.length)(ha:acc.length<1000000) :
  wV [some (bV s1 l1 d1 x),some (bV s2 l2 d2 y),bB Ω.length,aA i,aA j] (Ω++[.lst (encL acc)]) =
   if mY (es.drop i) (fs.drop j)then(match es[i]? with
    | some e=>some (.nx,[some (bV s1 l1 d1 x),some (bV s2 l2 d2 y),bB Ω.length,aA (i+1:Nat),aA j],Ω++[.lst (encL (acc++[(e.1,e.2.1+lS fs j,e.2.2+mV s2 fs j)]))])
    | none=>none)
   else(match fs[j]? with
    | some f=>some (.nx,[some (bV s1 l1 d1 x),some (bV s2 l2 d2 y),bB Ω.length,aA i,aA (j+1:Nat)],Ω++[.lst (encL (acc++[(f.1,f.2.1+lS es i,f.2.2+mV s1 es i)]))])
    | none=>none):=by
 have q1:=ab0 x y es fs i j (Ω++[.lst (encL acc)]) (hx _) (hy _) hi hj;have hS:=fun Δ=>tD (hx Δ);have hT:=fun Δ=>tD (hy Δ);have hl:mS (Ω++[.lst (encL acc)]) (.aM Ω.length):=pT (jD (ds:=encL acc) (by simp));have hc:iX (Ω++[.lst (encL acc)]) (.aM Ω.length)=some (Ω.length,encL acc):=qG (by simp);have hz:acc.length<sizeLine:=by rw [jS];omega
 have ea:∀x:E,encL acc++[bK x]=encL (acc++[x]):=fun x=>by simp [encL]
 cases hf:mY (es.drop i) (fs.drop j)with
 | true =>
  have aZ:i<es.length:=by
   by_cases h:i<es.length
   ·exact h
   ·rw [El (by omega)]at hf;cases hf
  have e1:bZ (encL es) (i:Int)=some (bK es[i]):=by rw [qH,oV,eV aZ];rfl
  have q2:=Dz es[i] s2 l2 d2 y fs j (Ω++[.lst (encL acc)]) (hy _) hj;rw [hf]at q1;simp only [bV]at q2 ⊢;simp [wV,hS,hT,hx,hy,q1,q2,e1,hl,hc,hz,ea,aZ]
 | false =>
  have aZ:j<fs.length∨fs.length≤j:=by omega
  rcases aZ with aZ | aZ
  ·have e1:bZ (encL fs) (j:Int)=some (bK fs[j]):=by rw [qH,oV,eV aZ];rfl
   have q2:=Dz fs[j] s1 l1 d1 x es i (Ω++[.lst (encL acc)]) (hx _) hi;rw [hf]at q1;simp only [bV]at q2 ⊢;simp [wV,hS,hT,hx,hy,q1,q2,e1,hl,hc,hz,ea,aZ]
  ·have e1:bZ (encL fs) (j:Int)=none:=by rw [qH,oV,Ef aZ];rfl
   rw [hf]at q1;simp only [bV]at ⊢;simp [wV,hS,hT,hx,hy,q1,e1,hl,hc,aZ]
theorem XJ(s1 l1 d1 s2 l2 d2:Int)(es fs:List E)(i j:Nat)(k:Option A)(Δ:aG)(hx:∀Δ,bP (Ω++Δ) x=some (encL es))(hy:∀Δ,bP (Ω++Δ) y=some (encL fs)) :
  uP [some (bV s1 l1 d1 x),some (bV s2 l2 d2 y),k,aA i,aA j] (Ω++Δ)=bX (decide (i<es.length∨j<fs.length)) (Ω++Δ):=by
 have hS:=fun Δ=>tD (hx Δ);have hT:=fun Δ=>tD (hy Δ)
 by_cases h1:i<es.length
 ·simp [uP,bV,hS,hT,hx,hy,h1]
 ·by_cases h2:j<fs.length
  ·simp [uP,bV,hS,hT,hx,hy,h1,h2]
  ·simp [uP,bV,hS,hT,hx,hy,h1,h2]
theorem Sd(s1 l1 d1 s2 l2 d2:Int)(es fs:List E)(hx:∀Δ,bP (Ω++Δ) x=some (encL es))(hy:∀Δ,bP (Ω++Δ) y=some (encL fs)):∀(m n i j:Nat) (acc:List E),i≤es.length→j≤fs.length→m=(es.length - i)+(fs.length - j)→m<n→acc.length+m≤1000000 →
  gY uP wV n [some (bV s1 l1 d1 x),some (bV s2 l2 d2 y),bB Ω.length,aA i,aA j] (Ω++[.lst (encL acc)]) =
   some (.nx,[some (bV s1 l1 d1 x),some (bV s2 l2 d2 y),bB Ω.length,aA es.length,aA fs.length],Ω++[.lst (encL (acc++dB s1 s2 m (lS es i) (lS fs j) (es.drop i) (fs.drop j)))]):=by
 intro m
 induction m with
 | zero =>
  intro n i j acc hi hj hm hn ha;obtain⟨n,rfl⟩:∃k,n=k+1:=⟨n - 1,by omega⟩;have h1:i=es.length:=by omega
  have h2:j=fs.length:=by omega
  subst h1 h2;rw [FA (Ω1:=Ω++[.lst (encL acc)]) (by rw [XJ _ _ _ _ _ _ es fs _ _ _ _ hx hy];simp)];simp [dB]
 | succ m ih =>
  intro n i j acc hi hj hm hn ha;obtain⟨n,rfl⟩:∃k,n=k+1:=⟨n - 1,by omega⟩;have hc:uP [some (bV s1 l1 d1 x),some (bV s2 l2 d2 y),bB Ω.length,aA i,aA j] (Ω++[.lst (encL acc)])=bX true (Ω++[.lst (encL acc)]):=by
   rw [XJ _ _ _ _ _ _ es fs _ _ _ _ hx hy,qD (by omega)]
  have ht:=Ry s1 l1 d1 s2 l2 d2 es fs i j acc hx hy hi hj (by omega)
  by_cases pV:i<es.length
  ·have ei:es[i]? = some es[i]:=eV pV;have di:=kZ pV
   by_cases rK:j<fs.length
   ·have ej:fs[j]? = some fs[j]:=eV rK;have dj:=kZ rK
    by_cases hle:es[i].1≤fs[j].1
    ·have hf:mY (es.drop i) (fs.drop j)=true:=by rw [di,dj];simp [mY,hle]
     rw [hf,ei]at ht;rw [wK hc ht,ih n (i+1) j _ (by omega) hj (by omega) (by omega) (by simp;omega),di,dj,dB,if_pos hle,DV _ _ pV,ZD _ _ _ rK,← dj];simp
    ·have hf:mY (es.drop i) (fs.drop j)=false:=by rw [di,dj];simp [mY];omega
     rw [hf,ej]at ht;rw [wK hc ht,ih n i (j+1) _ hi (by omega) (by omega) (by omega) (by simp;omega),di,dj,dB,if_neg hle,DV _ _ rK,ZD _ _ _ pV,← di];simp
   ·have Vy:j=fs.length:=by omega
    subst Vy;have hf:mY (es.drop i) (fs.drop fs.length)=true:=by rw [di,xJ];rfl
    rw [hf,ei]at ht;rw [wK hc ht,ih n (i+1) fs.length _ (by omega) hj (by omega) (by omega) (by simp;omega),di,xJ,dB,DV _ _ pV,ZE];simp
  ·have mW:i=es.length:=by omega
   subst mW;have rK:j<fs.length:=by omega
   have ej:fs[j]? = some fs[j]:=eV rK;have dj:=kZ rK;have hf:mY (es.drop es.length) (fs.drop j)=false:=by rw [xJ];rfl
   rw [hf,ej]at ht;rw [wK hc ht,ih n es.length (j+1) _ hi (by omega) (by omega) (by omega) (by simp;omega),dj,xJ,dB,DV _ _ rK,ZE];simp
theorem abX(s1 l1 d1 s2 l2 d2:Int)(es fs:List E)(hx:∀Δ,bP (Ω++Δ) x=some (encL es))(hy:∀Δ,bP (Ω++Δ) y=some (encL fs))(h:es.length+fs.length≤100000):GO [bV s1 l1 d1 x,bV s2 l2 d2 y] Ω=bX (.lst (encL (kR s1 s2 es fs))) Ω:=by
 have q:=Sd s1 l1 d1 s2 l2 d2 es fs hx hy (es.length+fs.length) 1000000 0 0 [] vX vX (by omega) (by omega) (by simp;omega);have e0:encL []=[]:=rfl;have l0:∀es,lS es 0=0:=fun _=>rfl;simp only [e0,l0,List.drop_zero,xH,Int.ofNat_zero,Int.natCast_zero]at q;have hz:(0:Nat)≤sizeLine:=xB _;simp [GO,Cg,q,kR];rw [yF (by simp [Cl,RZ])]
theorem abY(s1 l1 d1 s2 l2 d2:Int)(es fs:List E)(hx:∀Δ,bP (Ω++Δ) x=some (encL es))(hy:∀Δ,bP (Ω++Δ) y=some (encL fs))(h:es.length+fs.length≤100000):GP [bV s1 l1 d1 x,bV s2 l2 d2 y] Ω=bX (aT (s1+s2) (l1+l2) (max d1 d2) (kR s1 s2 es fs)) Ω:=by
 have q:=abX s1 l1 d1 s2 l2 d2 es fs hx hy h;have h4:(4:Nat)≤sizeLine:=by decide
 simp only [bV,aT]at q ⊢;simp [GP,Ci,q,h4]
end
theorem Eb(s l d:Int)(es:List E)(Ω:aG):vG [aT s l d es] Ω=bX (bV s l d (.aM Ω.length)) (Ω++[.lst (encL es)]):=by
 have h3:HT.bC 4 0 none=0:=rfl;have h4:HT.bC 4 4 (some 3)=3:=by decide
 have s1:(1:Nat)≤sizeLine:=by decide
 have s4:(4:Nat)≤sizeLine:=by decide
 simp [vG,Ct,aT,qF,h3,h4,s1,s4,tK,trim,Cl,dP]
theorem pL(p q:Po)(hp:GF p.s p.l p.d p.es)(hq:GF q.s q.l q.d q.es)(hz:p.es.length+q.es.length<1000)(Ω:aG):nT [aH p,aH q] Ω=bX (.bl true) Ω:=by
 have c1:vG [aH p] Ω=bX (bV p.s p.l p.d (.aM Ω.length)) (Ω++[.lst (encL p.es)]):=Eb ..;have c2:vG [aH q] (Ω++[.lst (encL p.es)])=bX (bV q.s q.l q.d (.aM (Ω.length+1))) (Ω++[.lst (encL p.es),.lst (encL q.es)]):=by
  have:=Eb q.s q.l q.d q.es (Ω++[.lst (encL p.es)]);rw [fG,eW]at this;exact this
 have g1:∀Δ,(Ω++[.lst (encL p.es),.lst (encL q.es)]++Δ)[Ω.length]? = some (.lst (encL p.es)):=fun Δ=>by simp
 have g2:∀Δ,(Ω++[.lst (encL p.es),.lst (encL q.es)]++Δ)[Ω.length+1]? = some (.lst (encL q.es)):=fun Δ=>by simp
 have qA:=g1 [];have rV:=g2 [];rw [nR]at qA rV;have t1:(Ω++[Cell.lst (encL p.es),Cell.lst (encL q.es)]).set Ω.length (Cell.lst [])=Ω++[Cell.lst [],Cell.lst (encL q.es)]:=by simp
 have g3:(Ω++[Cell.lst [],Cell.lst (encL q.es)])[Ω.length+1]? = some (Cell.lst (encL q.es)):=by simp
 have t2:(Ω++[Cell.lst [],Cell.lst (encL q.es)]).set (Ω.length+1) (Cell.lst (encL q.es++[A.tup [.int 7,.int 7,.int 7]]))=Ω++[Cell.lst [],Cell.lst (encL q.es++[A.tup [.int 7,.int 7,.int 7]])]:=by simp
 generalize hO:Ω++[.lst (encL p.es),.lst (encL q.es)]=Ω2 at c2 g1 g2 qA rV t1;have m1:=abY (Ω:=Ω2) p.s p.l p.d q.s q.l q.d p.es q.es (fun Δ=>jD (g1 Δ)) (fun Δ=>jD (g2 Δ)) (by omega);have m2:=xE hp hq hz Ω2;have hl:(kR p.s q.s p.es q.es).length≤100000:=by
  have:=tM p q;have e:(fN p q).es=kR p.s q.s p.es q.es:=rfl;rw [e]at this;omega
 generalize kR p.s q.s p.es q.es=T at m1 m2 hl;have m3:BO [aT (p.s+q.s) (p.l+q.l) (max p.d q.d) T,aT (p.s+q.s) (p.l+q.l) (max p.d q.d) T] Ω2=bX (.bl true) Ω2:=abV (e := .lst (encL T)) (es:=T) rfl rfl (by omega) (ON (JH ..));have n5:∀Ω,fZ (aT (p.s+q.s) (p.l+q.l) (max p.d q.d) T) (aT (p.s+q.s) (p.l+q.l) (max p.d q.d) T) Ω=bX (.bl true) Ω:=fun Ω=>ON (JH ..);generalize aT (p.s+q.s) (p.l+q.l) (max p.d q.d) T=D at m1 m2 m3 n5;have np:∀(a b c:Int) (k:Nat),bR 8 (bV a b c (.aM k))=false:=fun a b c k=>by simp [bR]
 have r1:∀n,res Ω2 (n+2) (bV p.s p.l p.d (.aM Ω.length))=some (aH p):=fun n=>by
  rw [VV (np ..)];simp only [jW];rw [mP (vV 8 p.s),mP (vV 8 p.l),mP (vV 8 p.d),VY qA,JS _ (JI 7 p.es)];rfl
 have r2:∀n,res Ω2 (n+2) (bV q.s q.l q.d (.aM (Ω.length+1)))=some (aH q):=fun n=>by
  rw [VV (np ..)];simp only [jW];rw [mP (vV 8 q.s),mP (vV 8 q.l),mP (vV 8 q.d),VY rV,JS _ (JI 7 q.es)];rfl
 have pl:bR 8 (.lst [aH p,aH q])=true:=by
  simp [aH,aT,JF,JG]
 have n4:oQ (.lst [bV p.s p.l p.d (.aM Ω.length),bV q.s q.l q.d (.aM (Ω.length+1))]) (.lst [aH p,aH q]) Ω2=bX (.bl false) Ω2:=by
  refine Yv (c := .lst [aH p,aH q]) ?_ (mP pl) pl;rw [Np (by simp [bR])];simp only [jW];rw [r1 3,r2 3];rfl
 have i1:mS Ω2 (.aM Ω.length):=pT (jD qA);have l1:iX Ω2 (.aM Ω.length)=some (Ω.length,encL p.es):=qG qA;have i2:mS (Ω++[Cell.lst [],Cell.lst (encL q.es)]) (.aM (Ω.length+1)):=pT (jD g3);have l2:iX (Ω++[Cell.lst [],Cell.lst (encL q.es)]) (.aM (Ω.length+1))=some (Ω.length+1,encL q.es):=qG g3;have Vh:q.es.length<sizeLine:=by rw [jS];omega
 have h3:(3:Nat)≤sizeLine:=by decide
 have Aa:(2:Nat)≤sizeLine:=by decide
 show trim Ω (oF (QG [some (aH p),some (aH q),none,none,none] Ω))=_;unfold QG;rw [cY (ρ1:=[some (aH p),some (aH q),cM ([bV p.s p.l p.d (.aM Ω.length),bV q.s q.l q.d (.aM (Ω.length+1))]),none,none]) (Ω':=Ω2) (by simp [c1,c2,Aa])];rw [cY (ρ1:=[some (aH p),some (aH q),cM ([bV p.s p.l p.d (.aM Ω.length),bV q.s q.l q.d (.aM (Ω.length+1))]),some D,none]) (Ω':=Ω2) (by simp [m1])];rw [cY (ρ1:=[some (aH p),some (aH q),cM ([bV p.s p.l p.d (.aM Ω.length),bV q.s q.l q.d (.aM (Ω.length+1))]),some D,some D]) (Ω':=Ω2) (by
  have Sn:lE [aH p,aH q] Ω2=bX D Ω2:=m2;simp [Sn])]
 rw [cY (ρ1:=[some (aH p),some (aH q),cM ([bV p.s p.l p.d (.aM Ω.length),bV q.s q.l q.d (.aM (Ω.length+1))]),some D,some D]) (Ω':=Ω2) (by simp [m3,n4,Aa])];rw [cY (ρ1:=[some (aH p),some (aH q),cM ([bV p.s p.l p.d (.aM Ω.length),bV q.s q.l q.d (.aM (Ω.length+1))]),some D,some D]) (Ω':=Ω++[.lst [],.lst (encL q.es)]) (by simp [i1,l1,t1])];rw [cY (ρ1:=[some (aH p),some (aH q),cM ([bV p.s p.l p.d (.aM Ω.length),bV q.s q.l q.d (.aM (Ω.length+1))]),some D,some D]) (Ω':=Ω++[.lst [],.lst (encL q.es++[.tup [.int 7,.int 7,.int 7]])]) (by simp [i2,l2,Vh,h3])];simp [n5];exact yF (by simp [Cl])
theorem ab1(ns:List Int)(k:Int)(Ω:aG)(hk:0≤k)(dW:k<1000000):jO [.lst (ns.map A.int),.int k] Ω=bX (.int (lY ns k)) Ω:=by
 by_cases h:k<(ns.length:Int)
 ·obtain⟨n,rfl⟩:=Int.eq_ofNat_of_zero_le hk;have hn:n<ns.length:=by omega
  have e:bZ (ns.map A.int) (n:Int)=(aA (ns[n])):=by rw [uR];simp [hn]
  have f0:=BG ns[n] (show(2147483647:Int)≠0 by decide);have f1:=BH ns[n] (show(0:Int)<2147483647 by decide);have m:=fun Ω=>uX (ns[n]%2147483647) (n+101) Ω f0 (by omega) (by omega) (by omega);simp [jO,AN,h,e,m,lY,hn]
 ·have m:=fun Ω=>uX 0 (k+101) Ω (by decide) (by decide) (by omega) (by omega);simp [jO,AN,h,m,lY]
theorem aaL(ns:List Int)(lo hi:Option Int):∃ms:List Int,qF (ns.map A.int) lo hi=ms.map A.int∧ms.length≤ns.length:=by
 refine⟨(ns.drop (HT.bC (ns.map A.int).length 0 lo)).take (HT.bC (ns.map A.int).length (ns.map A.int).length hi - HT.bC (ns.map A.int).length 0 lo),?_,?_⟩
 ·unfold qF;rw [List.map_take,List.map_drop]
 ·rw [qK,uZ];omega
theorem UB(ns:List Int)(h:ns.length≤63)(lo hi:Option Int):∃p:Po,BN [.lst (qF (ns.map A.int) lo hi),.int 1,.int 24] []=bX (aH p) []∧GF p.s p.l p.d p.es∧p.es.length≤48:=by
 obtain⟨ms,e,hl⟩:=aaL ns lo hi;rw [e];obtain⟨p,q,g,hz,hs⟩:=abT (.lst (ms.map A.int)) ms (by omega) (fun _=>rfl) (fun k Ω h0 h1=>ab1 ms k Ω h0 h1) 1 (by decide) (by decide) [];exact⟨p,q,g,hz⟩
theorem Nk(n t:Int):(kP n t).length≤2:=by unfold kP;split <;> simp
theorem Ti(ns:List Int)(h:ns.length≤63):∃W,Ew [.eO ns] []=bX (.bl true) W:=by
 have c0:=ab2 ns 0 [] (by decide) (by decide);have c00:=PU ns 0;have c01:=PR ns 0;generalize lY ns 0=z at c0 c00 c01;generalize rG:max 1 (ns.length:Int)=mx;have mx1:1≤mx:=by omega
 have m0:=BG z (show mx≠0 by omega);have m1:=BH z (show 0<mx by omega);have Wr:0<mx:=by omega
 generalize iH:2+z%mx=sp;obtain⟨p,tp,gp,lp⟩:=UB ns h none (some sp);obtain⟨q,tq,gq,lq⟩:=UB ns h (some (sp - 2)) none;have Wl:nW z 7:=⟨by decide,by decide⟩;have fr:=Ea (z%7) (1000000000 - z/7%3) [];have gf:=Ab (z%7) (1000000000 - z/7%3) (by omega);have lf:=Nk (z%7) (1000000000 - z/7%3);generalize hf:(⟨1000000000 - z/7%3,0,0,kP (z%7) (1000000000 - z/7%3)⟩:Po)=f at fr;have rR:GF f.s f.l f.d f.es:=by rw [← hf];exact gf
 have lf':f.es.length≤2:=by rw [← hf];exact lf
 have b1:lE [aH f,aH p] []=bX (aH (fN f p)) []:=xE rR gp (by omega) [];have b2:lE [aH f,aH f] []=bX (aH (fN f f)) []:=xE rR rR (by omega) [];have Af:GF (fN f p).s (fN f p).l (fN f p).d (fN f p).es:=wH rR gp;have Ae:GF (fN f f).s (fN f f).l (fN f f).d (fN f f).es:=wH rR rR;have Tf:=tM f p;have Te:=tM f f;generalize fN f p=b at b1 Af Tf;generalize fN f f=c at b2 Ae Te;have e0:BM [] []=bX (aH ⟨0,0,0,[]⟩) []:=by
  have h4:(4:Nat)≤sizeLine:=by decide
  simp [BM,Cj,h4];rfl
 have ge:GF 0 0 0 []:=Ac;generalize hn:(⟨0,0,0,[]⟩:Po)=n at e0;have gn:GF n.s n.l n.d n.es:=by rw [← hn];exact ge
 have ln:n.es.length=0:=by rw [← hn];rfl
 have Zl:∀Ω,fZ (aH n) (.tup [.int 0,.int 0,.int 0,.lst []]) Ω=bX (.bl true) Ω:=fun Ω=>by rw [← hn];exact ON (JH 0 0 0 [])
 have r1:=pL p q gp gq (by omega) [];have r2:=pL q p gq gp (by omega) [];have r3:=pL p p gp gp (by omega) [];have r4:=pL f p rR gp (by omega) [];have r5:=pL q f gq rR (by omega) [];have r6:=pL b c Af Ae (by omega) [];have r7:=pL p n gp gn (by omega) [];have r8:=pL n q gn gq (by omega) [];have r9:=pL n n gn gn (by omega) [];have h4:(4:Nat)≤sizeLine:=by decide
 refine⟨[],?_⟩;show trim [] (oF (QC [some (.eO ns),none,none,none,none,none,none] []))=_;unfold QC;rw [cY (ρ1:=[some (.eO ns),aA sp,none,none,none,none,none]) (Ω':=[]) (by simp [c0,rG,Wr,iH])];rw [cY (ρ1:=[some (.eO ns),aA sp,some (aH p),none,none,none,none]) (Ω':=[]) (by simp [tp])];rw [cY (ρ1:=[some (.eO ns),aA sp,some (aH p),some (aH q),none,none,none]) (Ω':=[]) (by simp [tq])];rw [cY (ρ1:=[some (.eO ns),aA sp,some (aH p),some (aH q),none,none,none]) (Ω':=[]) (by simp [r1,r2,r3])];rw [cY (ρ1:=[some (.eO ns),aA sp,some (aH p),some (aH q),some (aH f),none,none]) (Ω':=[]) (by simp [c0,Wl,fr])];rw [cY (ρ1:=[some (.eO ns),aA sp,some (aH p),some (aH q),some (aH f),some (aH b),none]) (Ω':=[]) (by simp [b1])];rw [cY (ρ1:=[some (.eO ns),aA sp,some (aH p),some (aH q),some (aH f),some (aH b),none]) (Ω':=[]) (by simp [r4,r5,r6,b2])];rw [cY (ρ1:=[some (.eO ns),aA sp,some (aH p),some (aH q),some (aH f),some (aH b),some (aH n)]) (Ω':=[]) (by simp [e0])];simp [r7,r8,r9,Zl,h4]
end M
namespace RJ
open PySem L2 V2 PyProof.Rows M
def top(i:Nat):Stmt:=PySem.Challenge.pw_rankpouch_k13_merged_entry_by_entry.main.body.getD i (.Pass ⟨0,0,0,0⟩)
abbrev IM:Stmt:=top 1
abbrev IK:Stmt:=top 2
abbrev IJ:Stmt:=top 3
abbrev IL:Stmt:=top 4
abbrev II:Stmt:=top 5
abbrev IP:Stmt:=top 6
abbrev IX:Stmt:=top 8
abbrev IZ:Stmt:=top 9
abbrev IW:Stmt:=top 10
abbrev IS:Stmt:=top 11
abbrev IU:Stmt:=top 12
abbrev tF:Stmt:=top 13
abbrev DA:Stmt:=top 14
abbrev IQ:Stmt:=top 15
abbrev IT:Stmt:=top 16
abbrev IY:Stmt:=top 17
abbrev IV:Stmt:=top 18
abbrev pK:Stmt:=top 19
structure hV(mg:Str→Option Value):Prop where
 bool:mg "bool" = none
 int:mg "int" = none
 isinstance:mg "isinstance" = none
 len:mg "len" = none
 list:mg "list" = none
 max:mg "max" = none
 min:mg "min" = none
 range:mg "range" = none
 sorted:mg "sorted" = none
 tuple:mg "tuple" = none
section
variable(P:Program)(w:World)(K:Frag)(mg:Str→Option Value)(base:Heap)
abbrev Dk:=cL P w K mg base "goes_first" 1 ["entries", "at", "others", "other_at"] xN
abbrev Dj:=cL P w K mg base "bounds_ahead" 1 ["pouch", "at"] vE
abbrev QN:=cL P w K mg base "_law_mix" 1 ["_law_cell_here", "_law_k"] vF
abbrev Dd:=cL P w K mg base "_law_number" 1 ["_law_cell_here", "_law_kind"] sN
abbrev Dc:=cL P w K mg base "_law_times" 1 ["_law_cell_here"] GQ
abbrev QM:=cL P w K mg base "_law_run" 1 ["_law_number_here", "_law_times_here"] xO
abbrev GC:=cL P w K mg base "_law_merged" 1 ["_law_one", "_law_other"] lE
abbrev Cz:=cL P w K mg base "_law_thinned" 1 ["_law_pouch", "_law_keep"] GR
abbrev Cy:=cL P w K mg base "_law_same" 1 ["_law_found", "_law_due"] BO
abbrev Cw:=cL P w K mg base "_law_copy" 1 ["_law_pouch"] vG
abbrev Di:=cL P w K mg base "moved" 2 ["entry", "pouch", "at"] BL
abbrev QO:=cL P w K mg base "_law_cell" 2 ["_law_script", "_law_k"] jO
abbrev Dh:=cL P w K mg base "merged_entries" 3 ["one", "other"] GO
abbrev Dg:=cL P w K mg base "_law_tree" 3 ["_law_script", "_law_start", "_law_most"] BN
abbrev Df:=cL P w K mg base "merged" 4 ["one", "other"] GP
abbrev De:=cL P w K mg base "_law_right" 5 ["_law_one", "_law_other"] nT
end
section
variable{P:Program}{w:World}{K:Frag}{mg:Str→Option Value}{base:Heap}
theorem Mv:dM [] [] (aY IM):=iI
theorem Zy(B:hV mg)(h:HasFn K mg "empty" IM):cL P w K mg base "empty" 1 [] BM:=by
 refine cL.of h Mv (fun _ _ _ _ _ _ us hl=>TR us hl rfl) (fun _ _ _ _ _ _ _ hr=>?_);exact(bW (dN (iS (aC aF (aC aF (aC aF (aC (fV false aJ) aJ)))))))
theorem Mu:dM ["entries", "at", "others", "other_at"] ["entries", "at", "others", "other_at"] (aY IL):=iI
theorem Zx(B:hV mg)(h:HasFn K mg "goes_first" IL):Dk P w K mg base:=by
 refine cL.of h Mu (fun _ _ _ _ _ _ us hl=>Gm us hl (fun _ _ _ _=>rfl)) (fun _ _ _ _ _ _ _ hr=>?_);exact(bA (iR (eI (lO hr.units) (vv 1) (eG lZ rfl B.len PySem.boot_len (aC (vv 0) aJ)) (dH _))
   (bW (dN sT))
   kK)
  (bW (dN (Gj (yB (lO hr.units) (vv 3) (eG lZ rfl B.len PySem.boot_len (aC (vv 2) aJ)) (dH _)) (SY (yB JM (aS (aS (vv 0) (vv 1) aP) aF aP) (aS (aS (vv 2) (vv 3) aP) aF aP) (dH _)))))))
theorem CY:dM ["pouch", "at", "entries", "low", "high"] ["pouch", "at"] (aY IP):=iI
theorem Zz(B:hV mg)(h:HasFn K mg "bounds_ahead" IP):Dj P w K mg base:=by
 refine cL.of h CY (fun _ _ _ _ _ _ us hl=>mJ us hl aP) (fun _ _ _ _ _ _ _ hr=>?_);exact(bA (cJ (i:=2) CY.nd rfl bJ (aS (vv 0) aF aP))
  (bA (cJ (i:=3) CY.nd rfl bJ (TC (eI DO (vv 1) aF (dH _)) (aS (aS (vv 2) (aO lN (vv 1) aF) aP) aF aP) aF))
  (bA (cJ (i:=4) CY.nd rfl bJ (TC (eI vW (vv 1) (eG lZ rfl B.len PySem.boot_len (aC (vv 2) aJ)) (dH _)) (aO lN (aS (aS (vv 2) (vv 1) aP) aF aP) aF) (aS (vv 0) aF aP)))
  (bW (dN (iS (aC (vv 3) (aC (vv 4) aJ))))))))
theorem VN:dM ["_law_cell_here", "_law_k", "_law_first"] ["_law_cell_here", "_law_k"] (aY IX):=iI
theorem aaH(B:hV mg)(h:HasFn K mg "_law_mix" IX):QN P w K mg base:=by
 refine cL.of h VN (fun _ _ _ _ _ _ us hl=>mJ us hl aP) (fun _ _ _ _ _ _ _ hr=>?_);exact(bA (cJ (i:=2) VN.nd rfl bJ (aO gH (aO pN (aO (cH false) (vv 0) aF) (aO (cH false) aF (aO pN aF (vv 1)))) aF))
  (bW (dN (aO gH (aO (cH false) (aO (cH false) (aO pN (aO qY (vv 2) aF) aF) (aO pN (vv 2) (aO (cH false) (aO pN (vv 1) (vv 1)) aF))) (vv 1)) aF))))
theorem My:dM ["_law_cell_here", "_law_kind"] ["_law_cell_here", "_law_kind"] (aY IW):=iI
theorem aaG(B:hV mg)(h:HasFn K mg "_law_number" IW):Dd P w K mg base:=by
 refine cL.of h My (fun _ _ _ _ _ _ us hl=>mJ us hl aP) (fun _ _ _ _ _ _ _ hr=>?_);exact(bA (iR (eI (lO hr.units) (vv 1) aF (dH _))
   (bW (dN (aO gH (vv 0) aF)))
   kK)
  (bA (iR (eI (lO hr.units) (vv 1) aF (dH _))
   (bW (dN (aO lN (aO gH (vv 0) aF) aF)))
   kK)
  (bA (iR (eI (lO hr.units) (vv 1) aF (dH _))
   (bW (dN (aO lN (aO gH (aO pN (vv 0) aF) (aO (cH false) (aO pN aF (aO DM aF aF)) aF)) (aO DM aF aF))))
   kK)
  (bA (iR (eI (lO hr.units) (vv 1) aF (dH _))
   (bW (dN aF))
   kK)
  (bW (dN (aS (fV false (aC (aO (cH false) (aO pN (vv 0) (aO DM aF aF)) aF) (aC (aO lN aF (aO pN (vv 0) (aO DM aF aF))) (aC (vv 0) (aC (aO lN aF (vv 0)) aJ))))) (aO gH (vv 0) aF) aP)))))))
theorem Mw:dM ["_law_cell_here"] ["_law_cell_here"] (aY IS):=iI
theorem aaB(B:hV mg)(h:HasFn K mg "_law_times" IS):Dc P w K mg base:=by
 refine cL.of h Mw (fun _ _ _ _ _ _ us hl=>HR us hl (fun _=>rfl)) (fun _ _ _ _ _ _ _ hr=>?_);exact(bW (dN (aS (fV false (aC aF (aC aF (aC (aO (cH false) aF (aO gH (aO qY (vv 0) aF) aF)) (aC (aO (cH false) aF (aO gH (aO qY (vv 0) aF) aF)) aJ))))) (aO gH (vv 0) aF) aP)))
theorem Mx:dM ["_law_number_here", "_law_times_here"] ["_law_number_here", "_law_times_here"] (aY IU):=iI
theorem aaE(B:hV mg)(h:HasFn K mg "_law_run" IU):QM P w K mg base:=by
 refine cL.of h Mx (fun _ _ _ _ _ _ us hl=>mJ us hl aP) (fun _ _ _ _ _ _ _ hr=>?_);exact(bA (iR (eI (lO hr.units) (vv 1) aF (dH _))
   (bW (dN (iS (aC aF (aC aF (aC aF (aC (fV false (aC (iS (aC (vv 0) (aC aF (aC aF aJ)))) aJ)) aJ)))))))
   kK)
  (bW (dN (iS (aC (vv 1) (aC aF (aC aF (aC (fV false (aC (iS (aC (vv 0) (aC aF (aC aF aJ)))) (aC (iS (aC (vv 0) (aC (vv 1) (aC (vv 1) aJ)))) aJ))) aJ))))))))
theorem mO:dM ["_law_one", "_law_other", "_law_entries", "_law_number_here", "_law_least", "_law_most", "_law_lows", "_law_highs"] ["_law_one", "_law_other"] (aY tF):=iI
theorem aaI(B:hV mg)(h:HasFn K mg "_law_merged" tF):GC P w K mg base:=by
 refine cL.of h mO (fun _ _ _ _ _ _ us hl=>mJ us hl aP) (fun _ _ _ _ _ _ _ hr=>?_);exact(bA (cJ (i:=2) mO.nd rfl bJ (fV true aJ))
  (bA (vN bN.passes rfl (pF (aS (vv 0) aF aP)) (BZ rfl (lJ (fL (i:=3) mO.nd rfl (Or.inr rfl)) (lJ (fL (i:=4) mO.nd rfl bJ) (lJ (fL (i:=5) mO.nd rfl bJ) BY))))
   (bA (cJ (i:=6) mO.nd rfl bJ (aO (cH false) (fV false (aC aF aJ)) (yA false ["_law_entry"] [3] rfl (zH (aY tF) ["_law_one", "_law_other", "_law_entries", "_law_number_here", "_law_least", "_law_most", "_law_lows", "_law_highs"]) (pF (aS (vv 1) aF aP)) (fun cl C s H fp=>⟨(fL (i:=0) (show(["_law_entry", "_law_number_here"]:List Str).Nodup by decide +kernel) rfl bJ),(xY (eI vW (aS (vv 0) aF aP) (vv 1) (dH _))),(aS (vv 0) aF aP)⟩))))
   (bA (cJ (i:=7) mO.nd rfl bJ (aO (cH false) (yA false ["_law_entry"] [3] rfl (zH (aY tF) ["_law_one", "_law_other", "_law_entries", "_law_number_here", "_law_least", "_law_most", "_law_lows", "_law_highs"]) (pF (aS (vv 1) aF aP)) (fun cl C s H fp=>⟨(fL (i:=0) (show(["_law_entry", "_law_number_here"]:List Str).Nodup by decide +kernel) rfl bJ),(xY (eI Rf (aS (vv 0) aF aP) (vv 1) (dH _))),(aS (vv 0) aF aP)⟩)) (fV false (aC (aO (cH false) (aS (vv 1) aF aP) aF) aJ))))
   (bW (pE (qU PySem.F.plainAttrs_list PySem.F.slot_list_append PySem.F.type_list_append rC rD (vv 2) (aC (iS (aC (vv 3) (aC (aO (cH false) (vv 4) (aS (vv 6) (lK aF) aP)) (aC (aO lN (aO (cH false) (vv 5) (aS (vv 7) aF aP)) aF) aJ)))) aJ)))))))
  (bA (vN bN.passes rfl (pF (aS (vv 1) aF aP)) (BZ rfl (lJ (fL (i:=3) mO.nd rfl (Or.inr rfl)) (lJ (fL (i:=4) mO.nd rfl bJ) (lJ (fL (i:=5) mO.nd rfl bJ) BY))))
   (bA (cJ (i:=6) mO.nd rfl bJ (aO (cH false) (fV false (aC aF aJ)) (yA false ["_law_entry"] [3] rfl (zH (aY tF) ["_law_one", "_law_other", "_law_entries", "_law_number_here", "_law_least", "_law_most", "_law_lows", "_law_highs"]) (pF (aS (vv 0) aF aP)) (fun cl C s H fp=>⟨(fL (i:=0) (show(["_law_entry", "_law_number_here"]:List Str).Nodup by decide +kernel) rfl bJ),(xY (eI JM (aS (vv 0) aF aP) (vv 1) (dH _))),(aS (vv 0) aF aP)⟩))))
   (bA (cJ (i:=7) mO.nd rfl bJ (aO (cH false) (yA false ["_law_entry"] [3] rfl (zH (aY tF) ["_law_one", "_law_other", "_law_entries", "_law_number_here", "_law_least", "_law_most", "_law_lows", "_law_highs"]) (pF (aS (vv 0) aF aP)) (fun cl C s H fp=>⟨(fL (i:=0) (show(["_law_entry", "_law_number_here"]:List Str).Nodup by decide +kernel) rfl bJ),(xY (eI DO (aS (vv 0) aF aP) (vv 1) (dH _))),(aS (vv 0) aF aP)⟩)) (fV false (aC (aO (cH false) (aS (vv 0) aF aP) aF) aJ))))
   (bW (pE (qU PySem.F.plainAttrs_list PySem.F.slot_list_append PySem.F.type_list_append rC rD (vv 2) (aC (iS (aC (vv 3) (aC (aO (cH false) (vv 4) (aS (vv 6) (lK aF) aP)) (aC (aO lN (aO (cH false) (vv 5) (aS (vv 7) aF aP)) aF) aJ)))) aJ)))))))
  (bW (dN (iS (aC (aO (cH false) (aS (vv 0) aF aP) (aS (vv 1) aF aP)) (aC (aO (cH false) (aS (vv 0) aF aP) (aS (vv 1) aF aP)) (aC (eG (wU rfl) rfl B.max boot_max (aC (aS (vv 0) aF aP) (aC (aS (vv 1) aF aP) aJ))) (aC (eG (aa5 false) rfl B.sorted boot_sorted (aC (vv 2) aJ)) aJ))))))))))
theorem mM:dM ["_law_pouch", "_law_keep", "_law_size", "_law_slack", "_law_depth", "_law_entries", "_law_step", "_law_kept", "_law_number_here", "_law_least", "_law_most", "_law_far", "_law_k"] ["_law_pouch", "_law_keep"] (aY DA):=iI
theorem aaC(B:hV mg)(h:HasFn K mg "_law_thinned" DA):Cz P w K mg base:=by
 refine cL.of h mM (fun _ _ _ _ _ _ us hl=>mJ us hl aP) (fun _ _ _ _ _ _ _ hr=>?_);exact(bA (xX (vv 0) (BZ rfl (lJ (fL (i:=2) mM.nd rfl bJ) (lJ (fL (i:=3) mM.nd rfl bJ) (lJ (fL (i:=4) mM.nd rfl bJ) (lJ (fL (i:=5) mM.nd rfl (Or.inr rfl)) BY))))))
  (bA (cJ (i:=6) mM.nd rfl bJ (aO qY (vv 2) (vv 1)))
  (bA (cJ (i:=7) mM.nd rfl bJ (fV true (aC aF aJ)))
  (bA (HH (fun _ _=>1000000) bN.passes (VW.vt (SX (eI (DN hr.units) (vv 5) (fV false aJ) (dH _)) (SW (eI vW (aS (vv 7) (lK aF) aP) (aO lN (eG lZ rfl B.len PySem.boot_len (aC (vv 5) aJ)) aF) (dH _)))))
   (bA (xX (aS (vv 5) (aS (vv 7) (lK aF) aP) aP) (BZ rfl (lJ (fL (i:=8) mM.nd rfl bJ) (lJ (fL (i:=9) mM.nd rfl bJ) (lJ (fL (i:=10) mM.nd rfl bJ) BY)))))
   (bA (cJ (i:=11) mM.nd rfl bJ (fV true (aC (aO (cH false) (aS (vv 7) (lK aF) aP) aF) aJ)))
   (bA (vN bN.passes rfl (Gh rfl B.range (aC (aO (cH false) (aS (vv 7) (lK aF) aP) aF) (aC (eG lZ rfl B.len PySem.boot_len (aC (vv 5) aJ)) aJ))) (fL (i:=12) mM.nd rfl bJ)
    (bW (iR (VW.vt (nZ (eI (lO hr.units) (aS (aS (vv 5) (vv 12) aP) aF aP) (vv 8) (dH _)) (sS (eI JM (aS (aS (vv 5) (vv 12) aP) aF aP) (aO (cH false) (aO (cH false) (aO (cH false) (vv 9) (vv 3)) (vv 6)) aF) (dH _)))))
     (bW (pE (qU PySem.F.plainAttrs_list PySem.F.slot_list_append PySem.F.type_list_append rC rD (vv 11) (aC (vv 12) aJ))))
     kK)))
   (bW (pE (qU PySem.F.plainAttrs_list PySem.F.slot_list_append PySem.F.type_list_append rC rD (vv 7) (aC (eG (aa7 rfl) rfl B.max boot_max (aC (vv 11) aJ)) aJ))))))))
  (bW (dN (iS (aC (vv 2) (aC (aO (cH false) (vv 3) (vv 6)) (aC (aO (cH false) (vv 4) aF) (aC (yA false ["_law_k"] [5] rfl (zH (aY DA) ["_law_pouch", "_law_keep", "_law_size", "_law_slack", "_law_depth", "_law_entries", "_law_step", "_law_kept", "_law_number_here", "_law_least", "_law_most", "_law_far", "_law_k"]) (pF (vv 7)) (fun cl C s H fp=>⟨(fL (i:=0) (show(["_law_k", "_law_entries"]:List Str).Nodup by decide +kernel) rfl bJ),(xY (eI (DN hr.units) (vv 1) (fV false aJ) (dH _))),(aS (vv 1) (vv 0) aP)⟩)) aJ)))))))))))
theorem yN:dM ["_law_found", "_law_due", "_law_some", "_law_entry", "_law_here"] ["_law_found", "_law_due"] (aY IT):=iI
theorem aaD(B:hV mg)(h:HasFn K mg "_law_same" IT):Cy P w K mg base:=by
 refine cL.of h yN (fun _ _ _ _ _ _ us hl=>mJ us hl aP) (fun _ _ _ _ _ _ _ hr=>?_);exact(bA (iR (VW.vt (nZ (nD (lI (eG AL rfl B.isinstance FN (aC (vv 0) (aC (xZ rfl B.tuple PyProof.Rows.boot_tuple) aJ))))) (nZ (eI (DN hr.units) (eG lZ rfl B.len PySem.boot_len (aC (vv 0) aJ)) aF (dH _)) (sS (nD (lI (eG AL rfl B.isinstance FN (aC (aS (vv 0) aF aP) (aC (xZ rfl B.list QQ) aJ)))))))))
   (bW (dN sT))
   kK)
  (bA (cJ (i:=2) yN.nd rfl bJ (HJ (PY false) rfl B.list QQ (aC (CA false (vv 0) BX (BW aF)) aJ)))
  (bA (vN bN.passes rfl (pF (aS (vv 0) aF aP)) (fL (i:=3) yN.nd rfl bJ)
   (bA (iR (nD (lI (eG AL rfl B.isinstance FN (aC (vv 3) (aC (xZ rfl B.tuple PyProof.Rows.boot_tuple) aJ)))))
    (bW (dN sT))
    kK)
   (bW (cJ (i:=2) yN.nd rfl bJ (aO (cH false) (vv 2) (HJ (PY false) rfl B.list QQ (aC (vv 3) aJ)))))))
  (bA (vN bN.passes rfl (pF (vv 2)) (fL (i:=4) yN.nd rfl bJ)
   (bW (iR (VW.vt (nZ (nD (lI (eG AL rfl B.isinstance FN (aC (vv 4) (aC (xZ rfl B.int PyProof.Rows.boot_int) aJ))))) (sS (lI (eG AL rfl B.isinstance FN (aC (vv 4) (aC (xZ rfl B.bool PyProof.Rows.boot_bool) aJ)))))))
    (bW (dN sT))
    kK)))
  (bW (dN (yB (lO hr.units) (vv 0) (vv 1) (dH _))))))))
theorem Mz:dM ["_law_pouch"] ["_law_pouch"] (aY IY):=iI
theorem aaJ(B:hV mg)(h:HasFn K mg "_law_copy" IY):Cw P w K mg base:=by
 refine cL.of h Mz (fun _ _ _ _ _ _ us hl=>HR us hl (fun _=>rfl)) (fun _ _ _ _ _ _ _ hr=>?_);exact(bW (dN (aO (cH false) (CA false (vv 0) BX (BW aF)) (iS (aC (HJ (PY true) rfl B.list QQ (aC (aS (vv 0) aF aP) aJ)) aJ)))))
theorem VM:dM ["entry", "pouch", "at", "ahead"] ["entry", "pouch", "at"] (aY II):=iI
theorem Zt(B:hV mg)(h:HasFn K mg "moved" II)(RU:Dj P w K mg base):Di P w K mg base:=by
 refine cL.of h VM (fun _ _ _ _ _ _ us hl=>HQ us hl (fun _ _ _=>rfl)) (fun _ _ _ _ _ _ _ hr=>?_);exact(bA (cJ (i:=3) VM.nd rfl bJ (cF bN RU (hr.mono (by decide)) rfl (aC (vv 1) (aC (vv 2) aJ))))
  (bW (dN (iS (aC (aS (vv 0) aF aP) (aC (aO (cH false) (aS (vv 0) aF aP) (aS (vv 3) aF aP)) (aC (aO (cH false) (aS (vv 0) aF aP) (aS (vv 3) aF aP)) aJ)))))))
theorem IH:dM ["_law_script", "_law_k", "_law_cell_here"] ["_law_script", "_law_k"] (aY IZ):=iI
theorem aaK(B:hV mg)(h:HasFn K mg "_law_cell" IZ)(sO:QN P w K mg base):QO P w K mg base:=by
 refine cL.of h IH (fun _ _ _ _ _ _ us hl=>mJ us hl aP) (fun _ _ _ _ _ _ _ hr=>?_);exact(bA (cJ (i:=2) IH.nd rfl bJ aF)
  (bA (iR (eI vW (vv 1) (eG lZ rfl B.len PySem.boot_len (aC (vv 0) aJ)) (dH _))
   (bW (cJ (i:=2) IH.nd rfl bJ (aO gH (aS (vv 0) (vv 1) aP) aF)))
   kK)
  (bW (dN (cF bN sO (hr.mono (by decide)) rfl (aC (vv 2) (aC (aO (cH false) (vv 1) aF) aJ)))))))
theorem vT:dM ["one", "other", "entries", "at", "other_at"] ["one", "other"] (aY IJ):=iI
theorem Zu(B:hV mg)(h:HasFn K mg "merged_entries" IJ)(RS:Dk P w K mg base)(GS:Di P w K mg base):Dh P w K mg base:=by
 refine cL.of h vT (fun _ _ _ _ _ _ us hl=>mJ us hl aP) (fun _ _ _ _ _ _ _ hr=>?_);exact(bA (cJ (i:=2) vT.nd rfl bJ (fV true aJ))
  (bA (cJ (i:=3) vT.nd rfl bJ aF)
  (bA (cJ (i:=4) vT.nd rfl bJ aF)
  (bA (HH (fun _ _=>1000000) bN.passes (VW.vt (nZ (eI vW (vv 3) (eG lZ rfl B.len PySem.boot_len (aC (aS (vv 0) aF aP) aJ)) (dH _)) (sS (eI vW (vv 4) (eG lZ rfl B.len PySem.boot_len (aC (aS (vv 1) aF aP) aJ)) (dH _)))))
   (bW (iR (lI (cF bN RS (hr.mono (by decide)) rfl (aC (aS (vv 0) aF aP) (aC (vv 3) (aC (aS (vv 1) aF aP) (aC (vv 4) aJ))))))
    (bA (pE (qU PySem.F.plainAttrs_list PySem.F.slot_list_append PySem.F.type_list_append rC rD (vv 2) (aC (cF bN GS (hr.mono (by decide)) rfl (aC (aS (aS (vv 0) aF aP) (vv 3) aP) (aC (vv 1) (aC (vv 4) aJ)))) aJ)))
    (bW (cJ (i:=3) vT.nd rfl bJ (aO (cH false) (vv 3) aF))))
    (bA (pE (qU PySem.F.plainAttrs_list PySem.F.slot_list_append PySem.F.type_list_append rC rD (vv 2) (aC (cF bN GS (hr.mono (by decide)) rfl (aC (aS (aS (vv 1) aF aP) (vv 4) aP) (aC (vv 0) (aC (vv 3) aJ)))) aJ)))
    (bW (cJ (i:=4) vT.nd rfl bJ (aO (cH false) (vv 4) aF)))))))
  (bW (dN (vf 2)))))))
theorem pJ:dM ["_law_script", "_law_start", "_law_most", "_law_kind", "_law_keep", "_law_cells", "_law_stack", "_law_k", "_law_cell_here", "_law_upper"] ["_law_script", "_law_start", "_law_most"] (aY IQ):=iI
theorem aaA(B:hV mg)(h:HasFn K mg "_law_tree" IQ)(nV:QO P w K mg base)(mZ:GC P w K mg base)(sO:QN P w K mg base)(RY:Dd P w K mg base)(xP:QM P w K mg base)(RW:Cz P w K mg base)(RV:Dc P w K mg base):Dg P w K mg base:=by
 refine cL.of h pJ (fun _ _ _ _ _ _ us hl=>HQ us hl (fun _ _ _=>rfl)) (fun _ _ _ _ _ _ _ hr=>?_);exact(bA (cJ (i:=3) pJ.nd rfl bJ (aO gH (cF bN nV (hr.mono (by decide)) rfl (aC (vv 0) (aC (vv 1) aJ))) aF))
  (bA (cJ (i:=4) pJ.nd rfl bJ (aO (cH false) aF (aO gH (aO qY (cF bN nV (hr.mono (by decide)) rfl (aC (vv 0) (aC (vv 1) aJ))) aF) aF)))
  (bA (cJ (i:=5) pJ.nd rfl bJ (eG (wU rfl) rfl B.max boot_max (aC aF (aC (aO lN (aO lN (eG lZ rfl B.len PySem.boot_len (aC (vv 0) aJ)) (vv 1)) aF) aJ))))
  (bA (cJ (i:=6) pJ.nd rfl bJ (fV true (aC (iS (aC aF (aC aF (aC aF (aC (fV false aJ) aJ))))) aJ)))
  (bA (vN bN.passes rfl (Gi rfl B.range (aC (eG (aa6 rfl) rfl B.min boot_min (aC (vv 2) (aC (eG (wU rfl) rfl B.max boot_max (aC (vv 5) (aC (aO gH (aO qY (cF bN nV (hr.mono (by decide)) rfl (aC (vv 0) (aC (vv 1) aJ))) aF) (aO (cH false) (vv 2) aF)) aJ))) aJ))) aJ)) (fL (i:=7) pJ.nd rfl bJ)
   (bA (cJ (i:=8) pJ.nd rfl bJ (cF bN sO (hr.mono (by decide)) rfl (aC (cF bN nV (hr.mono (by decide)) rfl (aC (vv 0) (aC (aO (cH false) (aO (cH false) (vv 1) aF) (aO gH (vv 7) (eG (wU rfl) rfl B.max boot_max (aC aF (aC (vv 5) aJ))))) aJ))) (aC (vv 7) aJ))))
   (bW (iR (VW.vt (SX (eI (lO hr.units) (aO gH (vv 8) aF) aF (dH _)) (SW (eI DO (eG lZ rfl B.len PySem.boot_len (aC (vv 6) aJ)) aF (dH _)))))
    (bA (cJ (i:=9) pJ.nd rfl bJ (HK PySem.F.plainAttrs_list PySem.F.slot_list_pop PySem.F.type_list_pop XF XS (vv 6)))
    (bW (xX (aS (fV false (aC (cF bN mZ (hr.mono (by decide)) rfl (aC (aS (vv 6) (lK aF) aP) (aC (vv 9) aJ))) (aC (cF bN mZ (hr.mono (by decide)) rfl (aC (vv 9) (aC (aS (vv 6) (lK aF) aP) aJ))) aJ))) (aO gH (aO qY (vv 8) aF) aF) aP) (HI (vv 6) (lK aF)))))
    (bW (iR (eI (lO hr.units) (aO gH (vv 8) aF) aF (dH _))
     (bW (xX (cF bN RW (hr.mono (by decide)) rfl (aC (aS (vv 6) (lK aF) aP) (aC (vv 4) aJ))) (HI (vv 6) (lK aF))))
     (bW (pE (qU PySem.F.plainAttrs_list PySem.F.slot_list_append PySem.F.type_list_append rC rD (vv 6) (aC (cF bN xP (hr.mono (by decide)) rfl (aC (cF bN RY (hr.mono (by decide)) rfl (aC (cF bN sO (hr.mono (by decide)) rfl (aC (vv 8) (aC aF aJ))) (aC (vv 3) aJ))) (aC (cF bN RV (hr.mono (by decide)) rfl (aC (cF bN sO (hr.mono (by decide)) rfl (aC (vv 8) (aC aF aJ))) aJ)) aJ))) aJ))))))))))
  (bA (HH (fun _ _=>1000000) bN.passes (eI DO (eG lZ rfl B.len PySem.boot_len (aC (vv 6) aJ)) aF (dH _))
   (bA (cJ (i:=9) pJ.nd rfl bJ (HK PySem.F.plainAttrs_list PySem.F.slot_list_pop PySem.F.type_list_pop XF XS (vv 6)))
   (bW (xX (cF bN mZ (hr.mono (by decide)) rfl (aC (aS (vv 6) (lK aF) aP) (aC (vv 9) aJ))) (HI (vv 6) (lK aF))))))
  (bW (dN (aS (vv 6) aF aP)))))))))
theorem CW:dM ["one", "other", "size", "slack", "depth"] ["one", "other"] (aY IK):=iI
theorem Zv(B:hV mg)(h:HasFn K mg "merged" IK)(RQ:Dh P w K mg base):Df P w K mg base:=by
 refine cL.of h CW (fun _ _ _ _ _ _ us hl=>mJ us hl aP) (fun _ _ _ _ _ _ _ hr=>?_);exact(bA (cJ (i:=2) CW.nd rfl bJ (aO (cH false) (aS (vv 0) aF aP) (aS (vv 1) aF aP)))
  (bA (cJ (i:=3) CW.nd rfl bJ (aO (cH false) (aS (vv 0) aF aP) (aS (vv 1) aF aP)))
  (bA (cJ (i:=4) CW.nd rfl bJ (eG (wU rfl) rfl B.max boot_max (aC (aS (vv 0) aF aP) (aC (aS (vv 1) aF aP) aJ))))
  (bW (dN (iS (aC (vv 2) (aC (vv 3) (aC (vv 4) (aC (cF bN RQ (hr.mono (by decide)) rfl (aC (vv 0) (aC (vv 1) aJ))) aJ))))))))))
theorem CZ:dM ["_law_one", "_law_other", "_law_handed", "_law_found", "_law_due"] ["_law_one", "_law_other"] (aY IV):=iI
theorem aaF(B:hV mg)(h:HasFn K mg "_law_right" IV)(GV:Cw P w K mg base)(mZ:GC P w K mg base)(RX:Cy P w K mg base)(RR:Df P w K mg base):De P w K mg base:=by
 refine cL.of h CZ (fun _ _ _ _ _ _ us hl=>mJ us hl aP) (fun _ _ _ _ _ _ _ hr=>?_);exact(bA (cJ (i:=2) CZ.nd rfl bJ (fV false (aC (cF bN GV (hr.mono (by decide)) rfl (aC (vv 0) aJ)) (aC (cF bN GV (hr.mono (by decide)) rfl (aC (vv 1) aJ)) aJ))))
  (bA (cJ (i:=3) CZ.nd rfl bJ (cF bN RR (hr.mono (by decide)) rfl (aC (aS (vv 2) aF aP) (aC (aS (vv 2) aF aP) aJ))))
  (bA (cJ (i:=4) CZ.nd rfl bJ (cF bN mZ (hr.mono (by decide)) rfl (aC (vv 0) (aC (vv 1) aJ))))
  (bA (iR (VW.vt (nZ (nD (lI (cF bN RX (hr.mono (by decide)) rfl (aC (vv 3) (aC (vv 4) aJ))))) (sS (eI (DN hr.units) (vv 2) (fV false (aC (vv 0) (aC (vv 1) aJ))) (dH _)))))
   (bW (dN sT))
   kK)
  (bA (pE (HK PySem.F.plainAttrs_list PySem.F.slot_list_clear PySem.F.type_list_clear Rv Sm (aS (aS (vv 2) aF aP) aF aP)))
  (bA (pE (qU PySem.F.plainAttrs_list PySem.F.slot_list_append PySem.F.type_list_append rC rD (aS (aS (vv 2) aF aP) aF aP) (aC (iS (aC aF (aC aF (aC aF aJ)))) aJ)))
  (bW (dN (yB (lO hr.units) (vv 3) (vv 4) (dH _))))))))))
theorem tE:dM ["_law_script", "_law_spot", "_law_one", "_law_other", "_law_far", "_law_both", "_law_none"] ["_law_script"] (aY pK):=iI
theorem Zw{f:Addr}{fd:FuncData}(B:hV mg)(F:lD K "law" "law" pK f fd)(nV:QO P w K mg base)(mZ:GC P w K mg base)(nU:De P w K mg base)(xP:QM P w K mg base)(GU:Dg P w K mg base)(RT:cL P w K mg base "empty" 1 [] BM):fD P w K mg base (mG P w) 6 f fd ["_law_script"] (nG K 1 Ew):=by
 refine Ao F tE (fun _ _ _ _ _ _ _ hr=>?_);exact(bA (cJ (i:=1) tE.nd rfl bJ (aO (cH false) aF (aO gH (cF bN nV (hr.mono (by decide)) rfl (aC (vv 0) (aC aF aJ))) (eG (wU rfl) rfl B.max boot_max (aC aF (aC (eG lZ rfl B.len PySem.boot_len (aC (vv 0) aJ)) aJ))))))
  (bA (cJ (i:=2) tE.nd rfl bJ (cF bN GU (hr.mono (by decide)) rfl (aC (CA false (vv 0) BX (BW (vv 1))) (aC aF (aC aF aJ)))))
  (bA (cJ (i:=3) tE.nd rfl bJ (cF bN GU (hr.mono (by decide)) rfl (aC (CA false (vv 0) (BW (aO lN (vv 1) aF)) BX) (aC aF (aC aF aJ)))))
  (bA (iR (VW.vt (nZ (nD (lI (cF bN nU (hr.mono (by decide)) rfl (aC (vv 2) (aC (vv 3) aJ))))) (nZ (nD (lI (cF bN nU (hr.mono (by decide)) rfl (aC (vv 3) (aC (vv 2) aJ))))) (sS (nD (lI (cF bN nU (hr.mono (by decide)) rfl (aC (vv 2) (aC (vv 2) aJ)))))))))
   (bW (dN sT))
   kK)
  (bA (cJ (i:=4) tE.nd rfl bJ (cF bN xP (hr.mono (by decide)) rfl (aC (aO gH (cF bN nV (hr.mono (by decide)) rfl (aC (vv 0) (aC aF aJ))) aF) (aC (aO lN aF (aO gH (aO qY (cF bN nV (hr.mono (by decide)) rfl (aC (vv 0) (aC aF aJ))) aF) aF)) aJ))))
  (bA (cJ (i:=5) tE.nd rfl bJ (cF bN mZ (hr.mono (by decide)) rfl (aC (vv 4) (aC (vv 2) aJ))))
  (bA (iR (VW.vt (nZ (nD (lI (cF bN nU (hr.mono (by decide)) rfl (aC (vv 4) (aC (vv 2) aJ))))) (nZ (nD (lI (cF bN nU (hr.mono (by decide)) rfl (aC (vv 3) (aC (vv 4) aJ))))) (sS (nD (lI (cF bN nU (hr.mono (by decide)) rfl (aC (vv 5) (aC (cF bN mZ (hr.mono (by decide)) rfl (aC (vv 4) (aC (vv 4) aJ))) aJ)))))))))
   (bW (dN sT))
   kK)
  (bA (cJ (i:=6) tE.nd rfl bJ (Gk bN RT (hr.mono (by decide)) rfl))
  (bW (dN (HL (cF bN nU (hr.mono (by decide)) rfl (aC (vv 2) (aC (vv 6) aJ))) (HL (cF bN nU (hr.mono (by decide)) rfl (aC (vv 6) (aC (vv 3) aJ))) (HL (cF bN nU (hr.mono (by decide)) rfl (aC (vv 6) (aC (vv 6) aJ))) (SY (yB (lO hr.units) (vv 6) (iS (aC aF (aC aF (aC aF (aC (fV false aJ) aJ))))) (dH _))))))))))))))))
end
theorem all_mk{l:OpenLaw}{w:World}{K:Frag}{h:Heap}{mg:Str→Option Value}{fa fl:Addr}{od an:Option Addr}{sl:Array (Option Value)}{oc kV dc pm cd ct:Value}(X:K.In h)(G:h.Ns mainGlobals mg)(Wi:mg "law" = some (.ref fa))
  (al:nsIn K mainGlobals "law" = some (some (.ref fl))) (ll:K.lookup fl=some ⟨oc,od,.func (fnOf "law" "law" (kF pK) (eR pK) (aY pK) .none kV dc pm an cd ct),sl⟩) (lc:codeIn K cd "law" = true) (lk:keepIn K (.ref fl)=true)
  (B:hV mg)
  (Xj:HasFn K mg "empty" IM)
  (Xh:HasFn K mg "merged" IK)
  (Xg:HasFn K mg "merged_entries" IJ)
  (Xi:HasFn K mg "goes_first" IL)
  (Xf:HasFn K mg "moved" II)
  (Xk:HasFn K mg "bounds_ahead" IP)
  (Xs:HasFn K mg "_law_mix" IX)
  (Xw:HasFn K mg "_law_cell" IZ)
  (Xr:HasFn K mg "_law_number" IW)
  (Xm:HasFn K mg "_law_times" IS)
  (Xp:HasFn K mg "_law_run" IU)
  (Xu:HasFn K mg "_law_merged" tF)
  (Xn:HasFn K mg "_law_thinned" DA)
  (Xl:HasFn K mg "_law_tree" IQ)
  (Xo:HasFn K mg "_law_same" IT)
  (Xv:HasFn K mg "_law_copy" IY)
  (Xq:HasFn K mg "_law_right" IV)
  : ∃fd:FuncData,(∀(s:Shared) (v:Value),BindsTo s fd ⟨[v],[]⟩ [("_law_script",v)])∧∀base:Heap,K.In base→base.Ns mainGlobals mg→fD l.prog w K mg base qP 6 fa fd ["_law_script"] (CQ K):=by
 have e:=Wi.symm.trans (mg_of X G al);cases e;have FL:=Al (st:=pK) ll lc lk;refine⟨fnOf "law" "law" (kF pK) (eR pK) (aY pK) .none kV dc pm an cd ct,fun s v => .of_eq rfl,fun base _ _=>?_⟩;have RT:=@Zy l.prog w K mg base B Xj;have RS:=@Zx l.prog w K mg base B Xi;have RU:=@Zz l.prog w K mg base B Xk;have sO:=@aaH l.prog w K mg base B Xs;have RY:=@aaG l.prog w K mg base B Xr;have RV:=@aaB l.prog w K mg base B Xm;have xP:=@aaE l.prog w K mg base B Xp;have mZ:=@aaI l.prog w K mg base B Xu;have RW:=@aaC l.prog w K mg base B Xn;have RX:=@aaD l.prog w K mg base B Xo;have GV:=@aaJ l.prog w K mg base B Xv;have GS:=@Zt l.prog w K mg base B Xf RU;have nV:=@aaK l.prog w K mg base B Xw sO;have RQ:=@Zu l.prog w K mg base B Xg RS GS;have GU:=@aaA l.prog w K mg base B Xl nV mZ sO RY xP RW RV;have RR:=@Zv l.prog w K mg base B Xh RQ;have nU:=@aaF l.prog w K mg base B Xq GV mZ RX RR;exact Tg (Zw B FL nV mZ nU xP GU RT) M.Ti
theorem walk{l:OpenLaw}{q:Program}{loose:List Str}{XP:(Str→Option Value)→Heap→Prop}{YP:World→Heap→Prop}{d:DefRec}{K:Params→Frag}(hn:l.most=some 63)(zV:d.params.defaults=[])
  (hY:∀(w:World) (h:Heap),YP w h→(K w.params).In h)
  (F:∀(w:World) (mg:Str→Option Value) (fa:Addr) (h:Heap),(K w.params).In h→h.Ns mainGlobals mg→mg d.name=some (.ref fa) →
   ∃fd:FuncData,(∀(s:Shared) (u:Value),BindsTo s fd ⟨[u],[]⟩ [("_law_script",u)])∧∀base:Heap,(K w.params).In base→base.Ns mainGlobals mg→fD l.prog w (K w.params) mg base qP 6 fa fd ["_law_script"] (CQ (K w.params))) :
  PySem.W.WalkO q loose XP YP l.row.toRowW d [] (fun f vs=>PySem.call f vs) :=
 L2.Ge (n:=63) (k:=6) (x := "_law_script") (CX:=fun _=>qP) (sp:=fun w=>CQ (K w.params)) hn (by decide) zV ⟨rfl,by decide,by decide⟩ hY F (fun _ _ a ns hl _ hS=>⟨a,ns,rfl,hS,hl,fun _=>rfl⟩) fun _ _ _ _ _ z=>z
end RJ
open PySem PySem.W PyProof.Rows
namespace HD
open PySem PySem.W PyProof.Rows
def DB(B:String→Option Builtin)(p:Program)(w:World)(lo:Nat)(an:Option Value):Nat→SharedT→Thread→Option SharedT
 | 0,_,_=>none
 | m+1,x,th=>bif through th then some x else bif stepOk lo an th then(stepT (denote B) p w x th).bind (fun y=>DB B p w lo an m y.1 y.2)else none
theorem Nj{B:String→Option Builtin}{p:Program}{w:World}{lo:Nat}{an:Option Value}(m:Nat) :
  ∀(x y:SharedT) (th:Thread),DB B p w lo an m x th=some y→topRun B p w lo an m x.abs th=some y.abs:=by
 induction m with
 | zero=>intro x y th z;cases z
 | succ m ih =>
  intro x y th z;unfold DB at z;unfold topRun;cases a:through th <;> rw [a]at z
  ·cases b:stepOk lo an th <;> rw [b]at z
   ·cases z
   ·obtain⟨u,hu,z'⟩:=AV.mp (show(stepT (denote B) p w x th).bind _=some y from z);dsimp only;rw [stepT_spec (s':=u.1) (t':=u.2) hu];exact ih _ _ _ z'
  ·cases z;rfl
def grow:List Obj→BT→Nat→BT
 | [],T,_=>T
 | o::l,T,n=>grow l (T.ins n o) (n+1)
noncomputable def boot(w:World)(os:OsState):SharedT:=⟨grow (boot_heap w.params).objs.toList .nil 0,11,(boot_heap w.params).life,#[],boot_drawn,boot_toks,os⟩
noncomputable def ends(p:Program)(N:Nat)(w:World)(os:OsState):Option SharedT:=DB treeTable p w 11 (some (.ref 6)) N (boot w os) (topStub p)
theorem abD(w:World):((boot_heap w.params).isNs mainGlobals&&(#[]:Array GenState).size == 0,(boot_heap w.params).objs.size,(boot_heap w.params).nsMap mainGlobals "__annotations__")=(true,11,some (Value.ref 6)):=by kernel_rfl
theorem boot_abs(w:World)(os:OsState):(boot w os).abs=⟨boot_heap w.params,#[],boot_drawn,boot_toks,os⟩:=by kernel_rfl
def fits(p:Program)(h:Heap)(y:SharedT):Bool:=staticsOk (importedModules p.main.body) h y.abs.heap&&namesBound p y.abs.heap&&gensDone y.abs&&laidKept h y.abs.heap
theorem left{p q:Program}{loose:List Str}{Xt:Shared→Bool}{α:Type}{Yf:Shared→α}{Ya:World→α}{N:Nat}{g0:Bool}
  (plain:opening p=plainProg p.main.scope.names) (hN:Nat.ble 600 N=true) (fence:∀s,fenceModules? p s=some s)
  (tests:∀(w:World) (os:OsState),(ends p N w os).map (fits p (boot_heap w.params))=some true)
  (JV:∀(w:World) (os:OsState),(ends p N w os).map (fun y=>openSeen q loose (importedModules p.main.body) Xt g0 y.abs)=some (openGood q loose))
  (hook:∀(w:World) (os:OsState),(ends p N w os).map (fun y=>Yf y.abs)=some (Ya w)) :
  LeftO p q loose Xt Yf Ya N g0:=by
 intro w;obtain⟨⟨hp,ge,dr,tk,os⟩,ho,hq⟩:=sG.mp (boot_open plain hN fence w);simp only [QR]at hq;obtain⟨rfl,rfl,rfl,rfl⟩:=hq;have bs:=abD w;simp only [QR]at bs;obtain⟨y,hy,a1⟩:=sG.mp (tests w os);have a2:=JV w os;have a3:=hook w os;rw [hy]at a2 a3;have rr:=Nj _ _ _ _ hy;rw [boot_abs]at rr;have tt:topFrom treeTable p w N ⟨boot_heap w.params,#[],boot_drawn,boot_toks,os⟩=some y.abs:=by
  unfold topFrom;dsimp only;rw [bs.1,bs.2.1,bs.2.2,rr];show(match fits p (boot_heap w.params) y with | true=>some y.abs | false=>none)=some y.abs;rw [a1]
 show((fencedOpening treeTable p w N).bind (topFrom treeTable p w N)).map _=_;rw [ho,Option.bind_some,tt,Option.map_some,iY,QR];exact⟨iL a2,iL a3⟩
set_option maxRecDepth 100000
set_option maxHeartbeats 0
noncomputable def Tu(ds:List Nat)(l:List Stmt):List Stmt:=@List.rec Stmt (fun _=>Nat→List Stmt) (fun _=>[]) (fun s _ f i=>@Bool.rec (fun _=>List Stmt) (s::f (Nat.succ i)) (f (Nat.succ i)) (ds.any (Nat.beq i))) l 0
noncomputable def kept:Program:={ PySem.Challenge.pw_rankpouch_k13_merged_entry_by_entry with main:={ PySem.Challenge.pw_rankpouch_k13_merged_entry_by_entry.main with body:=Tu [0,7] PySem.Challenge.pw_rankpouch_k13_merged_entry_by_entry.main.body } }
noncomputable def seenX(s:Shared):Bool:=xlAt kept [] s&&recOk (RowW.records (OpenRow.toRowW (OpenLaw.row PySem.Challenge.rw_rankpouch_k13_merged_entry_by_entry))) s
theorem said:OpenLaw.wellSaid PySem.Challenge.rw_rankpouch_k13_merged_entry_by_entry=true:=by kernel_rfl
theorem plain:opening PySem.Challenge.pw_rankpouch_k13_merged_entry_by_entry=plainProg PySem.Challenge.pw_rankpouch_k13_merged_entry_by_entry.main.scope.names:=by kernel_rfl
theorem fence(s:Shared):fenceModules? PySem.Challenge.pw_rankpouch_k13_merged_entry_by_entry s=some s:=by kernel_rfl
theorem tests(w:World)(os:OsState):(ends PySem.Challenge.pw_rankpouch_k13_merged_entry_by_entry 1286 w os).map (fits PySem.Challenge.pw_rankpouch_k13_merged_entry_by_entry (boot_heap w.params))=some true:=by kernel_rfl
theorem JV(w:World)(os:OsState):(ends PySem.Challenge.pw_rankpouch_k13_merged_entry_by_entry 1286 w os).map (fun y=>openSeen kept [] (importedModules PySem.Challenge.pw_rankpouch_k13_merged_entry_by_entry.main.body) seenX true y.abs)=some (openGood kept []):=by kernel_rfl
end HD
open PySem PySem.W PyProof.Rows
local macro_rules
 | `(tactic| o_head $H) => `(tactic| refine holds_open (q := HD.kept) (loose := []) (N := 1286) (Xt := HD.seenX)
   (XP := XL HD.kept []) (Yf := Hook.obs $H) (Ya := Hook.val $H) (YP := Hook.says $H)
   ?_ (Hook.of $H) (Hook.keeps $H) (fun s e => xl_of s (Bool.and_eq_true_iff.mp e).1) XL.keeps
   (by rfl) (by rfl) (by rfl) (fun s e => recFacts_of (Bool.and_eq_true_iff.mp e).2)
   (by rfl) (by assumption) (by decide +kernel) ⟨rfl, rfl, rfl, rfl, rfl, by decide +kernel⟩ ?_ ?_)
set_option maxRecDepth 100000 in
set_option maxHeartbeats 0 in
theorem PySem.Challenge.cw_rankpouch_k13_merged_entry_by_entry_holds : PySem.Challenge.rw_rankpouch_k13_merged_entry_by_entry.Holds := by
 w_on
 refine holds_law HD.said fun said=>?_
 k_head
 ·clear said
  refine HD.left HD.plain (by kernel_rfl) HD.fence HD.tests HD.JV ?_
  intro w os
  kernel_rfl
 ·clear said
  w_witness2
 clear said
 k_fill
 refine RJ.walk (l:=PySem.Challenge.rw_rankpouch_k13_merged_entry_by_entry) rfl rfl (fun w h Y=>PySem.W.kIn_of Y) ?F
 case F =>
  intro w mg fa h KX G rH
  refine' RJ.all_mk KX G rH ?t1 ?t2 ?t3 ?t4 ⟨pP KX G ?t5,pP KX G ?t6,pP KX G ?t7,pP KX G ?t8,pP KX G ?t9,pP KX G ?Lp,pP KX G ?Lo,pP KX G ?Ln,pP KX G ?Lm,pP KX G ?Ll⟩ (L2.iV KX G ?Lk ?Lj ?Li ?Lh) (L2.iV KX G ?Lg ?Lf ?Le ?Ld) (L2.iV KX G ?Lc ?Lb ?La ?Kz) (L2.iV KX G ?Kx ?Kw ?Kv ?Ku) (L2.iV KX G ?Kt ?Ks ?Kq ?Kp) (L2.iV KX G ?Ko ?Kn ?Km ?Kl) (L2.iV KX G ?Kk ?Kj ?Ki ?Kh) (L2.iV KX G ?Kg ?Kf ?Ke ?Kd) (L2.iV KX G ?Kc ?Kb ?Ka ?Jz) (L2.iV KX G ?Jy ?Jx ?Jw ?Jv) (L2.iV KX G ?Ju ?Jt ?Js ?Jr) (L2.iV KX G ?Jq ?Jp ?Jo ?Jn) (L2.iV KX G ?Jm ?Jl ?Jk ?Jj) (L2.iV KX G ?Ji ?Jh ?Jg ?Jf) (L2.iV KX G ?Je ?Jd ?Jc ?Jb) (L2.iV KX G ?Ja ?Iz ?Iy ?Iw) (L2.iV KX G ?Iv ?Iu ?Ir ?Iq)
  case t1 | t2 | t3 | t4 | t5 | t6 | t7 | t8 | t9 | Lp | Lo | Ln | Lm | Ll | Lk | Lj | Li | Lh | Lg | Lf | Le | Ld | Lc | Lb | La | Kz | Kx | Kw | Kv | Ku | Kt | Ks | Kq | Kp | Ko | Kn | Km | Kl | Kk | Kj | Ki | Kh | Kg | Kf | Ke | Kd | Kc | Kb | Ka | Jz | Jy | Jx | Jw | Jv | Ju | Jt | Js | Jr | Jq | Jp | Jo | Jn | Jm | Jl | Jk | Jj | Ji | Jh | Jg | Jf | Je | Jd | Jc | Jb | Ja | Iz | Iy | Iw | Iv | Iu | Ir | Iq=>k_is
