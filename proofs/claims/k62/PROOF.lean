import PyProof.Rows.All
import KE.KDictList
import KE.KDictOf
import KE.KDictSum
import KE.KItemsList
import KE.KSortTup
import PyProof.AttrMissHeap
import PyProof.DefCall
import PyProof.ExcClass3
import PyProof.ExcInit
import PyProof.FactsAll.set
import PyProof.InstStoreFacts
import PyProof.P3In
import PyProof.Rows.FStr
import PyProof.Rows.RuleN_abs
import PyProof.Rows.SetFrom
import PyProof.SetRoads
import PyProof.ZipIter
import Wide.All
import OpenK.AllK
import Wide.FinOn
import Lean
import PyProof.EqAt
import PyProof.EqKinds
import PyProof.TupleCall
import PySem.Challenge.RW_rankpouch_k62_often_bounds
set_option Elab.async false
set_option linter.all false
set_option maxRecDepth 100000
abbrev aF:=@PySem.wpAny_bind
abbrev aS:=@PySem.wpAny_pure
abbrev bO:=@PySem.Heap.lt_size
abbrev bP:=@PySem.Heap.get?_push_of_some
abbrev bT:=@Ne.symm
abbrev cF:=@List.map_cons
abbrev cK:=@Nat.ne_of_lt
abbrev cL:=@List.getElem?_eq_some_iff
abbrev dG:=@List.mem_cons
abbrev dN:=@List.length_map
abbrev dY:=@PySem.Heap.get?_push_size
abbrev fP:=@List.mem_cons_of_mem
abbrev fU:=@List.getElem?_set_self
abbrev fV:=@List.getElem?_append_left
abbrev gW:=@Option.some.injEq
abbrev hX:=@List.size_toArray
abbrev iL:=@List.getElem?_set_ne
abbrev iM:=@List.getElem?_map
abbrev jB:=@if_false
abbrev jJ:=@Nat.lt_of_lt_of_le
abbrev jK:=@List.getElem?_eq_getElem
abbrev jM:=@PySem.wpAny_mono
abbrev jY:=@Bool.and_eq_true
abbrev jZ:=@Array.length_toList
abbrev kP:=@PySem.sizeLine_eq
abbrev kT:=@if_true
abbrev lP:=@decide_eq_false
abbrev lR:=@Option.some.inj
abbrev lS:=@List.set_cons_zero
abbrev lT:=@List.set_cons_succ
abbrev lU:=@List.nodup_cons
abbrev lV:=@List.mem_map
abbrev lW:=@List.mem_append_right
abbrev mJ:=@Nat.le_refl
abbrev mK:=@List.mem_singleton
abbrev nH:=@List.length_cons
abbrev nJ:=@PySem.wpAny_newObj_type
abbrev nQ:=@PySem.W.mg_none_of
abbrev nY:=@Nat.le_succ
abbrev oA:=@List.mem_of_getElem?
abbrev oB:=@List.map_nil
abbrev oE:=@PySem.Heap.get?_update_other
abbrev oH:=@PySem.wpAny_call_entry
abbrev pE:=@PySem.wpAny_ite_false
abbrev qE:=@beq_iff_eq
abbrev qF:=@beq_eq_false_iff_ne
abbrev qI:=@Option.bind_eq_some_iff
abbrev qJ:=@Nat.le_trans
abbrev qK:=@List.length_append
abbrev qQ:=@PySem.wpAny_holding
abbrev rX:=@PySem.codeAny_mono
abbrev sA:=@Option.map_eq_some_iff
abbrev sE:=@List.map_map
abbrev sF:=@List.getElem?_append_right
abbrev sN:=@Bool.false_eq_true
abbrev sP:=@PySem.wpAny_setField_rec
abbrev sQ:=@PySem.wpAny_Call_Name_kw
abbrev uA:=@Nat.lt_succ_of_lt
abbrev uE:=@List.mem_append_left
abbrev uJ:=@PySem.wpAny_setState_of
abbrev uK:=@PySem.wpAny_askSetting
abbrev uX:=@or_false
abbrev wN:=@decide_eq_true
abbrev wO:=@PySem.codeAny_builtin
abbrev wZ:=@List.set_set
abbrev xA:=@List.not_mem_nil
abbrev xC:=@Int.le_refl
abbrev xE:=@PySem.Heap.size_push
abbrev xN:=@PySem.wpAny_setEntries_of
abbrev yF:=@PySem.plainId_quiet
abbrev zL:=@decide_eq_true_eq
abbrev zP:=@PySem.call_meetsIn
abbrev zV:=@Nat.zero_le
abbrev zW:=@Nat.ne_of_gt
abbrev AB:=@List.lookup_cons
abbrev AD:=@List.length_set
abbrev AE:=@List.find?_cons
abbrev AF:=@List.Perm.refl
abbrev AH:=@Int.toNat_natCast
abbrev AK:=@PySem.Calls.spliced_cons
abbrev AL:=@PySem.Calls.callWith_builtin
abbrev AM:=@PySem.Around.under_plainId
abbrev AN:=@PySem.wpAny_truthy_bool
abbrev AO:=@PySem.wpAny_rule
abbrev AQ:=@PySem.wpAny_fieldsOf
abbrev AR:=@PySem.wpAny_callSpecial?_slot
abbrev AS:=@PySem.wpAny_attempt
abbrev EO:=@PyProof.Rows.boot_sorted
abbrev EV:=@Option.map_some
abbrev EY:=@List.reverse_cons
abbrev EZ:=@List.map_append
abbrev FA:=@List.getElem?_take
abbrev FC:=@List.cons.injEq
abbrev FD:=@List.cons.inj
abbrev FE:=@List.append_nil
abbrev FF:=@List.all_eq_true
abbrev FH:=@PySem.Heap.get?_push_ne
abbrev FW:=@PySem.Calls.spliced_nil
abbrev FY:=@Array.getElem?_eq_some_iff
abbrev FZ:=@PySem.wpAny_passesOwn
abbrev GA:=@PySem.wpAny_ite_true
abbrev GB:=@PySem.wpAny_field
abbrev GC:=@PySem.wpAny_Call_method0_late
abbrev JR:=@PyProof.Rows.get?_update_seq
abbrev KU:=@PyProof.Rows.boot_isinstance
abbrev LU:=@PyProof.Rows.callWith_type1
abbrev LV:=@PyProof.Rows.boot_list
abbrev LW:=@Nat.le_of_lt
abbrev LZ:=@List.mem_append
abbrev MA:=@List.map_congr_left
abbrev MB:=@List.length_take
abbrev MC:=@List.getElem_mem
abbrev MD:=@List.ext_getElem?
abbrev ME:=@List.any_cons
abbrev MH:=@PySem.Heap.size_update
abbrev MI:=@PySem.Heap.get?_update_self
abbrev MT:=@Array.getElem?_toList
abbrev MY:=@PySem.wpAny_isInstance
abbrev NW:=@PySem.tupleKind_room_in1
abbrev WI:=@getElem?_pos
abbrev WV:=@PySem.fits_of_scanBound
abbrev ZE:=@Prod.mk.injEq
abbrev ZG:=@Option.bind_some
abbrev ZJ:=@Nat.lt_trans
abbrev ZK:=@Nat.lt_succ_self
abbrev ZL:=@Nat.lt_or_ge
abbrev ZM:=@Nat.le_of_not_lt
abbrev ZZ:=@List.pairwise_iff_getElem
abbrev Aa:=@List.nodup_append
abbrev Ab:=@List.length_range
abbrev Ac:=@List.length_nil
abbrev Ad:=@List.getElem_of_mem
abbrev Ae:=@List.getElem?_eq_none
abbrev Af:=@List.filterMap_cons
abbrev Ag:=@List.all_cons
abbrev Aw:=@PySem.Calls.call_function_entry
abbrev Ay:=@Array.getElem?_eq_getElem
abbrev Az:=@Array.getD_eq_getD_getElem?
abbrev Md:=@PyProof.Rows.F.plain_set_update_loop
abbrev Mp:=@List.getD_eq_getElem?_getD
abbrev Mq:=@List.filterMap_map
abbrev Mr:=@List.filterMap_eq_map
abbrev Ms:=@List.drop_eq_getElem_cons
abbrev Mu:=@Int.eq_ofNat_of_zero_le
abbrev Mv:=@Int.emod_lt_of_pos
abbrev Mz:=@PySem.F.args_list_append_2
abbrev Nd:=@Bool.not_eq_true'
abbrev Ng:=@Array.getElem?_eq_none_iff
abbrev akK:=@PyProof.Rows.F.entry_set_update_loop
theorem dM{α:Sort _}{a:α}{q:Prop}:a=a∨q:=Or.inl rfl
theorem eX{α β γ:Sort _}{f:α→β→γ}:∀x y,f x y=f x y:=fun _ _=>rfl
theorem bG{n:Nat}:n≤n:=mJ n
theorem iLr{n:Int}:n≤n:=xC n
theorem nR{α:Type _}{a:α}{l:List α}:a∈a::l:=List.mem_cons_self ..
theorem vA{n:Nat}:0≤n:=zV n
open PySem.W (Frag OpenLaw callWith_K clsIn codeIn emptyDict findCls findIn fnOf hasDictIn instObj isFn isNs_of_in kdl_call keepIn kia_one kitOne lookIn makesIn methodCall_KW methodObj mg_of mroIn nsIn plainGet plainGet_of readsIn specialIn subIn takerIn typeIn)
namespace L2
open PySem PySem.Spec PyProof.Rows
abbrev Key:=Sum Int Str
def yN:Key→Value→Bool
 | .inl k,v=>Value.isInt k v
 | .inr x,v=>Value.isStrOf x v
def adI(w:World):Key→Int
 | .inl k=>hashInt k
 | .inr x=>hashStr w x
theorem pT:∀{k:Key} {v:Value},yN k v=true→(∃i t,k=Sum.inl i∧v=Value.int i t)∨(∃x t,k=Sum.inr x∧v=Value.str x t)
 | .inl i,v,h=>by
  obtain⟨t,e⟩:=Value.isInt_shape (k:=i) (v:=v) h;exact .inl ⟨i,t,rfl,e⟩
 | .inr x,v,h=>by
  obtain⟨t,e⟩:=Value.isStrOf_shape (x:=x) (v:=v) h;exact .inr ⟨x,t,rfl,e⟩
theorem adH(i:Int)(t:Tok):yN (.inl i) (.int i t)=true:=by simp [yN,Value.isInt]
theorem adG(x:Str)(t:Tok):yN (.inr x) (.str x t)=true:=by simp [yN,Value.isStrOf]
theorem adF(a b:Int):decide ((Sum.inl a:Key)=Sum.inl b)=(a == b):=by
 by_cases e:a=b
 ·subst e;simp
 ·have h:¬(Sum.inl a:Key)=Sum.inl b:=fun q=>e (Sum.inl.inj q);rw [lP h];exact(qF.mpr e).symm
theorem adC(a b:Str):decide ((Sum.inr a:Key)=Sum.inr b)=decide (a=b):=by
 by_cases e:a=b
 ·subst e;simp
 ·have h:¬(Sum.inr a:Key)=Sum.inr b:=fun q=>e (Sum.inr.inj q);rw [lP h,lP e]
theorem adE(a:Int)(b:Str):decide ((Sum.inl a:Key)=Sum.inr b)=false:=lP (fun q=>nomatch q)
theorem adD(a:Str)(b:Int):decide ((Sum.inr a:Key)=Sum.inl b)=false:=lP (fun q=>nomatch q)
def eO(prog:Program)(w:World):PySem.KeyKind prog w Key where
 is:=yN
 hash:=adI w
 inj:=fun v a b ha hb=>by
  rcases pT ha with⟨i,t,rfl,rfl⟩ | ⟨x,t,rfl,rfl⟩
  ·rcases pT hb with⟨j,u,rfl,e⟩ | ⟨y,u,rfl,e⟩
   ·injection e with e1 _;rw [e1]
   ·exact nomatch e
  ·rcases pT hb with⟨j,u,rfl,e⟩ | ⟨y,u,rfl,e⟩
   ·exact nomatch e
   ·injection e with e1 _;rw [e1]
 byValue:=fun k v h=>by
  rcases pT h with⟨i,t,rfl,rfl⟩ | ⟨x,t,rfl,rfl⟩ <;> rfl
 pyHash:=fun hv h=>by
  rcases pT hv with⟨i,t,rfl,rfl⟩ | ⟨x,t,rfl,rfl⟩
  ·exact wpAny_pyHash_int h
  ·exact wpAny_pyHash_str h
 eqBool:=fun hu hv h=>by
  rcases pT hu with⟨i,t,rfl,rfl⟩ | ⟨x,t,rfl,rfl⟩
  ·rcases pT hv with⟨j,u,rfl,rfl⟩ | ⟨y,u,rfl,rfl⟩
   ·rw [adF]at h;exact wpAny_eqBool_int h
   ·rw [adE]at h;exact SeqAt.EqAt.int_str i t y u _ _ _ _ h
  ·rcases pT hv with⟨j,u,rfl,rfl⟩ | ⟨y,u,rfl,rfl⟩
   ·rw [adD]at h;exact SeqAt.EqAt.str_int x t j u _ _ _ _ h
   ·rw [adC]at h;exact wpAny_eqBool_str h
 «strs»:=fun k x t v h=>by
  rcases pT h with⟨i,u,rfl,e⟩ | ⟨y,u,rfl,e⟩
  ·exact nomatch e
  ·injection e with e1 _;subst e1;cases v <;> rfl
theorem acL(prog:Program)(w:World)(i:Int)(t:Tok):(eO prog w).is (.inl i) (.int i t)=true:=adH i t
theorem acK(prog:Program)(w:World)(x:Str)(t:Tok):(eO prog w).is (.inr x) (.str x t)=true:=adG x t
inductive V where
 | aZ | bl (b:Bool) | int (i:Int) | str (x:Str) | KR (b:Array UInt8) | wI (b:UInt64) | ref (a:Addr) | ty (n:String)
 deriving DecidableEq
def RelV:V→Value→Prop
 | .aZ,u=>u=Value.none
 | .bl b,u=>u=Value.bool b
 | .int i,u=>∃t,u=Value.int i t
 | .str x,u=>∃t,u=Value.str x t
 | .KR b,u=>∃t,u=Value.bytes b t
 | .wI b,u=>∃t,u=Value.float b t
 | .ref a,u=>u=Value.ref a
 | .ty n,u=>u=Value.type n
abbrev Vals:List V→List Value→Prop:=Paired RelV
theorem Vals.length{xs:List V}{us:List Value}(r:Vals xs us):xs.length=us.length:=Paired.length r
theorem Vals.get:∀{xs:List V} {us:List Value} {i:Nat} {x:V},Vals xs us→xs[i]? = some x→∃u,us[i]? = some u∧RelV x u
 | _,_,_,_,.nil,e=>by simp at e
 | _,_,0,_,.cons r _,e=>by simp at e;subst e;exact⟨_,rfl,r⟩
 | _,_,i+1,x,.cons _ t,e=>by
  obtain⟨u,h1,h2⟩:=Vals.get (i:=i) (x:=x) t (by simpa using e);exact⟨u,by simpa using h1,h2⟩
theorem Vals.set{x:V}{u:Value}(r:RelV x u):∀{xs:List V} {us:List Value} (i:Nat),Vals xs us→Vals (xs.set i x) (us.set i u)
 | _,_,_,.nil => .nil
 | _,_,0,.cons _ t => .cons r t
 | _,_,i+1,.cons q t => .cons q (Vals.set r i t)
theorem Vals.append:∀{xs ys:List V} {us ws:List Value},Vals xs us→Vals ys ws→Vals (xs++ys) (us++ws)
 | _,_,_,_,.nil,s=>s
 | _,_,_,_,.cons r t,s => .cons r (Vals.append t s)
theorem Vals.take:∀{xs:List V} {us:List Value} (n:Nat),Vals xs us→Vals (xs.take n) (us.take n)
 | _,_,0,_ => .nil
 | _,_,_+1,.nil => .nil
 | _,_,n+1,.cons r t => .cons r (Vals.take n t)
def jX:Option V→Option Value→Prop
 | some v,some u=>RelV v u
 | none,none=>True
 | _,_=>False
def KV{κ:Type}:List (κ×V)→List (κ×Value)→Prop:=Paired fun(p:κ×V) (q:κ×Value)=>p.1=q.1∧RelV p.2 q.2
def kV:Key→V
 | .inl i => .int i
 | .inr x => .str x
inductive HO where
 | lst (xs:List V)
 | tup (xs:List V)
 | dK (kvs:List (Key×V)) | dT (kvs:List (List Key×V))
 | set (S:Int→Bool) (n:Nat)
 | ins (C dx:Addr) (fs:List (Str×V))
 | own (x:Addr)
 | xd (fs:List (Str×V))
 | met (f x:Addr)
 | HL (lo hi:Int)
 | bW (o:Obj) (u:HO)
 | qW (ps:Array Value)
 | ext (φ:Heap→Prop)
abbrev Hp:=Addr→Option HO
def upd(H:Hp)(a:Addr)(o:HO):Hp:=fun b=>if b=a then some o else H b
theorem cW{H:Hp}{a:Addr}{o:HO}:upd H a o a=some o:=by unfold upd;rw [if_pos rfl]
theorem aT{H:Hp}{a b:Addr}{o:HO}(h:b≠a):upd H a o b=H b:=by unfold upd;rw [if_neg h]
theorem pQ{H:Hp}{a b:Addr}{o u:HO}(h:H a=some o)(h':H b=some u)(d:o≠u):a≠b:=by
 intro e;subst e;rw [h]at h';exact d (lR h')
theorem gE{H:Hp}{a b:Addr}{o:HO}(h:H a=some o)(h':H b=none):a≠b:=by
 intro e;subst e;rw [h]at h';cases h'
section
variable(P:Program)(w:World)
def eV(H:Hp)(h:Heap)(a:Addr):HO→Prop
 | .lst xs=>xs.length≤sizeLine∧∃(aN:List Value) (n:Nat),Vals xs aN∧h.get? a=some { cls := .type "list",data := .seq aN.toArray n }
 | .tup xs=>xs.length≤sizeLine∧∃aN:List Value,Vals xs aN∧IsTup h a aN.toArray
 | .dK kvs=>kvs.length≤sizeLine∧(a == sysModules)=false∧∃vs,KV kvs vs∧h.DictOf (eO P w) a vs
 | .dT kvs=>kvs.length≤sizeLine∧(a == sysModules)=false∧∃xs:List (List Key×Addr×Value),
   Paired (fun(p:List Key×V) (q:List Key×Addr×Value)=>p.1=q.1∧H q.2.1=some (.tup (p.1.map kV))∧RelV p.2 q.2.2) kvs xs ∧
   ∃o es ep,h.get? a=some o∧o.ExactDict∧o.data = .dict es ep∧es.toList=xs.map (entryOfKey (tupleKind (eO P w)))∧(xs.map (·.1)).Nodup
 | .set S n=>h.SetOf (intKind P w) a S n
 | .ins C dx fs=>H dx=some (.own a)∧fs.length≤1000∧dx≠a∧h.get? a=some (instObj C dx) ∧
   ∃mA,h.Ns1 dx mA∧(∀f,jX (fs.lookup f) (mA f))∧PySem.Within mA (fs.map (·.1))
 | .own _=>∃o,h.get? a=some o
 | .xd fs=>∃mA,h.Ns1 a mA∧∀f,jX (fs.lookup f) (mA f)
 | .HL lo hi=>∃t u v,h.get? a=some { cls := .type "range",data := .fields #[.int lo t,.int hi u,.int 1 v] }
 | .bW o u=>h.get? a=some o∧eV H h a u
 | .qW ps=>h.get? a=some { cls := .none,data := .fields ps }
 | .met f x=>h.get? a=some (methodObj (.ref f) (.ref x))
 | .ext φ=>φ h∧(∃o,h.get? a=some o)∧∀h1 h2:Heap,φ h1→(∀o,h1.get? a=some o→h2.get? a=some o)→φ h2
def dO(H:Hp)(h:Heap):Prop:=∀a o,H a=some o→eV P w H h a o
end
section
variable{P:Program}{w:World}{H H':Hp}{h h':Heap}{a:Addr}{o:HO}
theorem eV.lt(x:eV P w H h a o):a<h.objs.size:=by
 cases o with
 | lst xs=>obtain⟨_,_,_,_,e⟩:=x;exact bO e
 | tup xs=>obtain⟨_,_,_,p⟩:=x;exact p.lt
 | dK kvs=>obtain⟨_,_,_,_,o,_,_,e,_⟩:=x;exact bO e
 | dT kvs=>obtain⟨_,_,_,_,o,_,_,e,_⟩:=x;exact bO e
 | set S n=>obtain⟨o,_,_,_,e,_⟩:=x;exact bO e
 | ins C dx fs=>obtain⟨_,_,_,e,_⟩:=x;exact bO e
 | own y=>obtain⟨_,e⟩:=x;exact bO e
 | xd fs=>obtain⟨_,⟨_,_,_,e,_⟩,_⟩:=x;exact bO e
 | HL lo hi=>obtain⟨_,_,_,e⟩:=x;exact bO e
 | bW ob u=>obtain⟨e,_⟩:=x;exact bO e
 | qW ps=>exact bO (show h.get? a=some _ from x)
 | met f y=>exact bO (show h.get? a=some _ from x)
 | ext φ=>obtain⟨_,⟨_,e⟩,_⟩:=x;exact bO e
theorem Paired.vC{α β:Type}{F G:α→β→Prop}:∀{l₁:List α} {l₂:List β},Paired F l₁ l₂→(∀a b,F a b→G a b)→Paired G l₁ l₂
 | _,_,.nil,_ => .nil
 | _,_,.cons r t,f => .cons (f _ _ r) (Paired.vC t f)
theorem eV.lI(x:eV P w H h a o)(k:∀b u,(b=a∨H b=some (.own a))→h.get? b=some u→h'.get? b=some u)
  (ho:∀b,H b=some (.own a)→H' b=some (.own a)) (ht:∀b xs,H b=some (.tup xs)→H' b=some (.tup xs)):eV P w H' h' a o:=by
 induction o with
 | lst xs=>obtain⟨z,aN,n,r,e⟩:=x;exact⟨z,aN,n,r,k _ _ (.inl rfl) e⟩
 | tup xs=>obtain⟨z,aN,r,ob,e,c⟩:=x;exact⟨z,aN,r,ob,k _ _ (.inl rfl) e,c⟩
 | dK kvs=>obtain⟨z,y,vs,r,ob,es,ep,e,c⟩:=x;exact⟨z,y,vs,r,ob,es,ep,k _ _ (.inl rfl) e,c⟩
 | dT kvs =>
  obtain⟨z,y,xs,r,ob,es,ep,e,c⟩:=x;exact⟨z,y,xs,Paired.vC r fun p q z=>⟨z.1,ht _ _ z.2.1,z.2.2⟩,ob,es,ep,k _ _ (.inl rfl) e,c⟩
 | set S n=>obtain⟨ob,es,ep,t,e,c⟩:=x;exact⟨ob,es,ep,t,k _ _ (.inl rfl) e,c⟩
 | ins C dx fs =>
  obtain⟨d,z,ne,e,mA,⟨od,es,ep,e2,c⟩,r⟩:=x;exact⟨ho _ d,z,ne,k _ _ (.inl rfl) e,mA,⟨od,es,ep,k _ _ (.inr d) e2,c⟩,r⟩
 | own y=>obtain⟨ob,e⟩:=x;exact⟨ob,k _ _ (.inl rfl) e⟩
 | xd fs=>obtain⟨mA,⟨od,es,ep,e,c⟩,r⟩:=x;exact⟨mA,⟨od,es,ep,k _ _ (.inl rfl) e,c⟩,r⟩
 | HL lo hi=>obtain⟨t,u,v,e⟩:=x;exact⟨t,u,v,k _ _ (.inl rfl) e⟩
 | bW ob u ih=>obtain⟨e,q⟩:=x;exact⟨k _ _ (.inl rfl) e,ih q⟩
 | qW ps =>
  have e:h.get? a=some { cls := .none,data := .fields ps }:=x;show h'.get? a=some { cls := .none,data := .fields ps };exact k a _ (.inl rfl) e
 | met f y =>
  have e:h.get? a=some (methodObj (.ref f) (.ref y)):=x;show h'.get? a=some (methodObj (.ref f) (.ref y));exact k a _ (.inl rfl) e
 | ext φ=>obtain⟨p,⟨o,e⟩,st⟩:=x;exact⟨st _ _ p fun o q=>k _ _ (.inl rfl) q,⟨o,k _ _ (.inl rfl) e⟩,st⟩
theorem dO.lt(x:dO P w H h)(e:H a=some o):a<h.objs.size:=(x a o e).lt
theorem dO.fresh(x:dO P w H h)(e:h.objs.size≤a):H a=none:=by
 cases q:H a with
 | none=>rfl
 | some u=>exact absurd (jJ (x.lt q) e) (Nat.lt_irrefl _)
theorem dO.kept(x:dO P w H h)(k:∀b u,h.get? b=some u→h'.get? b=some u):dO P w H h':=fun a o e =>
 (x a o e).lI (fun b u _ q=>k b u q) (fun _ q=>q) fun _ _ q=>q
theorem dO.laid(x:dO P w H h)(k:∀b u,h.get? b=some u→h'.get? b=some u)(hp:h.objs.size≤a)(new:eV P w (upd H a o) h' a o):dO P w (upd H a o) h':=fun b u e=>by
 have hn:=x.fresh hp
 by_cases hb:b=a
 ·subst hb;rw [cW]at e;cases e;exact new
 ·rw [aT hb]at e;exact(x b u e).lI (fun c v _ q=>k c v q) (fun c q=>by rw [aT (gE q hn)];exact q) fun c xs q=>by rw [aT (gE q hn)];exact q
end
def Rd(H:Hp)(a:Addr)(u:HO):Prop:=H a=some u∨∃o,H a=some (.bW o u)
theorem Rd.of{H:Hp}{a:Addr}{u:HO}(h:H a=some u):Rd H a u := .inl h
theorem Rd.ok{P:Program}{w:World}{H:Hp}{h:Heap}{a:Addr}{u:HO}(r:Rd H a u)(x:dO P w H h):eV P w H h a u:=by
 rcases r with r | ⟨o,r⟩
 ·exact x a u r
 ·obtain⟨_,q⟩:=x a _ r;exact q
def EW:Option HO→Prop
 | some (.lst _)=>True
 | some (.dK _)=>True
 | some (.dT _)=>True
 | some (.set _ _)=>True
 | some (.ins _ _ _)=>True
 | some (.ext _)=>True
 | _=>False
section
variable{P:Program}{w:World}{H:Hp}{h h':Heap}{x e:Addr}{o':HO}
theorem dO.write(ok:dO P w H h)(mu:EW (H x))(he:e=x∨H e=some (.own x))(k:∀b u,b≠e→h.get? b=some u→h'.get? b=some u)(yV:∃u,h'.get? e=some u)
  (new:eV P w (upd H x o') h' x o'):dO P w (upd H x o') h':=fun b u q=>by
 have Fo:∀c y,H c=some (.own y)→c≠x:=fun c y r z=>by subst z;rw [r]at mu;exact mu
 have abV:∀c xs,H c=some (.tup xs)→c≠x:=fun c xs r z=>by subst z;rw [r]at mu;exact mu
 by_cases hb:b=x
 ·subst hb;rw [cW]at q;cases q;exact new
 ·rw [aT hb]at q
  by_cases vU:b=e
  ·have q':H b=some (.own x):=by
    rcases he with z | z
    ·exact absurd (vU.trans z) hb
    ·rw [vU];exact z
   rw [q]at q';cases q';obtain⟨v,hv⟩:=yV;exact⟨v,by rw [vU];exact hv⟩
  ·refine(ok b u q).lI (fun c v hc r=>k c v ?_ r) (fun c r=>by rw [aT (Fo c b r)];exact r) fun c xs r=>by rw [aT (abV c xs r)];exact r
   rcases hc with rfl | hc
   ·exact vU
   ·rintro rfl
    rcases he with z | z
    ·exact Fo c b hc z
    ·rw [hc]at z;cases z;exact hb rfl
end
structure Un(fs ex:List Addr)(H H':Hp)(h h':Heap):Prop where
 keep:∀b o,h.get? b=some o→H b=none→b∉fs→b∉ex→h'.get? b=some o
 slot:∀b o,h.get? b=some o→H b=none→b∈fs→b∉ex→∃sl,h'.get? b=some { o with slots:=sl }
 free:∀b o,h.get? b=some o→H b=none→b∉ex→H' b=none
 there:∀b o,h.get? b=some o→b∉ex→∃o',h'.get? b=some o'
 iW:∀b xs,H b=some (.tup xs)→H' b=some (.tup xs)
 iJ:∀b o u,H b=some (.bW o u)→H' b=some (.bW o u)
 iY:∀b ps,H b=some (.qW ps)→∃more,H' b=some (.qW (ps++more))
section
variable{fs kG ex ex':List Addr}{H H1 H2:Hp}{h h1 h2 h':Heap}{a x e:Addr}{o:HO}
theorem Un.any(u:Un fs ex H H1 h h1){b:Addr}{ob:Obj}(q:h.get? b=some ob)(n:H b=none)(hx:b∉ex):∃sl,h1.get? b=some { ob with slots:=sl }:=by
 by_cases hb:b∈fs
 ·exact u.slot b ob q n hb hx
 ·exact⟨ob.slots,u.keep b ob q n hb hx⟩
theorem Un.trans(a:Un fs ex H H1 h h1)(b:Un fs ex H1 H2 h1 h2):Un fs ex H H2 h h2 where
 keep:=fun c ob q n hc hx=>b.keep c ob (a.keep c ob q n hc hx) (a.free c ob q n hx) hc hx
 slot:=fun c ob q n hc hx=>by
  obtain⟨sl,e1⟩:=a.slot c ob q n hc hx;obtain⟨BL,e2⟩:=b.slot c _ e1 (a.free c ob q n hx) hc hx;exact⟨BL,e2⟩
 free:=fun c ob q n hx=>by
  obtain⟨o',e1⟩:=a.there c ob q hx;exact b.free c o' e1 (a.free c ob q n hx) hx
 there:=fun c ob q hx=>by
  obtain⟨o',e1⟩:=a.there c ob q hx;exact b.there c o' e1 hx
 iW:=fun c xs q=>b.iW c xs (a.iW c xs q)
 iJ:=fun c ob xs q=>b.iJ c ob xs (a.iJ c ob xs q)
 iY:=fun c ps q=>by
  obtain⟨m1,e1⟩:=a.iY c ps q;obtain⟨m2,e2⟩:=b.iY c _ e1;exact⟨m1++m2,by rw [e2,Array.append_assoc]⟩
theorem Un.kept(k:∀b u,h.get? b=some u→h'.get? b=some u):Un fs ex H H h h' :=
 ⟨fun b ob q _ _ _=>k b ob q,fun b ob q _ _ _=>⟨ob.slots,k b ob q⟩,fun _ _ _ n _=>n,fun b ob q _=>⟨ob,k b ob q⟩,fun _ _ q=>q,fun _ _ _ q=>q,fun _ ps q=>⟨#[],by rw [q];simp⟩⟩
theorem Un.refl:Un fs ex H H h h:=Un.kept fun _ _ q=>q
theorem Un.laid(k:∀b u,h.get? b=some u→h'.get? b=some u)(hp:h.objs.size≤a)(hn:H a=none):Un fs ex H (upd H a o) h h' where
 keep:=fun b u q _ _ _=>k b u q
 slot:=fun b u q _ _ _=>⟨u.slots,k b u q⟩
 free:=fun b u q n _=>by rw [aT (cK (jJ (bO q) hp))];exact n
 there:=fun b u q _=>⟨u,k b u q⟩
 iW:=fun b xs q=>by rw [aT (gE q hn)];exact q
 iJ:=fun b u xs q=>by rw [aT (gE q hn)];exact q
 iY:=fun b ps q=>⟨#[],by rw [aT (gE q hn),q];simp⟩
theorem Un.write(mu:EW (H x))(he:e=x∨H e=some (.own x))(k:∀b u,b≠e→h.get? b=some u→h'.get? b=some u)(yV:∃u,h'.get? e=some u):Un fs ex H (upd H x o) h h':=by
 have hx:∀b,H b=none→b≠x:=fun b n z=>by subst z;rw [n]at mu;exact mu
 have hb:∀b,H b=none→b≠e:=fun b n z=>by
  subst z
  rcases he with r | r
  ·exact hx b n r
  ·rw [n]at r;cases r
 have hm:∀b u,H b=some u→¬EW (some u)→b≠x:=fun b u q nm z=>by subst z;rw [q]at mu;exact nm mu
 refine⟨fun b u q n _ _=>k b u (hb b n) q,fun b u q n _ _=>⟨u.slots,k b u (hb b n) q⟩,fun b u q n _=>by rw [aT (hx b n)];exact n,fun b u q _=>?_,
  fun b xs q=>by rw [aT (hm b _ q fun z=>z)];exact q,fun b u xs q=>by rw [aT (hm b _ q fun z=>z)];exact q,fun b ps q=>⟨#[],by rw [aT (hm b _ q fun z=>z),q];simp⟩⟩
 by_cases vU:b=e
 ·subst vU;exact yV
 ·exact⟨u,k b u vU q⟩
end
def GU(h:Heap)(H:Hp):List Addr:=(List.range h.objs.size).filter fun a=>(H a).isSome
def rL(h:Heap)(H:Hp):Heap:=PySem.W.hideAll h (GU h H)
theorem afB(h:Heap)(H:Hp):(rL h H).objs.size=h.objs.size:=PySem.W.hideAll_size _ _
theorem afC{h:Heap}{H:Hp}{b:Addr}{o:Obj}(e:h.get? b=some o)(n:H b=none):(rL h H).get? b=some o :=
 PySem.W.hideAll_get _ e fun hm=>by
  have q:(H b).isSome=true:=(List.mem_filter.mp hm).2;rw [n]at q;simp at q
theorem abL{h:Heap}{H:Hp}{b:Addr}{o:Obj}(e:(rL h H).get? b=some o):h.get? b=some o∧H b=none:=by
 have e':h.get? b=some o:=PySem.W.of_hideAll (GU h H) e;refine⟨e',?_⟩;cases q:H b with
 | none=>rfl
 | some x =>
  have hm:b∈GU h H:=List.mem_filter.mpr ⟨List.mem_range.mpr (bO e'),by simp [q]⟩;have z:(rL h H).get? b=none:=PySem.W.hideAll_none (GU h H) hm;rw [z]at e;cases e
def YU(g h:Heap)(L:Addr):List (Addr×Obj):=(List.range h.objs.size).filterMap fun a=>if a=L∨(g.get? a).isSome=true then none else(h.get? a).map fun o=>(a,o)
theorem acM{g h:Heap}{L a:Addr}{o:Obj}(h1:a≠L)(h2:g.get? a=none)(h3:h.get? a=some o):(a,o)∈YU g h L :=
 List.mem_filterMap.mpr ⟨a,List.mem_range.mpr (bO h3),by simp [h1,h2,h3]⟩
def rest(g h:Heap)(L d:Addr):List (Addr×Obj):=(YU g h L).filter fun p=>decide (p.1≠d)
structure Mod(K:Frag)(mg:Str→Option Value)(base:Heap):Prop where
 tL:K.In base
 glob:base.Ns mainGlobals mg
 blt:∃mb,base.Ns builtinsNs mb∧∀x:Str,x ≠ "__name__"→mb x=bootBuiltins x
 nolimit:base.NoLimit
structure Cx where
 prog:Program
 w:World
 K:Frag
 mg:Str→Option Value
 base:Heap
 A:Around
 N:List Str
 s₀:Shared
 H₀:Hp
 env:Env
 outer:List Env
 stack:List Env
 ex:List Addr
 fn:Str→Bool
 calm:Bool
 pn:List (Addr×Obj)
 xe:Value→Shared→Prop
def eR(l:List Env):List Addr:=l.filterMap (·.frame)
abbrev Cx.fs(X:Cx):List Addr:=eR X.outer
def YX(sc:Scope)(x:Str):Prop:=sc.names.lookup x=some .local∨sc.names.lookup x=some .cell∨sc.names.lookup x=some .free
def Loc(sc:Scope)(x:Str):Prop:=sc.names.lookup x=some .local∨sc.names.lookup x=some .cell
def Look(env:Env)(h:Heap)(m:Str→Option Value)(x:Str)(u:Value):Prop :=
 (env.kindOf x=some .local∧m x=some u)∨((env.kindOf x=some .cell∨env.kindOf x=some .free)∧∃c,env.cells.lookup x=some c∧h.IsCell c (some u))
structure Cx.Ok(X:Cx):Prop where
 mod:Mod X.K X.mg X.base
 kind:X.env.scope.kind = .function
 glob:X.env.globals=mainGlobals
 blt:X.env.builtins=builtinsNs
 above:X.s₀.heap.objs.size≤X.env.locals
 inj:∀x y c,X.env.cells.lookup x=some c→X.env.cells.lookup y=some c→x=y
 has:∀x,(X.env.kindOf x=some .cell∨X.env.kindOf x=some .free)→∃c,X.env.cells.lookup x=some c
 wU:∀x c,X.fn x=true→X.env.cells.lookup x=some c→X.s₀.heap.objs.size≤c
 hd:X.calm=true→X.A.handled=none
 frames:X.A.frames=some X.stack
 nO:X.stack=X.outer∨(X.stack=X.env::X.outer∧X.env.frame=some X.env.locals)
 wJ:∀b∈X.ex,b≠X.env.locals∧∀x c,X.env.cells.lookup x=some c→c≠b
 bs:∀b o,X.base.get? b=some o→X.s₀.heap.get? b=some o∧X.H₀ b=none
 mF:X.base.objs.size≤X.s₀.heap.objs.size
 pO:∀b o,X.base.get? b=some o→b∉X.ex
 tU:∀b∈X.ex,b∉X.fs
 kY:X.s₀.heap.FunFrames X.base X.outer
 oZ:∀b∈X.fs,X.H₀ b=none
structure Inv(X:Cx)(pins:List (Addr×Obj))(σ:List (Option V))(H:Hp)(s:Shared):Prop where
 ok:X.Ok
 os:s.os=X.s₀.os
 bare:AllBare s.gens
 base:Un X.fs X.ex X.H₀ H X.s₀.heap s.heap
 loc:∃m,s.heap.Ns X.env.locals m∧∀(i:Nat) (x:Str) (v:V),X.N[i]? = some x→σ[i]? = some (some v)→YX X.env.scope x→∃u,RelV v u∧Look X.env s.heap m x u
 cell:∀x c,X.env.cells.lookup x=some c→∃v,s.heap.IsCell c v
 free:H X.env.locals=none
 hU:∀x c,X.env.cells.lookup x=some c→H c=none
 pin:∀p∈X.pn++pins,s.heap.get? p.1=some p.2∧H p.1=none∧p.1≠X.env.locals∧p.1∉X.fs∧∀v,p.2.data ≠ .cell v
 aH:dO X.prog X.w H s.heap
 len:σ.length=X.N.length
section
variable{X:Cx}{pins:List (Addr×Obj)}{σ:List (Option V)}{H H':Hp}{s:Shared}{h':Heap}
theorem Cx.Ok.ab0(ok:X.Ok){b:Addr}{o:Obj}(e:X.base.get? b=some o):b∉X.fs:=fun hb=>by
 have:=(ok.kY.mem hb).1;rw [e]at this;cases this
theorem Inv.bs(I:Inv X pins σ H s):∀b o,X.base.get? b=some o→s.heap.get? b=some o∧H b=none:=fun b o e =>
 ⟨I.base.keep b o (I.ok.bs b o e).1 (I.ok.bs b o e).2 (I.ok.ab0 e) (I.ok.pO b o e),I.base.free b o (I.ok.bs b o e).1 (I.ok.bs b o e).2 (I.ok.pO b o e)⟩
theorem Inv.bk(I:Inv X pins σ H s):∀b o,X.base.get? b=some o→s.heap.get? b=some o:=fun b o e=>(I.bs b o e).1
theorem Inv.mod(I:Inv X pins σ H s):Mod X.K X.mg X.base:=I.ok.mod
theorem Inv.eQ(I:Inv X pins σ H s):X.K.In s.heap:=I.ok.mod.tL.keeps I.bk
theorem Inv.nolimit(I:Inv X pins σ H s):s.heap.NoLimit:=I.ok.mod.nolimit.keeps I.bk
theorem Inv.lt(I:Inv X pins σ H s):X.env.locals<s.heap.objs.size:=let ⟨_,hn,_⟩:=I.loc;hn.lt
theorem Inv.sz(I:Inv X pins σ H s):X.s₀.heap.objs.size≤s.heap.objs.size:=qJ I.ok.above (LW I.lt)
theorem Inv.abY(I:Inv X pins σ H s){a:Addr}(h:s.heap.objs.size≤a):a∉X.fs:=fun hb=>by
 obtain⟨_,o,ho,_⟩:=I.ok.kY.mem hb;exact absurd (jJ (bO ho) (qJ I.sz h)) (Nat.lt_irrefl _)
theorem Inv.wQ(I:Inv X pins σ H s):∀x c,X.env.cells.lookup x=some c→c≠X.env.locals:=fun x c e z=>by
 obtain⟨v,o,ho,hd⟩:=I.cell x c e;obtain⟨m,⟨o',es,ep,jU,yX,_⟩,_⟩:=I.loc;rw [z,jU]at ho;cases ho;rw [yX]at hd;cases hd
theorem Inv.kY(I:Inv X pins σ H s):s.heap.FunFrames X.base X.outer:=by
 have all:∀(l:List Env),(∀b∈eR l,b∈X.fs)→X.s₀.heap.FunFrames X.base l→s.heap.FunFrames X.base l:=by
  intro l
  induction l with
  | nil=>intro _ _;trivial
  | cons env r ih =>
   intro hs hl;obtain⟨hk,⟨L,o,hf,hn,ho,hd⟩,hr⟩:=hl;have hL:L∈X.fs:=hs L (by unfold eR;rw [List.filterMap_cons,hf];exact List.mem_cons_self);obtain⟨sl,e⟩:=I.base.slot L o ho (I.ok.oZ L hL) hL fun z=>I.ok.tU L z hL;exact⟨hk,⟨L,_,hf,hn,e,hd⟩,ih (fun b hb=>hs b (by unfold eR;rw [List.filterMap_cons,hf];exact List.mem_cons_of_mem _ hb)) hr⟩
 exact all X.outer (fun _ hb=>hb) I.ok.kY
theorem Inv.stack(I:Inv X pins σ H s):s.heap.FunFrames X.base X.stack:=by
 rcases I.ok.nO with e | ⟨e,hf⟩
 ·rw [e];exact I.kY
 ·rw [e];obtain⟨m,hn,_⟩:=I.loc;refine .cons (by rw [I.ok.kind];decide) hf hn ?_ I.kY;exact Heap.get?_none_of_le (qJ I.ok.mF I.ok.above)
theorem Inv.sT(I:Inv X pins σ H s):∀b∈eR X.stack,b∈X.env.locals::X.fs:=fun b hb=>by
 rcases I.ok.nO with e | ⟨e,hf⟩
 ·rw [e]at hb;exact fP _ hb
 ·rw [e]at hb;unfold eR at hb;rw [Af,hf]at hb;exact hb
theorem Inv.HA(I:Inv X pins σ H s):∀b∈eR X.stack,H b=none:=fun b hb=>by
 rcases dG.mp (I.sT b hb)with e | hb
 ·rw [e];exact I.free
 ·obtain⟨_,o,ho,_⟩:=I.ok.kY.mem hb;exact I.base.free b o ho (I.ok.oZ b hb) fun z=>I.ok.tU b z hb
theorem Inv.step{g':Array GenState}{t':Nat}{d':Drawn}{ch:List Addr}(I:Inv X pins σ H s)
  (lL:∀b∈ch,(b∈X.ex∨X.s₀.heap.objs.size≤b)∧b≠X.env.locals∧(∀x c,X.env.cells.lookup x=some c→c≠b)∧∀p∈X.pn++pins,p.1≠b)
  (keep:∀b o,b≠X.env.locals→b∉X.fs→b∉ch→s.heap.get? b=some o→H b=none→h'.get? b=some o)
  (slot:∀b o,b≠X.env.locals→b∈X.fs→b∉ch→s.heap.get? b=some o→H b=none→∃sl,h'.get? b=some { o with slots:=sl }) (free:∀b o,b∉ch→s.heap.get? b=some o→H b=none→H' b=none)
  (there:∀b o,b∉ch→s.heap.get? b=some o→∃o',h'.get? b=some o')
  (iW:∀b xs,H b=some (.tup xs)→H' b=some (.tup xs)) (iJ:∀b o u,H b=some (.bW o u)→H' b=some (.bW o u)) (iY:∀b ps,H b=some (.qW ps)→∃more,H' b=some (.qW (ps++more)))
  (ns:∀m,s.heap.Ns X.env.locals m→h'.Ns X.env.locals m) (aH:dO X.prog X.w H' h') (hg:AllBare g') :
  Inv X pins σ H' { s with heap:=h',gens:=g',drawn:=d',toks:=t' }:=by
 have Fu:∀b o,X.s₀.heap.get? b=some o→b≠X.env.locals:=fun b o e=>cK (jJ (bO e) I.ok.above);have tJ:∀b o,X.s₀.heap.get? b=some o→b∉X.ex→b∉ch:=fun b o e hx hb=>by
  rcases(lL b hb).1 with z | z
  ·exact hx z
  ·exact absurd (jJ (bO e) z) (Nat.lt_irrefl _)
 have cellK:∀x c,X.env.cells.lookup x=some c→∀v,s.heap.IsCell c v→h'.IsCell c v:=fun x c e v ⟨o,ho,hd⟩=>by
  have CH:c∉ch:=fun z=>(lL c z).2.2.1 x c e rfl
  by_cases hc:c∈X.fs
  ·obtain⟨sl,q⟩:=slot c o (I.wQ x c e) hc CH ho (I.hU x c e);exact⟨_,q,hd⟩
  ·exact⟨o,keep c o (I.wQ x c e) hc CH ho (I.hU x c e),hd⟩
 refine⟨I.ok,I.os,hg,⟨fun b o e n hb hx=>?_,fun b o e n hb hx=>?_,fun b o e n hx=>?_,fun b o e hx=>?_,fun b xs e=>iW b xs (I.base.iW b xs e),fun b o xs e=>iJ b o xs (I.base.iJ b o xs e),fun b ps e=>?_⟩,?_,fun x c e=>?_,?_,fun x c e=>?_,fun p hp=>?_,aH,I.len⟩
 ·exact keep b o (Fu b o e) hb (tJ b o e hx) (I.base.keep b o e n hb hx) (I.base.free b o e n hx)
 ·obtain⟨sl,e1⟩:=I.base.slot b o e n hb hx;obtain⟨BL,e2⟩:=slot b _ (Fu b o e) hb (tJ b o e hx) e1 (I.base.free b o e n hx);exact⟨BL,e2⟩
 ·obtain⟨o',e1⟩:=I.base.there b o e hx;exact free b o' (tJ b o e hx) e1 (I.base.free b o e n hx)
 ·obtain⟨o',e1⟩:=I.base.there b o e hx;exact there b o' (tJ b o e hx) e1
 ·obtain⟨m1,e1⟩:=I.base.iY b ps e;obtain⟨m2,e2⟩:=iY b _ e1;exact⟨m1++m2,by rw [e2,Array.append_assoc]⟩
 ·obtain⟨m,hn,hl⟩:=I.loc;refine⟨m,ns m hn,fun i x v e1 e2 e3=>?_⟩;obtain⟨u,r,l⟩:=hl i x v e1 e2 e3;refine⟨u,r,?_⟩
  rcases l with l | ⟨k,c,e,z⟩
  ·exact .inl l
  ·exact .inr ⟨k,c,e,cellK x c e _ z⟩
 ·obtain⟨v,z⟩:=I.cell x c e;exact⟨v,cellK x c e v z⟩
 ·obtain⟨m,⟨o,_,_,ho,_⟩,_⟩:=I.loc;exact free _ o (fun z=>(lL _ z).2.1 rfl) ho I.free
 ·obtain⟨v,o,ho,hd⟩:=I.cell x c e;exact free c o (fun z=>(lL c z).2.2.1 x c e rfl) ho (I.hU x c e)
 ·obtain⟨e,n,ne,nf,d⟩:=I.pin p hp;have CH:p.1∉ch:=fun z=>(lL p.1 z).2.2.2 p hp rfl;exact⟨keep p.1 p.2 ne nf CH e n,free p.1 p.2 CH e n,ne,nf,d⟩
theorem Inv.un{t':Nat}(I:Inv X pins σ H s)(u:Un X.fs [] H H' s.heap h')(aH:dO X.prog X.w H' h'):Inv X pins σ H' { s with heap:=h',toks:=t' }:=by
 obtain⟨m,⟨o,es,ep,ho,r⟩,_⟩:=id I.loc;obtain⟨sl,hL⟩:=u.any ho I.free (by simp);exact I.step (g':=s.gens) (d':=s.drawn) (ch:=[]) (fun _ z=>nomatch z) (fun b o _ hb _ e n=>u.keep b o e n hb (by simp)) (fun b o _ hb _ e n=>u.slot b o e n hb (by simp)) (fun b o _ e n=>u.free b o e n (by simp)) (fun b o _ e=>u.there b o e (by simp)) u.iW u.iJ u.iY (fun m' hm=>by
  obtain⟨o',cZ,KD,jU,r'⟩:=hm;rw [ho]at jU;cases jU;exact⟨_,cZ,KD,hL,r'⟩) aH I.bare
theorem Inv.call{g':Array GenState}{t':Nat}{d':Drawn}{ch:List Addr}(I:Inv X pins σ H s)(u:Un (eR X.stack) ch H H' s.heap h')(aH:dO X.prog X.w H' h')(hg:AllBare g')
  (lL:∀b∈ch,(b∈X.ex∨X.s₀.heap.objs.size≤b)∧b≠X.env.locals∧(∀x c,X.env.cells.lookup x=some c→c≠b)∧∀p∈X.pn++pins,p.1≠b) :
  Inv X pins σ H' { s with heap:=h',gens:=g',drawn:=d',toks:=t' }:=by
 obtain⟨m,⟨o,es,ep,ho,r⟩,_⟩:=id I.loc;obtain⟨sl,hL⟩:=u.any ho I.free fun z=>(lL _ z).2.1 rfl;exact I.step (ch:=ch) lL (fun b o hL hb hc e n=>u.keep b o e n (fun z=>(dG.mp (I.sT b z)).elim hL hb) hc) (fun b o _ _ hc e n=>u.any e n hc) (fun b o hc e n=>u.free b o e n hc) (fun b o hc e=>u.there b o e hc) u.iW u.iJ u.iY (fun m' hm=>by
  obtain⟨o',cZ,KD,jU,r'⟩:=hm;rw [ho]at jU;cases jU;exact⟨_,cZ,KD,hL,r'⟩) aH hg
theorem Inv.turned{t':Nat}{it:Addr}(I:Inv X pins σ H s)(k:∀b o,b≠it→s.heap.get? b=some o→h'.get? b=some o)(hn:H it=none)(hL:it≠X.env.locals)
  (h1:it∈X.ex∨X.s₀.heap.objs.size≤it) (h2:∀x c,X.env.cells.lookup x=some c→c≠it) (h3:∀p∈X.pn++pins,p.1≠it):Inv X pins σ H { s with heap:=h',toks:=t' }:=by
 have Ft:∀b u,H b=some u→b≠it:=fun b u e z=>by rw [z,hn]at e;cases e
 refine I.step (g':=s.gens) (d':=s.drawn) (ch:=[it]) (fun b hb=>?_) (fun b o _ _ hc e _=>k b o (fun z=>hc (by simp [z])) e) (fun b o _ _ hc e _=>⟨o.slots,k b o (fun z=>hc (by simp [z])) e⟩) (fun _ _ _ _ n=>n)
  (fun b o hc e=>⟨o,k b o (fun z=>hc (by simp [z])) e⟩) (fun _ _ e=>e) (fun _ _ _ e=>e) (fun b ps e=>⟨#[],by rw [e];simp⟩) (fun m hm=>?_) (fun b u e=>?_) I.bare
 ·have e:b=it:=by simpa using hb
  subst e;exact⟨h1,hL,h2,h3⟩
 ·obtain⟨o,es,ep,ho,r⟩:=hm;exact⟨o,es,ep,k _ o (bT hL) ho,r⟩
 ·refine(I.aH b u e).lI (fun c v hc q=>k c v ?_ q) (fun _ q=>q) fun _ _ q=>q
  rcases hc with z | z
  ·rw [z];exact Ft b u e
  ·exact Ft c _ z
theorem Inv.tok(I:Inv X pins σ H s)(t:Nat):Inv X pins σ H { s with toks:=t }:=I.un (h':=s.heap) (t':=t) Un.refl I.aH
theorem Inv.kept{t':Nat}(I:Inv X pins σ H s)(k:∀b u,s.heap.get? b=some u→h'.get? b=some u):Inv X pins σ H { s with heap:=h',toks:=t' }:=I.un (Un.kept k) (I.aH.kept k)
theorem Inv.laid{a:Addr}{o:HO}{t':Nat}(I:Inv X pins σ H s)(k:∀b u,s.heap.get? b=some u→h'.get? b=some u)(hp:s.heap.objs.size≤a)(new:eV X.prog X.w (upd H a o) h' a o) :
  Inv X pins σ (upd H a o) { s with heap:=h',toks:=t' }:=I.un (Un.laid k hp (I.aH.fresh hp)) (I.aH.laid k hp new)
theorem Inv.write{x e:Addr}{o:HO}{t':Nat}(I:Inv X pins σ H s)(mu:EW (H x))(he:e=x∨H e=some (.own x))(k:∀b u,b≠e→s.heap.get? b=some u→h'.get? b=some u)(yV:∃u,h'.get? e=some u)
  (new:eV X.prog X.w (upd H x o) h' x o):Inv X pins σ (upd H x o) { s with heap:=h',toks:=t' }:=I.un (Un.write mu he k yV) (I.aH.write mu he k yV new)
theorem Inv.QP{Ez:List (Addr×Obj)}(I:Inv X pins σ H s)(h:∀p∈Ez,s.heap.get? p.1=some p.2∧H p.1=none∧p.1≠X.env.locals∧p.1∉X.fs∧∀v,p.2.data ≠ .cell v):Inv X Ez σ H s :=
 ⟨I.ok,I.os,I.bare,I.base,I.loc,I.cell,I.free,I.hU,fun p hp=>(LZ.mp hp).elim (fun z=>I.pin p (uE _ z)) (h p),I.aH,I.len⟩
theorem Fs{N:List Str}(hN:N.Nodup){i j:Nat}{x:Str}(a:N[i]? = some x)(b:N[j]? = some x):i=j:=by
 obtain⟨h1,e1⟩:=cL.mp a;obtain⟨h2,e2⟩:=cL.mp b;exact(List.getElem_inj hN).mp (e1.trans e2.symm)
theorem Vp{M:Model}{A:Around}{E:Value→Shared→Prop}{i:Nat}{x:Str}{v:V}{u:Value}{Q:Unit→Shared→Prop}(I:Inv X pins σ H s)(hN:X.N.Nodup)(hi:X.N[i]? = some x)(hx:Loc X.env.scope x)(r:RelV v u)
  (h:∀s',Inv X pins (σ.set i (some v)) H s'→(∃a,Heap.SameBut a s.heap s'.heap∧(a=X.env.locals∨X.env.cells.lookup x=some a))→Q () s') (hf:X.fn x=true∨X.env.scope.names.lookup x=some .local:=by first | exact .inl rfl | exact .inr rfl | assumption):wpAny M A (storeName X.env x u) Q E s:=by
 obtain⟨m,hn,hl⟩:=id I.loc;have afR:(X.env.scope.kind == .class||(X.env.scope.kind == .module&&X.env.locals != X.env.globals))=false:=by rw [I.ok.kind];rfl
 have Hs:i<σ.length:=by rw [I.len];exact(cL.mp hi).1
 have wQ:=I.wQ;have tracked:∀{a:Addr} {h':Heap},(∃o,s.heap.get? a=some o∧H a=none)→Heap.SameBut a s.heap h'→dO X.prog X.w H h':=fun{a h'} ha hs b ob e=>by
  obtain⟨_,_,vS⟩:=ha;refine(I.aH b ob e).lI (fun c w' hc q=>(hs.2 c ?_).trans q) (fun _ q=>q) fun _ _ q=>q;rintro rfl
  rcases hc with rfl | hc
  ·rw [vS]at e;cases e
  ·rw [vS]at hc;cases hc
 rcases hx with hk | hk
 ·refine wpAny_storeName_local hk hn (fun h' hn' hs=>?_) afR;obtain⟨oL,_,_,nT,_⟩:=id hn;refine h _ ⟨I.ok,I.os,I.bare,⟨fun b o e n hb hx=>?_,fun b o e n hb hx=>?_,I.base.free,fun b o e hx=>?_,I.base.iW,I.base.iJ,I.base.iY⟩,⟨_,hn',fun j y v' e1 e2 e3=>?_⟩,fun y c e=>?_,I.free,I.hU,fun p hp=>?_,tracked ⟨oL,nT,I.free⟩ hs,by simpa using I.len⟩ ⟨_,hs,.inl rfl⟩
  ·exact(hs.2 b (cK (jJ (bO e) I.ok.above))).trans (I.base.keep b o e n hb hx)
  ·obtain⟨sl,e1⟩:=I.base.slot b o e n hb hx;exact⟨sl,(hs.2 b (cK (jJ (bO e) I.ok.above))).trans e1⟩
  ·obtain⟨o',e1⟩:=I.base.there b o e hx;exact⟨o',(hs.2 b (cK (jJ (bO e) I.ok.above))).trans e1⟩
  ·by_cases hj:j=i
   ·subst hj;rw [hi]at e1;cases e1;rw [fU Hs]at e2;cases e2;exact⟨u,r,.inl ⟨hk,by simp⟩⟩
   ·rw [iL (bT hj)]at e2;obtain⟨u',r',q⟩:=hl j y v' e1 e2 e3;refine⟨u',r',?_⟩
    rcases q with⟨k,e⟩ | ⟨k,c,e,z⟩
    ·refine .inl ⟨k,?_⟩;have:y≠x:=fun e=>hj (Fs hN e1 (e ▸ hi));simp [this,e]
    ·exact .inr ⟨k,c,e,z.sameBut hs (wQ y c e)⟩
  ·obtain⟨w',z⟩:=I.cell y c e;exact⟨w',z.sameBut hs (wQ y c e)⟩
  ·obtain⟨e,n,ne,nf,d⟩:=I.pin p hp;exact⟨(hs.2 p.1 ne).trans e,n,ne,nf,d⟩
 ·have UK:X.fn x=true:=by
   rcases hf with z | z
   ·exact z
   ·rw [z]at hk;cases hk
  obtain⟨c,hc⟩:=I.ok.has x (.inl hk);obtain⟨w',z⟩:=I.cell x c hc;refine wpAny_storeName_cell I.ok.kind hk hc z (fun h' nV hs=>?_);obtain⟨oc,JC,aeW⟩:=id z;refine h { s with heap:=h' } ⟨I.ok,I.os,I.bare,⟨fun b o e n hb hx=>?_,fun b o e n hb hx=>?_,I.base.free,fun b o e hx=>?_,I.base.iW,I.base.iJ,I.base.iY⟩,⟨m,hn.sameBut hs (bT (wQ x c hc)),fun j y v' e1 e2 e3=>?_⟩,fun y c' e=>?_,I.free,I.hU,fun p hp=>?_,tracked ⟨oc,JC,I.hU x c hc⟩ hs,by simpa using I.len⟩ ⟨c,hs,.inr hc⟩
  ·exact(hs.2 b (cK (jJ (bO e) (I.ok.wU x c UK hc)))).trans (I.base.keep b o e n hb hx)
  ·obtain⟨sl,e1⟩:=I.base.slot b o e n hb hx;exact⟨sl,(hs.2 b (cK (jJ (bO e) (I.ok.wU x c UK hc)))).trans e1⟩
  ·obtain⟨o',e1⟩:=I.base.there b o e hx;exact⟨o',(hs.2 b (cK (jJ (bO e) (I.ok.wU x c UK hc)))).trans e1⟩
  ·by_cases hj:j=i
   ·subst hj;rw [hi]at e1;cases e1;rw [fU Hs]at e2;cases e2;exact⟨u,r,.inr ⟨.inl hk,c,hc,nV⟩⟩
   ·rw [iL (bT hj)]at e2;obtain⟨u',r',q⟩:=hl j y v' e1 e2 e3;refine⟨u',r',?_⟩
    rcases q with q | ⟨k,c',e,z'⟩
    ·exact .inl q
    ·refine .inr ⟨k,c',e,z'.sameBut hs ?_⟩;rintro rfl;exact hj (Fs hN e1 (I.ok.inj _ _ _ e hc ▸ hi))
  ·by_cases Ig:c'=c
   ·subst Ig;exact⟨_,nV⟩
   ·obtain⟨w2,z2⟩:=I.cell y c' e;exact⟨w2,z2.sameBut hs Ig⟩
  ·obtain⟨e,n,ne,nf,d⟩:=I.pin p hp;refine⟨(hs.2 p.1 ?_).trans e,n,ne,nf,d⟩;intro q;rw [q,JC]at e;have q':oc=p.2:=lR e;exact d w' (by rw [← q'];exact aeW)
theorem De{M:Model}{A:Around}{E:Value→Shared→Prop}{i:Nat}{x:Str}{v:V}{u:Value}{Q:Unit→Shared→Prop}(I:Inv X pins σ H s)(hN:X.N.Nodup)(hi:X.N[i]? = some x)(hx:Loc X.env.scope x)(r:RelV v u)
  (h:∀s',Inv X pins (σ.set i (some v)) H s'→Q () s') (hf:X.fn x=true∨X.env.scope.names.lookup x=some .local:=by first | exact .inl rfl | exact .inr rfl | assumption):wpAny M A (storeName X.env x u) Q E s :=
 Vp I hN hi hx r (fun s' I' _=>h s' I') hf
theorem Inv.EM{s':Shared}{ch:List Addr}(I:Inv X pins σ H s)(ho:s'.os=s.os)(u:Un (eR X.stack) ch H H' s.heap s'.heap)(aH:dO X.prog X.w H' s'.heap)(hg:AllBare s'.gens)
  (lL:∀b∈ch,(b∈X.ex∨X.s₀.heap.objs.size≤b)∧b≠X.env.locals∧(∀x c,X.env.cells.lookup x=some c→c≠b)∧∀p∈X.pn++pins,p.1≠b):Inv X pins σ H' s':=by
 obtain⟨h',g',d',t',o'⟩:=s';have e:o'=s.os:=ho;subst e;exact I.call (g':=g') (t':=t') (d':=d') u aH hg lL
end
abbrev XK:=Value→Option Addr→Hp→Prop
abbrev St:=List (Option V)
abbrev VK:=V→Hp→Prop
abbrev TE:=St→Hp→VK→Prop
abbrev TT:=St→Hp→(Bool→Hp→Prop)→Prop
abbrev TA:=St→Hp→(List V→Hp→Prop)→Prop
structure Ends where
 nx:St→Hp→Prop
 rt:VK
 bk:St→Hp→Prop:=fun _ _=>False
 ct:St→Hp→Prop:=fun _ _=>False
abbrev TS:=Ends→St→Hp→Prop
def EP(X:Cx)(pins:List (Addr×Obj))(σ:St)(Q:VK)(u:Value)(s':Shared):Prop:=∃v H',Inv X pins σ H' s'∧RelV v u∧Q v H'
def TP(X:Cx)(pins:List (Addr×Obj))(σ:St)(Q:Bool→Hp→Prop)(b:Bool)(s':Shared):Prop:=∃H',Inv X pins σ H' s'∧Q b H'
def AP(X:Cx)(pins:List (Addr×Obj))(σ:St)(Q:List V→Hp→Prop)(us:List Value)(s':Shared):Prop:=∃vs H',Inv X pins σ H' s'∧Vals vs us∧Q vs H'
def SP(X:Cx)(pins:List (Addr×Obj))(D:Ends)(f:Flow)(s':Shared):Prop :=
 match f with
 | .next=>∃σ' H',Inv X pins σ' H' s'∧D.nx σ' H'
 | .brk=>∃σ' H',Inv X pins σ' H' s'∧D.bk σ' H'
 | .cont=>∃σ' H',Inv X pins σ' H' s'∧D.ct σ' H'
 | .ret u=>∃v σ' H',Inv X pins σ' H' s'∧RelV v u∧D.rt v H'
def PE(X:Cx)(e:Expr)(t:TE):Prop :=
 ∀(pins:List (Addr×Obj)) (s:Shared) (σ:St) (H:Hp) (Q:VK),Inv X pins σ H s→t σ H Q→wpAny (model X.prog X.w) X.A (eval e X.env) (EP X pins σ Q) X.xe s
def PT(X:Cx)(e:Expr)(t:TT):Prop :=
 ∀(pins:List (Addr×Obj)) (s:Shared) (σ:St) (H:Hp) (Q:Bool→Hp→Prop),Inv X pins σ H s→t σ H Q→wpAny (model X.prog X.w) X.A (isTrue e X.env (eval e X.env)) (TP X pins σ Q) X.xe s
def PW(X:Cx)(e:Expr)(t:TT):Prop :=
 ∀(whole:Sem Value) (pins:List (Addr×Obj)) (s:Shared) (σ:St) (H:Hp) (Q:Bool→Hp→Prop),Inv X pins σ H s→t σ H Q→wpAny (model X.prog X.w) X.A (isTrue e X.env whole) (TP X pins σ Q) X.xe s
theorem PW.pt{X:Cx}{e:Expr}{t:TT}(h:PW X e t):PT X e t:=h _
def PA(X:Cx)(es:List Expr)(t:TA):Prop :=
 ∀(pos:Pos) (pins:List (Addr×Obj)) (s:Shared) (σ:St) (H:Hp) (Q:List V→Hp→Prop),Inv X pins σ H s→t σ H Q→wpAny (model X.prog X.w) X.A (spliced (backTo pos (starEach es X.env))) (AP X pins σ Q) X.xe s
def PS(X:Cx)(st:Stmt)(t:TS):Prop :=
 ∀(pins:List (Addr×Obj)) (s:Shared) (σ:St) (H:Hp) (D:Ends),Inv X pins σ H s→t D σ H→wpAny (model X.prog X.w) X.A (exec st X.env) (SP X pins D) X.xe s
def kH(X:Cx)(st:List Stmt)(t:TS):Prop :=
 ∀(pins:List (Addr×Obj)) (s:Shared) (σ:St) (H:Hp) (D:Ends),Inv X pins σ H s→t D σ H→wpAny (model X.prog X.w) X.A (execs st X.env) (SP X pins D) X.xe s
theorem aW{α:Type}{t:Sem α}{Q Q':α→Shared→Prop}{M:Model}{A:Around}{E:Value→Shared→Prop}{s:Shared}(h:wpAny M A t Q E s)(hQ:∀a s,Q a s→Q' a s):wpAny M A t Q' E s:=jM h hQ fun _ _ x=>x
section
variable{X:Cx}
def Co(i:Nat):TE:=fun σ H Q=>∃v,σ[i]? = some (some v)∧Q v H
def tC(v:V):TE:=fun _ H Q=>Q v H
theorem Zq{i:Nat}{x:Str}{pos:Pos}(hN:X.N[i]? = some x)(hv:YX X.env.scope x)(hd:(x == ("__debug__" : Str))=false:=by decide)(jE:(x == ("__classdict__" : Str))=false:=by decide):PE X (.Name x pos) (Co i):=by
 intro pins s σ H Q I h;obtain⟨v,e,h⟩:=h;obtain⟨m,hn,hl⟩:=I.loc;obtain⟨u,r,l⟩:=hl i x v hN e hv;have fin:EP X pins σ Q u s:=⟨v,H,I,r,h⟩
 rcases l with⟨hk,hm⟩ | ⟨hk,c,hc,JN⟩
 ·exact wpAny_Name (wpAny_loadName_local I.ok.kind hk hn hm fin) hd
 ·rcases hk with hk | hk
  ·exact wpAny_Name (wpAny_loadName_cell I.ok.kind hk hc JN fin) hd
  ·exact wpAny_Name (wpAny_loadName_free I.ok.kind hk hc JN fin jE) hd
theorem aaI{i j pos}:PE X (.Constant (.int i) j pos) (tC (.int i)):=fun _ _ _ H _ I h=>wpAny_Constant_int ⟨.int i,H,I.tok _,⟨_,rfl⟩,h⟩
theorem aaS{b j pos}:PE X (.Constant (.bool b) j pos) (tC (.bl b)):=fun _ _ _ H _ I h=>Constant_bool ⟨.bl b,H,I,rfl,h⟩
theorem Zx{j pos}:PE X (.Constant .none j pos) (tC .aZ):=fun _ _ _ H _ I h=>Constant_none ⟨.aZ,H,I,rfl,h⟩
def Gl(X:Cx)(x:Str):Prop:=X.env.kindOf x=some .globalImplicit
theorem IP{E:Value→Shared→Prop}{pins:List (Addr×Obj)}{s:Shared}{σ:St}{H:Hp}{x:Str}{u:Value}{pos:Pos}{Q:Value→Shared→Prop}(I:Inv X pins σ H s)(hg:Gl X x)(hm:X.mg x=some u)(h:Q u s)
  (hd:(x == ("__debug__" : Str))=false:=by decide):wpAny (model X.prog X.w) X.A (eval (.Name x pos) X.env) Q E s :=
 Calls.Name_function_global I.ok.kind hg (Calls.loadGlobal_global (by rw [I.ok.glob];exact I.mod.glob.keeps I.bk) hm h) hd
theorem rF{E:Value→Shared→Prop}{pins:List (Addr×Obj)}{s:Shared}{σ:St}{H:Hp}{x:Str}{u:Value}{pos:Pos}{Q:Value→Shared→Prop}(I:Inv X pins σ H s)(hg:Gl X x)(hm:X.mg x=none)(hv:bootBuiltins x=some u)(h:Q u s)
  (hn:x ≠ "__name__":=by decide) (hd:(x == ("__debug__" : Str))=false:=by decide):wpAny (model X.prog X.w) X.A (eval (.Name x pos) X.env) Q E s:=by
 obtain⟨mb,h1,h2⟩:=I.mod.blt;exact Calls.Name_function_global I.ok.kind hg (Calls.loadGlobal_builtin (by rw [I.ok.glob];exact I.mod.glob.keeps I.bk) hm (by rw [I.ok.blt];exact h1.keeps I.bk) ((h2 x hn).trans hv) h) hd
theorem aaJ{x:Str}{v:V}{u:Value}{pos:Pos}(hg:Gl X x)(hm:X.mg x=some u)(r:RelV v u)(hd:(x == ("__debug__" : Str))=false:=by decide):PE X (.Name x pos) (tC v) :=
 fun _ _ _ H _ I h=>IP I hg hm ⟨v,H,I,r,h⟩ hd
theorem aaR{x:Str}{v:V}{u:Value}{pos:Pos}(hg:Gl X x)(hm:X.mg x=none)(hv:bootBuiltins x=some u)(r:RelV v u)(hn:x ≠ "__name__":=by decide)(hd:(x == ("__debug__" : Str))=false:=by decide):PE X (.Name x pos) (tC v) :=
 fun _ _ _ H _ I h=>rF I hg hm hv ⟨v,H,I,r,h⟩ hn hd
variable{a b:Expr}{ta tb:TE}{pos:Pos}
def PC(X:Cx)(op:CmpOp)(a b:Expr)(t:TE):Prop :=
 ∀(pins:List (Addr×Obj)) (s:Shared) (σ:St) (H:Hp) (Q:VK),Inv X pins σ H s→t σ H Q →
  wpAny (model X.prog X.w) X.A (eval a X.env) (fun v s₁=>wpAny (model X.prog X.w) X.A (eval b X.env) (fun u s₂=>wpAny (model X.prog X.w) X.A (compareOp op v u) (EP X pins σ Q) X.xe s₂) X.xe s₁) X.xe s
def tB(t:TE):TT:=fun σ H Q=>t σ H fun x H1=>∃c,x = .bl c∧Q c H1
theorem Yt{op:CmpOp}{t:TE}(h:PC X op a b t)(h1:behindInMarks op b=false:=by first | exact amB _ (by decide) (by decide) | rfl):PT X (.Compare a [op] [b] pos) (tB t):=by
 intro pins s σ H Q I hw;refine wpAny_isTrue_Compare1 (aW (h pins s σ H _ I hw) fun v s1 h1=>aW h1 fun u s2 h2=>aW h2 fun c s3 ⟨x,H1,I1,r1,q1⟩=>?_) h1;obtain⟨d,rfl,q⟩:=q1;cases r1;exact AN ⟨H1,I1,q⟩
theorem Yq{e:Expr}{t:TE}(h:PE X e t)(he:∀whole,isTrue e X.env whole=(do let v ← whole;standAt e.pos;holding [v] (truthy v)):=by intro _;rfl):PT X e (tB t):=by
 intro pins s σ H Q I hw;refine isTrue_plain (aW (h pins s σ H _ I hw) fun v s1 ⟨x,H1,I1,r1,q1⟩=>?_) (he _);obtain⟨d,rfl,q⟩:=q1;cases r1;exact AN ⟨H1,I1,q⟩
variable{tA GZ:TT}{rest:List Expr}
def Qu(t u:TT):TT:=fun σ H Q=>t σ H fun c H1=>if c=true then u σ H1 Q else Q false H1
def Qe(t u:TT):TT:=fun σ H Q=>t σ H fun c H1=>if c=true then Q true H1 else u σ H1 Q
def Qg(t:TT):TT:=fun σ H Q=>t σ H fun c H1=>Q (!c) H1
theorem pw_and1(ha:PT X a tA):PW X (.BoolOp .And [a] pos) tA:=by
 intro wh pins s σ H Q I h;refine isTrue_and (aW (ha pins s σ H Q I h) fun c s1 e=>?_);cases c with
 | true=>exact isTrue_and_nil e
 | false=>exact e
theorem pw_or1(ha:PT X a tA):PW X (.BoolOp .Or [a] pos) tA:=by
 intro wh pins s σ H Q I h;refine isTrue_or (aW (ha pins s σ H Q I h) fun c s1 e=>?_);cases c with
 | false=>exact isTrue_or_nil e
 | true=>exact e
theorem pw_and(ha:PT X a tA)(hb:PW X (.BoolOp .And (b::rest) pos) GZ):PW X (.BoolOp .And (a::b::rest) pos) (Qu tA GZ):=by
 intro wh pins s σ H Q I h;refine isTrue_and (aW (ha pins s σ H _ I h) fun c s1 ⟨H1,I1,q1⟩=>?_);cases c with
 | true=>exact hb wh pins s1 σ H1 Q I1 q1
 | false=>exact⟨H1,I1,q1⟩
theorem pw_or(ha:PT X a tA)(hb:PW X (.BoolOp .Or (b::rest) pos) GZ):PW X (.BoolOp .Or (a::b::rest) pos) (Qe tA GZ):=by
 intro wh pins s σ H Q I h;refine isTrue_or (aW (ha pins s σ H _ I h) fun c s1 ⟨H1,I1,q1⟩=>?_);cases c with
 | true=>exact⟨H1,I1,q1⟩
 | false=>exact hb wh pins s1 σ H1 Q I1 q1
theorem Yr(ha:PT X a tA):PT X (.UnaryOp .Not a pos) (Qg tA):=by
 intro pins s σ H Q I h;exact isTrue_not (ha pins s σ H (fun c H1=>Q (!c) H1) I h)
def Qt(ta tb:TE):TE:=fun σ H Q=>ta σ H fun x H1=>∃c,x = .bl c∧if c=true then tb σ H1 Q else Q (.bl false) H1
def Qf(ta:TE):TE:=fun σ H Q=>ta σ H fun x H1=>∃c,x = .bl c∧Q (.bl (!c)) H1
theorem Zv{op}{t:TE}(h:PE X a t):PE X (.BoolOp op [a] pos) t:=fun pins s σ H Q I hw=>BoolOp_one (h pins s σ H Q I hw)
theorem aaU(ha:PE X a ta)(hb:PE X (.BoolOp .And (b::rest) pos) tb):PE X (.BoolOp .And (a::b::rest) pos) (Qt ta tb):=by
 intro pins s σ H Q I h;refine BoolOp_and (aW (ha pins s σ H _ I h) fun v s1 ⟨x,H1,I1,r1,q1⟩=>?_);obtain⟨c,rfl,q1⟩:=q1;cases r1;refine AN ?_;cases c with
 | true=>exact hb pins s1 σ H1 Q I1 q1
 | false=>exact⟨.bl false,H1,I1,rfl,q1⟩
theorem Zw(ha:PE X a ta):PE X (.UnaryOp .Not a pos) (Qf ta):=by
 intro pins s σ H Q I h;refine UnaryOp_ (aW (ha pins s σ H _ I h) fun v s1 ⟨x,H1,I1,r1,q1⟩=>?_);obtain⟨c,rfl,q1⟩:=q1;cases r1;exact not_of (AN ⟨.bl (!c),H1,I1,rfl,q1⟩)
end
def eE(K:Frag)(H:Hp)(a:Addr)(xs:List V):Prop :=
 Rd H a (.lst xs) ∨
  ∃(o:Obj) (aN:Array Value) (n:Nat),K.lookup a=some o∧o.cls = .type "list"∧o.dict=none∧o.data = .seq aN n∧aN.size≤sizeLine∧Vals xs aN.toList
def eZ(K:Frag)(H:Hp)(a:Addr)(xs:List V):Prop :=
 Rd H a (.tup xs) ∨
  ∃(o:Obj) (aN:Array Value) (n:Nat),K.lookup a=some o∧o.cls = .type "tuple"∧o.data = .seq aN n∧aN.size≤sizeLine∧Vals xs aN.toList
def akG:Value→Option V
 | .none=>some .aZ
 | .bool b=>some (.bl b)
 | .int i _=>some (.int i)
 | .str x _=>some (.str x)
 | .bytes b _=>some (.KR b)
 | .float b _=>some (.wI b)
 | .ref a=>some (.ref a)
 | .type n=>some (.ty n)
 | _=>none
theorem RelV.abs{x:V}{u:Value}(r:RelV x u):akG u=some x:=by
 cases x with
 | aZ=>cases r;rfl
 | bl _=>cases r;rfl
 | int _=>obtain⟨t,rfl⟩:=r;rfl
 | str _=>obtain⟨t,rfl⟩:=r;rfl
 | KR _=>obtain⟨t,rfl⟩:=r;rfl
 | wI _=>obtain⟨t,rfl⟩:=r;rfl
 | ref _=>cases r;rfl
 | ty _=>cases r;rfl
theorem RelV.inj{x y:V}{u:Value}(r:RelV x u)(q:RelV y u):x=y:=lR (r.abs.symm.trans q.abs)
theorem Vals.inj:∀{xs ys:List V} {us:List Value},Vals xs us→Vals ys us→xs=ys
 | _,_,_,.nil,.nil=>rfl
 | _,_,_,.cons r t,.cons r' t'=>by rw [r.inj r',Vals.inj t t']
section
variable{X:Cx}{pins:List (Addr×Obj)}{σ:St}{H:Hp}{s:Shared}{a:Addr}{xs ys:List V}
theorem eE.of{K:Frag}(h:H a=some (.lst xs)):eE K H a xs := .inl (.inl h)
theorem eZ.of{K:Frag}(h:H a=some (.tup xs)):eZ K H a xs := .inl (.inl h)
theorem Inv.list(I:Inv X pins σ H s)(h:eE X.K H a xs):∃aN:List Value,Vals xs aN∧PlainL s.heap a aN.toArray∧xs.length≤sizeLine:=by
 rcases h with h | ⟨o,aN,n,hk,hc,hd,hs,hz,r⟩
 ·obtain⟨z,aN,n,r,e⟩:=h.ok I.aH;exact⟨aN,r,⟨_,n,e,rfl,rfl,rfl⟩,z⟩
 ·refine⟨aN.toList,r,⟨o,n,I.eQ a o hk,hc,hd,by simpa using hs⟩,?_⟩;have e:=r.length;simp only [jZ]at e;omega
theorem Inv.tuple(I:Inv X pins σ H s)(h:eZ X.K H a xs):∃aN:List Value,Vals xs aN∧IsTup s.heap a aN.toArray∧xs.length≤sizeLine:=by
 rcases h with h | ⟨o,aN,n,hk,hc,hs,hz,r⟩
 ·obtain⟨z,aN,r,p⟩:=h.ok I.aH;exact⟨aN,r,p,z⟩
 ·refine⟨aN.toList,r,⟨o,I.eQ a o hk,hc,n,by simpa using hs⟩,?_⟩;have e:=r.length;simp only [jZ]at e;omega
theorem Inv.acW(I:Inv X pins σ H s)(h:eE X.K H a xs)(h':eE X.K H a ys):xs=ys:=by
 obtain⟨aN,r,⟨o,n,e,_,_,d⟩,_⟩:=I.list h;obtain⟨its',r',⟨o',n',e',_,_,d'⟩,_⟩:=I.list h';rw [e]at e';cases e';rw [d]at d';injection d' with d1 _;have:aN=its':=by simpa using congrArg Array.toList d1
 subst this;exact r.inj r'
theorem Inv.Pj(I:Inv X pins σ H s)(h:eZ X.K H a xs)(h':eZ X.K H a ys):xs=ys:=by
 obtain⟨aN,r,⟨o,e,_,n,d⟩,_⟩:=I.tuple h;obtain⟨its',r',⟨o',e',_,n',d'⟩,_⟩:=I.tuple h';rw [e]at e';cases e';rw [d]at d';injection d' with d1 _;have:aN=its':=by simpa using congrArg Array.toList d1
 subst this;exact r.inj r'
end
abbrev Cx.kM(X:Cx)(E:Value→Shared→Prop):Cx:={ X with xe:=E }
abbrev Cx.mU(X:Cx):Cx:=X.kM fun _ _=>False
theorem Cx.Ok.kM{X:Cx}(ok:X.Ok)(E:Value→Shared→Prop):(X.kM E).Ok :=
 ⟨ok.mod,ok.kind,ok.glob,ok.blt,ok.above,ok.inj,ok.has,ok.wU,ok.hd,ok.frames,ok.nO,ok.wJ,ok.bs,ok.mF,ok.pO,ok.tU,ok.kY,ok.oZ⟩
theorem Cx.Ok.mR{X:Cx}{E:Value→Shared→Prop}(ok:(X.kM E).Ok):X.Ok :=
 ⟨ok.mod,ok.kind,ok.glob,ok.blt,ok.above,ok.inj,ok.has,ok.wU,ok.hd,ok.frames,ok.nO,ok.wJ,ok.bs,ok.mF,ok.pO,ok.tU,ok.kY,ok.oZ⟩
section
variable{X:Cx}{pins:List (Addr×Obj)}{σ:St}{H:Hp}{s:Shared}{E:Value→Shared→Prop}
theorem Inv.kM(I:Inv X pins σ H s)(E:Value→Shared→Prop):Inv (X.kM E) pins σ H s:=⟨I.ok.kM E,I.os,I.bare,I.base,I.loc,I.cell,I.free,I.hU,I.pin,I.aH,I.len⟩
theorem Inv.mR(I:Inv (X.kM E) pins σ H s):Inv X pins σ H s:=⟨I.ok.mR,I.os,I.bare,I.base,I.loc,I.cell,I.free,I.hU,I.pin,I.aH,I.len⟩
theorem SP.mR{D:Ends}{f:Flow}{s':Shared}(h:SP (X.kM E) pins D f s'):SP X pins D f s':=by
 cases f with
 | next=>obtain⟨σ',H',I,q⟩:=h;exact⟨σ',H',I.mR,q⟩
 | brk=>obtain⟨σ',H',I,q⟩:=h;exact⟨σ',H',I.mR,q⟩
 | cont=>obtain⟨σ',H',I,q⟩:=h;exact⟨σ',H',I.mR,q⟩
 | ret u=>obtain⟨v,σ',H',I,r,q⟩:=h;exact⟨v,σ',H',I.mR,r,q⟩
theorem PE.mU{e:Expr}{t:TE}(h:PE X.mU e t):PE X e t:=fun pins s σ H Q I hw =>
 jM (h pins s σ H Q (I.kM _) hw) (fun _ _ ⟨v,H',I',r,q⟩=>⟨v,H',I'.mR,r,q⟩) fun _ _ z=>False.elim z
theorem PT.mU{e:Expr}{t:TT}(h:PT X.mU e t):PT X e t:=fun pins s σ H Q I hw =>
 jM (h pins s σ H Q (I.kM _) hw) (fun _ _ ⟨H',I',q⟩=>⟨H',I'.mR,q⟩) fun _ _ z=>False.elim z
theorem kH.mU{st:List Stmt}{t:TS}(h:kH X.mU st t):kH X st t:=fun pins s σ H D I hw =>
 jM (h pins s σ H D (I.kM _) hw) (fun _ _ q=>q.mR) fun _ _ z=>False.elim z
end
section
variable{X:Cx}{st:Stmt}{rest:List Stmt}{t u:TS}{e:Expr}{te:TE}{pos:Pos}
def Qh:TS:=fun D σ H=>D.nx σ H
def Cq(t u:TS):TS:=fun D σ H=>t { D with nx:=u D } σ H
theorem Yv:kH X [] Qh:=fun _ _ σ H _ I h=>wpAny_execs_nil ⟨σ,H,I,h⟩
theorem Yw(h1:PS X st t)(h2:kH X rest u):kH X (st::rest) (Cq t u):=by
 intro pins s σ H D I h;refine wpAny_execs_cons (aW (h1 pins s σ H { D with nx:=u D } I h) fun f s1 q=>?_);cases f with
 | next =>
  obtain⟨σ',H',I',q⟩:=q;exact h2 pins s1 σ' H' D I' q
 | ret v=>exact q
 | brk=>exact q
 | cont=>exact q
theorem Yu(h1:PS X st t):kH X [st] t:=by
 intro pins s σ H D I h;refine wpAny_execs_cons (aW (h1 pins s σ H D I h) fun f s1 q=>?_);cases f with
 | next=>exact wpAny_execs_nil q
 | ret v=>exact q
 | brk=>exact q
 | cont=>exact q
theorem Inv.quiet{pins:List (Addr×Obj)}{σ:St}{H:Hp}{s:Shared}(I:Inv X pins σ H s):interactive X.env=false:=by simp [interactive,I.ok.kind]
def Qm(te:TE):TS:=fun D σ H=>te σ H fun _ H1=>D.nx σ H1
theorem Ze(he:PE X e te)(hs:swapsWith e none pos.line X.env=pure false:=by rfl):PS X (.Expr e pos) (Qm te):=by
 intro pins s σ H D I h;exact wpAny_Expr_any (aW (he pins s σ H _ I h) fun v s1 ⟨x,H1,I1,r1,q1⟩=>⟨σ,H1,I1,q1⟩) I.quiet hs
def Qd(te:TE):TS:=fun D σ H=>te σ H D.rt
theorem Za(he:PE X e te):PS X (.Return (some e) pos) (Qd te):=by
 intro pins s σ H D I h;exact wpAny_Return_some (aW (he pins s σ H _ I h) fun v s1 ⟨x,H1,I1,r1,q1⟩=>⟨x,σ,H1,I1,r1,q1⟩)
def Ql(c:TT)(t u:TS):TS:=fun D σ H=>c σ H fun b H1=>if b=true then t D σ H1 else u D σ H1
theorem Zc{c:Expr}{a b:List Stmt}{tc:TT}(hc:PT X c tc)(ha:kH X a t)(hb:kH X b u):PS X (.If c a b pos) (Ql tc t u):=by
 intro pins s σ H D I h;refine wpAny_If (aW (hc pins s σ H _ I h) fun d s1 ⟨H1,I1,q1⟩=>?_);cases d with
 | true=>exact ha pins s1 σ H1 D I1 q1
 | false=>exact hb pins s1 σ H1 D I1 q1
def Qi:TS:=fun _ _ _=>False
theorem Zb:PS X st Qi:=fun _ _ _ _ _ _ h=>h.elim
end
abbrev TG:=V→St→Hp→(St→Hp→Prop)→Prop
abbrev tY:=List V→St→Hp→(St→Hp→Prop)→Prop
def PG(X:Cx)(target:Expr)(t:TG):Prop :=
 ∀(pins:List (Addr×Obj)) (s:Shared) (σ:St) (H:Hp) (v:V) (u:Value) (Q:St→Hp→Prop),Inv X pins σ H s→RelV v u→t v σ H Q →
  wpAny (model X.prog X.w) X.A (assign target X.env u) (fun _ s'=>∃σ' H',Inv X pins σ' H' s'∧Q σ' H') X.xe s
def EU(X:Cx)(ts:List Expr)(t:tY):Prop :=
 ∀(pins:List (Addr×Obj)) (s:Shared) (σ:St) (H:Hp) (vs:List V) (us:List Value) (Q:St→Hp→Prop),Inv X pins σ H s→Vals vs us→t vs σ H Q →
  wpAny (model X.prog X.w) X.A (assignInOrder ((assignEach ts X.env).map (·.2)) us) (fun _ s'=>∃σ' H',Inv X pins σ' H' s'∧Q σ' H') X.xe s
section
variable{X:Cx}{pos:Pos}
def WK(i:Nat):TG:=fun v σ H Q=>Q (σ.set i (some v)) H
theorem Fc{i:Nat}{x:Str}(hN:X.N.Nodup)(hi:X.N[i]? = some x)(hx:Loc X.env.scope x)(hf:X.fn x=true∨X.env.scope.names.lookup x=some .local:=by first | exact .inl rfl | exact .inr rfl | assumption):PG X (.Name x pos) (WK i):=by
 intro pins s σ H v u Q I r h;exact wpAny_assign_Name (De I hN hi hx r (fun s' I'=>⟨_,H,I',h⟩) hf)
def agW:tY:=fun vs σ H Q=>vs=[]∧Q σ H
def agY(t:TG)(u:tY):tY:=fun vs σ H Q=>∃v r,vs=v::r∧t v σ H fun σ' H'=>u r σ' H' Q
theorem Zn:EU X [] agW:=by
 intro pins s σ H vs us Q I r h;obtain⟨e,h⟩:=h;subst e;cases r;exact assignInOrder_nil ⟨σ,H,I,h⟩
theorem Zo{e:Expr}{es:List Expr}{t:TG}{u:tY}(h1:PG X e t)(h2:EU X es u)
  (hs:(assignEach (e::es) X.env).map (·.2)=assign e X.env::(assignEach es X.env).map (·.2):=by rfl):EU X (e::es) (agY t u):=by
 intro pins s σ H vs us Q I r h;obtain⟨v,vr,e1,h⟩:=h;subst e1;cases r with
 | cons r rr =>
  rw [hs];refine assignInOrder_cons (aW (h1 pins s σ H _ _ _ I r h) fun _ s1 ⟨σ1,H1,I1,q1⟩=>?_);exact h2 pins s1 σ1 H1 _ _ Q I1 rr q1
def agV(K:Frag)(n:Nat)(t:tY):TG:=fun v σ H Q=>∃a xs,v = .ref a∧eZ K H a xs∧xs.length=n∧t xs σ H Q
theorem Zp{es:List Expr}{k:Nat}{t:tY}{n:Nat}(hc:X.calm=true)(h:EU X es t)
  (hn:(assignEach es X.env).length=n:=by rfl) (gF:(assignEach es X.env).findIdx? (·.1)=none:=by rfl):PG X (.Tuple es k pos) (agV X.K n t):=by
 intro pins s σ H v u Q I r hw;obtain⟨a,xs,e1,hq,hl,hw⟩:=hw;subst e1;cases r;obtain⟨aN,rv,ht,hz⟩:=I.tuple hq;refine assign_Tuple_tuple (I.ok.hd hc) ht (by simp [hn,← hl,rv.length]) gF fun h' hx=>?_;have I1:Inv X pins σ H { s with heap:=h' }:=I.kept (t':=s.toks) fun b o e=>hx b o (cK (bO e)) e;exact h pins _ σ H xs _ Q I1 (by simpa using rv) hw
def OH(te:TE)(g:TG):TS:=fun D σ H=>te σ H fun x H1=>g x σ H1 D.nx
theorem Yz{i:Nat}{x:Str}{e:Expr}{te:TE}{pos':Pos}(hN:X.N.Nodup)(hi:X.N[i]? = some x)(hx:Loc X.env.scope x)(he:PE X e te)(hs:swapsWith e (some (.Name x pos')) pos.line X.env=pure false:=by rfl)(hf:X.fn x=true∨X.env.scope.names.lookup x=some .local:=by first | exact .inl rfl | exact .inr rfl | assumption) :
  PS X (.Assign [.Name x pos'] e pos) (OH te (WK i)):=by
 intro pins s σ H D I h;refine wpAny_Assign_Name (aW (he pins s σ H _ I h) fun v s1 ⟨y,H1,I1,r1,q1⟩=>?_) hs;exact De I1 hN hi hx r1 (fun s2 I2=>⟨_,H1,I2,q1⟩) hf
end
structure It where
 go:Nat→Hp→Prop
 qP:Nat→Hp→V→Hp→Prop
 stop:Nat→Hp→Prop
def nI(X:Cx)(pins:List (Addr×Obj))(H:Hp)(b:Addr):Prop :=
 H b=none∧b≠X.env.locals∧b∉X.fs∧(b∈X.ex∨X.s₀.heap.objs.size≤b)∧(∀x c,X.env.cells.lookup x=some c→c≠b)∧∀p∈X.pn++pins,p.1≠b
theorem Inv.wH{X:Cx}{pins:List (Addr×Obj)}{σ:St}{H H':Hp}{s:Shared}{b:Addr}(I:Inv X pins σ H s)(hb:s.heap.objs.size≤b)(hn:H' b=none):nI X pins H' b:=by
 refine⟨hn,zW (jJ I.lt hb),I.abY hb,.inr (qJ I.sz hb),fun x c e z=>?_,fun p hp z=>?_⟩
 ·obtain⟨v,q⟩:=I.cell x c e;exact absurd (jJ q.lt (by rw [z];exact hb)) (Nat.lt_irrefl _)
 ·exact absurd (jJ (bO (I.pin p hp).1) (by rw [z];exact hb)) (Nat.lt_irrefl _)
structure Turn(P:Program)(w:World)(K:Frag)(tg:Expr)(J:It)(fp:List Addr)(it:Addr)(tn:Nat→Heap→Prop):Prop where
 mem:it∈fp
 obj:∀i h,tn i h→∀b∈fp,∃o,h.get? b=some o∧∀v,o.data ≠ .cell v
 keep:∀i h h',tn i h→(∀b∈fp,∀o,h.get? b=some o→h'.get? b=some o)→tn i h'
 item:∀(X:Cx),X.prog=P→X.w=w→X.K=K→X.calm=true→∀(i:Nat) (pins:List (Addr×Obj)) (s:Shared) (σ:St) (H:Hp) (E:Value→Shared→Prop),Inv X pins σ H s→(∀b∈fp,nI X pins H b)→tn i s.heap→J.go i H →
  wpAny (model P w) X.A (pyNext (.ref it)) (fun r s1=>∃u,r=some u ∧
   wpAny (model P w) X.A (letOwnedTupleGo tg (.ref it) u) (fun _ s2=>∃x H',Inv X pins σ H' s2∧RelV x u∧J.qP i H x H'∧tn (i+1) s2.heap∧∀b∈fp,H' b=none) E s1) E s
 done:∀(X:Cx),X.prog=P→X.w=w→X.K=K→X.calm=true→∀(i:Nat) (pins:List (Addr×Obj)) (s:Shared) (σ:St) (H:Hp) (E:Value→Shared→Prop),Inv X pins σ H s→(∀b∈fp,nI X pins H b)→tn i s.heap→J.stop i H →
  wpAny (model P w) X.A (pyNext (.ref it)) (fun r s1=>r=none∧Inv X pins σ H s1) E s
 self:∀(A:Around) (i:Nat) (s:Shared) (Q:Value→Shared→Prop) (E:Value→Shared→Prop),tn i s.heap→Q (.ref it) s→wpAny (model P w) A (pyIter (.ref it)) Q E s
abbrev TI:=St→Hp→(It→Hp→Prop)→Prop
def Mf(X:Cx)(pins:List (Addr×Obj))(σ:St)(tg:Expr)(R:It→Hp→Prop)(IS:Value)(s2:Shared):Prop :=
 ∃(it:Addr) (fp:List Addr) (tn:Nat→Heap→Prop) (J:It) (H':Hp),IS = .ref it∧Inv X pins σ H' s2∧Turn X.prog X.w X.K tg J fp it tn∧tn 0 s2.heap∧(∀b∈fp,nI X pins H' b)∧R J H'
def PI(X:Cx)(tg iter:Expr)(wi:TI):Prop :=
 ∀(pins:List (Addr×Obj)) (s:Shared) (σ:St) (H:Hp) (R:It→Hp→Prop),Inv X pins σ H s→wi σ H R →
  wpAny (model X.prog X.w) X.A (eval iter X.env) (fun v s1=>wpAny (model X.prog X.w) X.A (pyIter v) (Mf X pins σ tg R) X.xe s1) X.xe s
theorem WG{M:Model}{A:Around}{E:Value→Shared→Prop}{s:Shared}{tg:Expr}{it:Addr}{u:Value}{o:Obj}{n:String}{vs:Array Value}{Q:Unit→Shared→Prop}(ho:s.heap.get? it=some o)(hc:o.cls = .type n)(hd:o.data = .fields vs)
  (hn:["enumerate", "zip", "dict_itemiterator", "dict_reverseitemiterator", "odict_iterator", "itertools.zip_longest", "itertools.pairwise"].contains n=false) (hQ:Q () s):wpAny M A (letOwnedTupleGo tg (.ref it) u) Q E s:=by
 unfold letOwnedTupleGo;cases tg <;> first
  | exact aS hQ
  | (cases u <;> first
    | exact aS hQ
    | (refine aF (wpAny_load ho ?_)
       rw [hc,hd];show wpAny M A (if(["enumerate", "zip", "dict_itemiterator", "dict_reverseitemiterator", "odict_iterator", "itertools.zip_longest", "itertools.pairwise"].contains n&&vs[0]? == some (rawInt _))=true then _ else _) Q E s;rw [if_neg (by intro h;rw [hn,Bool.false_and]at h;cases h)];exact aS hQ))
def Ak(K:Frag)(a:Addr):It :=
 ⟨fun i H=>∃xs x,eE K H a xs∧xs[i]? = some x,fun i H x H'=>H'=H∧∀xs,eE K H a xs→xs[i]? = some x,fun i H=>∃xs,eE K H a xs∧xs.length≤i⟩
def Aj(K:Frag)(a:Addr):It :=
 ⟨fun i H=>∃xs x,eZ K H a xs∧xs[i]? = some x,fun i H x H'=>H'=H∧∀xs,eZ K H a xs→xs[i]? = some x,fun i H=>∃xs,eZ K H a xs∧xs.length≤i⟩
def MF(lo:Int)(n:Nat):It:=⟨fun i _=>i<n,fun i H x H'=>H'=H∧x = .int (lo+i),fun i _=>n≤i⟩
theorem Pf{P:Program}{w:World}{K:Frag}{tg:Expr}(a it:Addr):Turn P w K tg (Ak K a) [it] it (fun i h=>h.IsListIter it a i)where
 mem:=by simp
 obj:=fun i h st b hb=>by
  have e:b=it:=by simpa using hb
  subst e;obtain⟨o,e,c,d⟩:=st;exact⟨o,e,fun v z=>by rw [d]at z;cases z⟩
 keep:=fun i h h' st k=>st.at fun o e=>k it (by simp) o e
 item:=by
  intro X hP hw hK hc i pins s σ H E I hf st hg;subst hP hw hK;obtain⟨xs,x,hq,hx⟩:=hg;obtain⟨aN,rv,p,hz⟩:=I.list hq;obtain⟨u,hu,ru⟩:=rv.get hx;obtain⟨f0,f1,f2,f3,f4,f5⟩:=hf it (by simp);refine wpAny_pyNext_list_item st p.isList (x:=u) (by simpa using hu) fun h' mS sb=>?_;have I1:Inv X pins σ H { s with heap:=h' }:=I.turned (t':=s.toks) (fun b o hb e=>(sb.2 b hb).trans e) f0 f1 f3 f4 f5;obtain⟨o,e,c,d⟩:=id mS;exact⟨u,rfl,WG (s:={ s with heap:=h' }) e c d (by decide) ⟨x,H,I1,ru,⟨rfl,fun ys hy=>by rw [I.acW hy hq];exact hx⟩,mS,fun b hb=>(hf b hb).1⟩⟩
 done:=by
  intro X hP hw hK hc i pins s σ H E I hf st hg;subst hP hw hK;obtain⟨xs,hq,hx⟩:=hg;obtain⟨aN,rv,p,hz⟩:=I.list hq;obtain⟨f0,f1,f2,f3,f4,f5⟩:=hf it (by simp);have hl:=rv.length;exact wpAny_pyNext_list_end (I.ok.hd hc) st p.isList (by simp;omega) fun h' eb=>⟨rfl,I.turned (t':=s.toks) (fun b o hb e=>eb b o hb e) f0 f1 f3 f4 f5⟩
 self:=fun _ _ _ _ _ st h=>wpAny_pyIter_listiter st h
theorem Pd{P:Program}{w:World}{K:Frag}{tg:Expr}(a it:Addr):Turn P w K tg (Aj K a) [it] it (fun i h=>h.IsTupleIter it a i)where
 mem:=by simp
 obj:=fun i h st b hb=>by
  have e:b=it:=by simpa using hb
  subst e;obtain⟨o,e,c,d⟩:=st;exact⟨o,e,fun v z=>by rw [d]at z;cases z⟩
 keep:=fun i h h' st k=>st.at fun o e=>k it (by simp) o e
 item:=by
  intro X hP hw hK hc i pins s σ H E I hf st hg;subst hP hw hK;obtain⟨xs,x,hq,hx⟩:=hg;obtain⟨aN,rv,p,hz⟩:=I.tuple hq;obtain⟨u,hu,ru⟩:=rv.get hx;obtain⟨f0,f1,f2,f3,f4,f5⟩:=hf it (by simp);refine wpAny_pyNext_tuple_item st (show s.heap.IsTuple a aN.toArray from p) (x:=u) (by simpa using hu) fun h' mS sb=>?_;have I1:Inv X pins σ H { s with heap:=h' }:=I.turned (t':=s.toks) (fun b o hb e=>(sb.2 b hb).trans e) f0 f1 f3 f4 f5;obtain⟨o,e,c,d⟩:=id mS;exact⟨u,rfl,WG (s:={ s with heap:=h' }) e c d (by decide) ⟨x,H,I1,ru,⟨rfl,fun ys hy=>by rw [I.Pj hy hq];exact hx⟩,mS,fun b hb=>(hf b hb).1⟩⟩
 done:=by
  intro X hP hw hK hc i pins s σ H E I hf st hg;subst hP hw hK;obtain⟨xs,hq,hx⟩:=hg;obtain⟨aN,rv,p,hz⟩:=I.tuple hq;obtain⟨f0,f1,f2,f3,f4,f5⟩:=hf it (by simp);have hl:=rv.length;exact wpAny_pyNext_tuple_end (I.ok.hd hc) st (show s.heap.IsTuple a aN.toArray from p) (by simp;omega) fun h' eb=>⟨rfl,I.turned (t':=s.toks) (fun b o hb e=>eb b o hb e) f0 f1 f3 f4 f5⟩
 self:=fun _ _ _ _ _ st h=>wpAny_pyIter_tupleiter st h
theorem Pe{P:Program}{w:World}{K:Frag}{tg:Expr}(it:Addr)(lo:Int)(n:Nat):Turn P w K tg (MF lo n) [it] it (fun i h=>IsRangeIter h it (lo+(i:Nat)*1) ((n:Int) - (i:Nat)) 1)where
 mem:=by simp
 obj:=fun i h st b hb=>by
  have e:b=it:=by simpa using hb
  subst e;exact⟨_,st,fun v z=>by
   have z':Data.fields _=Data.cell v:=z;cases z'⟩
 keep:=fun i h h' st k=>k it (by simp) _ st
 item:=by
  intro X hP hw hK hc i pins s σ H E I hf st hg;subst hP hw hK;obtain⟨f0,f1,f2,f3,f4,f5⟩:=hf it (by simp);have W:=Walks.range (prog:=X.prog) (w:=X.w) (I.ok.hd hc) it lo 1 n;refine W.item i s _ _ hg st fun v h' tk hv mS kk=>?_;obtain⟨t,rfl⟩:=hv;have I1:Inv X pins σ H { s with heap:=h',toks:=tk }:=I.turned (fun b o hb e=>kk b o (by simpa using hb) e) f0 f1 f3 f4 f5;refine⟨_,rfl,WG (s:={ s with heap:=h',toks:=tk }) (n := "range_iterator") mS rfl rfl (by decide) ⟨.int (lo+i),H,I1,⟨t,?_⟩,⟨rfl,rfl⟩,mS,fun b hb=>(hf b hb).1⟩⟩;rw [Int.mul_one]
 done:=by
  intro X hP hw hK hc i pins s σ H E I hf st hg;subst hP hw hK;obtain⟨f0,f1,f2,f3,f4,f5⟩:=hf it (by simp);exact wpAny_pyNext_range_end (I.ok.hd hc) st (by have:n≤i:=hg;omega) fun h' eb=>⟨rfl,I.turned (t':=s.toks) (fun b o hb e=>eb b o hb e) f0 f1 f3 f4 f5⟩
 self:=fun _ _ _ _ _ st h=>wpAny_pyIter_rangeiter st h
section
variable{X:Cx}{tg:Expr}
theorem Xn{pins:List (Addr×Obj)}{σ:St}{H:Hp}{s:Shared}{R:It→Hp→Prop}{E:Value→Shared→Prop}{lo hi:Int}{t u v:Tok}{tk:Nat}(I:Inv X pins σ H s)(h1 : -(2 ^ 62)≤lo)(h2:lo<2 ^ 62)(h3 : -(2 ^ 62)≤hi)(h4:hi<2 ^ 62)
  (q:R (MF lo (hi - lo).toNat) H):wpAny (model X.prog X.w) X.A (pyIter (.ref s.heap.objs.size)) (Mf X pins σ tg R) E { s with heap:=s.heap.push { cls := .type "range",data := .fields #[.int lo t,.int hi u,.int 1 v] },toks:=tk }:=by
 refine wpAny_pyIter_range (IsRange.new ..) (small_one h1 h2 h3 h4) ?_;have I1:Inv X pins σ H { s with heap:=s.heap.push { cls := .type "range",data := .fields #[.int lo t,.int hi u,.int 1 v] },toks:=tk }:=I.kept fun b o e=>bP _ e;refine⟨(s.heap.push { cls := .type "range",data := .fields #[.int lo t,.int hi u,.int 1 v] }).objs.size,[(s.heap.push { cls := .type "range",data := .fields #[.int lo t,.int hi u,.int 1 v] }).objs.size],_,_,H,rfl,
  I1.kept (t':=tk) fun b o e=>bP _ e,Pe _ lo (hi - lo).toNat,?_,fun b hb=>?_,q⟩
 ·have e1:lo+((0:Nat):Int)*1=lo:=by simp
  have e2:(((hi - lo).toNat:Nat):Int) - ((0:Nat):Int)=Builtin.Range.rangeSize lo hi 1:=by rw [rangeSize_one];split <;> omega
  show IsRangeIter _ _ (lo+((0:Nat):Int)*1) ((((hi - lo).toNat:Nat):Int) - ((0:Nat):Int)) 1;rw [e1,e2];exact dY _ rfl
 ·have e:b=(s.heap.push { cls := .type "range",data := .fields #[.int lo t,.int hi u,.int 1 v] }).objs.size:=by simpa using hb
  subst e;exact I1.wH bG (I1.aH.fresh bG)
def aeB(ta:TA):TI:=fun σ H R=>ta σ H fun vs H1=>∃i j:Int,vs=[.int i,.int j]∧(-(2 ^ 62)≤i∧i<2 ^ 62∧-(2 ^ 62)≤j∧j<2 ^ 62)∧R (MF i (j - i).toNat) H1
theorem Zl{a b:Expr}{ta:TA}{p pos:Pos}(hg:Gl X "range")(hm:X.mg "range" = none)(ha:PA X [a,b] ta)(hs:starEach [a,b] X.env=[(false,eval a X.env),(false,eval b X.env)]:=by rfl)(iP:starEach [b] X.env=[(false,eval b X.env)]:=by rfl) :
  PI X tg (.Call (.Name "range" p) [a,b] [] pos) (aeB ta):=by
 intro pins s σ H R I h;refine Call_ (rF I hg hm boot_range (LU (aW (ha pos pins s σ H _ I h) fun us s1 ⟨vs,H1,I1,r1,q1⟩=>?_) (by rw [hs,iP]) (by rw [iP];rfl)));obtain⟨i,j,e,⟨q1,q2,q3,q4⟩,q⟩:=q1;subst e;cases r1 with
 | cons r rr =>
  cases rr with
  | cons r' rr =>
   cases rr;obtain⟨t,rfl⟩:=r;obtain⟨t',rfl⟩:=r';exact call_range_2 (Xn I1 q1 q2 q3 q4 q)
def OE(wi:TI)(g:TG)(tb:TS):TS:=fun D σ H=>wi σ H fun J H1=>∃W:Nat→Nat→St→Hp→Prop,(∃m,W 0 m σ H1)∧∀i m σ H,W i m σ H →
 (J.stop i H∧D.nx σ H)∨(J.go i H∧∃N:St→Hp→Prop,(∀σ' H',N σ' H'→∃m',m'<m∧W (i+1) m' σ' H')∧∀x H',J.qP i H x H'→g x σ H' fun σ2 H2=>tb { D with nx:=N,ct:=N,bk:=D.nx } σ2 H2)
def yG(fp:List Addr)(h:Heap):List (Addr×Obj):=fp.filterMap fun b=>(h.get? b).map fun o=>(b,o)
theorem vB{fp:List Addr}{h:Heap}{b:Addr}{o:Obj}(hb:b∈fp)(e:h.get? b=some o):(b,o)∈yG fp h:=List.mem_filterMap.mpr ⟨b,hb,by rw [e];rfl⟩
theorem abK{fp:List Addr}{h:Heap}{p:Addr×Obj}(hp:p∈yG fp h):p.1∈fp∧h.get? p.1=some p.2:=by
 obtain⟨b,hb,e⟩:=List.mem_filterMap.mp hp;cases q:h.get? b with
 | none=>rw [q]at e;cases e
 | some o =>
  rw [q]at e;have e':(b,o)=p:=lR e;subst e';exact⟨hb,q⟩
theorem Inv.pinned{pins:List (Addr×Obj)}{σ:St}{H:Hp}{s:Shared}{fp:List Addr}(I:Inv X pins σ H s)(hf:∀b∈fp,nI X pins H b)(ho:∀b∈fp,∃o,s.heap.get? b=some o∧∀v,o.data ≠ .cell v):Inv X (pins++yG fp s.heap) σ H s :=
 I.QP fun p hp=>(LZ.mp hp).elim (fun z=>I.pin p (lW _ z)) fun z=>by
  obtain⟨hb,e⟩:=abK z;obtain⟨f0,f1,f2,_⟩:=hf p.1 hb;obtain⟨o,e',d⟩:=ho p.1 hb;rw [e]at e';cases e';exact⟨e,f0,f1,f2,d⟩
theorem Inv.xR{pins pl:List (Addr×Obj)}{σ:St}{H:Hp}{s:Shared}(I:Inv X (pins++pl) σ H s):Inv X pins σ H s:=I.QP fun p hp=>I.pin p (lW _ (uE _ hp))
theorem Ew{iter:Expr}{body:List Stmt}{wi:TI}{g:TG}{tb:TS}{pos:Pos}(hp:PassesOwn (model X.prog X.w) X.A X.env X.xe)(hc:X.calm=true)(hi:PI X tg iter wi)(hg:PG X tg g)(hb:kH X body tb)
  (hs:∀x,foldedSetIterable iter X.env x=pure x:=by intro _;rfl):PS X (.For tg iter body [] pos) (OE wi g tb):=by
 intro pins s σ H D I h;refine wpAny_For (aW (hi pins s σ H _ I h) fun v s1 h1=>aW h1 fun IS s2 h2=>?_) hs;obtain⟨it,fp,tn,J,H2,e,I2,T,uQ,f2,W,⟨m0,w0⟩,turn⟩:=h2;subst e;have OK:∀{H':Hp},(∀b∈fp,H' b=none)→∀b∈fp,nI X pins H' b:=fun hn b hb=>⟨hn b hb,(f2 b hb).2⟩
 refine codeAny_forLoop_any (fun n s'=>∃i σ' H',Inv X pins σ' H' s'∧tn i s'.heap∧(∀b∈fp,H' b=none)∧W i n σ' H') ?_ m0 ⟨0,σ,H2,I2,uQ,fun b hb=>(f2 b hb).1,w0⟩;rintro n s3 ⟨i,σ3,H3,I3,Dg,Jb,w3⟩
 rcases turn i n σ3 H3 w3 with⟨stop,qn⟩ | ⟨go,N,hN,step⟩
 ·refine FZ hp (aW (T.done X rfl rfl rfl hc i pins s3 σ3 H3 X.xe I3 (OK Jb) Dg stop) fun r s4 ⟨hr,I4⟩=>?_);subst hr;exact wpAny_execs_nil ⟨σ3,H3,I4,qn⟩
 ·refine FZ hp (aW (T.item X rfl rfl rfl hc i pins s3 σ3 H3 X.xe I3 (OK Jb) Dg go) fun r s4 ⟨u,hr,h4⟩=>?_);subst hr;refine FZ hp (aW h4 fun _ s5 ⟨x,H5,I5,r5,y5,qX,wF⟩=>?_);have I5':=I5.pinned (OK wF) (T.obj _ _ qX);refine FZ hp (aW (hg _ s5 σ3 H5 x u _ I5' r5 (step x H5 y5)) fun _ s6 ⟨σ6,H6,I6,q6⟩=>?_);refine FZ hp (aW (hb _ s6 σ6 H6 _ I6 q6) fun f s7 q7=>?_);have again:∀{σ7:St} {H7:Hp},Inv X (pins++yG fp s5.heap) σ7 H7 s7→N σ7 H7→∃m,m<n∧∃i σ' H',Inv X pins σ' H' s7∧tn i s7.heap∧(∀b∈fp,H' b=none)∧W i m σ' H':=fun{σ7 H7} I7 n7=>by
   obtain⟨m',hm,w7⟩:=hN σ7 H7 n7;refine⟨m',hm,i+1,σ7,H7,I7.xR,T.keep _ _ _ qX fun b hb o e=>(I7.pin (b,o) (lW _ (lW _ (vB hb e)))).1,fun b hb=>?_,w7⟩;obtain⟨o,e,d⟩:=T.obj _ _ qX b hb;exact(I7.pin (b,o) (lW _ (lW _ (vB hb e)))).2.1
  cases f with
  | next=>obtain⟨σ7,H7,I7,n7⟩:=q7;exact again I7 n7
  | cont=>obtain⟨σ7,H7,I7,n7⟩:=q7;exact again I7 n7
  | brk=>obtain⟨σ7,H7,I7,q7⟩:=q7;exact⟨σ7,H7,I7.xR,q7⟩
  | ret v=>obtain⟨x7,σ7,H7,I7,r7,q7⟩:=q7;exact⟨x7,σ7,H7,I7.xR,r7,q7⟩
end
abbrev R2:=V→V→Hp→VK→Prop
def fB(X:Cx)(f:Value→Value→Sem Value)(r:R2):Prop :=
 ∀(pins:List (Addr×Obj)) (s:Shared) (σ:St) (H:Hp) (x y:V) (v u:Value) (Q:VK),Inv X pins σ H s→RelV x v→RelV y u→r x y H Q →
  wpAny (model X.prog X.w) X.A (f v u) (EP X pins σ Q) X.xe s
def iN(X:Cx)(f:Value)(r:List V→Hp→VK→Prop):Prop :=
 ∀(pins:List (Addr×Obj)) (s:Shared) (σ:St) (H:Hp) (xs:List V) (us:List Value) (Q:VK),Inv X pins σ H s→Vals xs us→r xs H Q →
  wpAny (model X.prog X.w) X.A (call f us) (EP X pins σ Q) X.xe s
def BH(r:R2)(ta tb:TE):TE:=fun σ H Q=>ta σ H fun x H1=>tb σ H1 fun y H2=>r x y H2 Q
def rI(C:Int→Int→Prop)(g:Int→Int→V):R2:=fun x y H Q=>∃i j,x = .int i∧y = .int j∧C i j∧Q (g i j) H
def rB(g:Int→Int→V):R2:=fun x y H Q=>∃i j,x = .int i∧y = .int j∧Q (g i j) H
section
variable{X:Cx}{a b c:Expr}{ta tb tc:TE}{pos:Pos}
theorem YA(ha:PE X a ta)(hb:PE X b tb){pins:List (Addr×Obj)}{s:Shared}{σ:St}{H:Hp}{R:V→V→Hp→Prop}(I:Inv X pins σ H s)
  (h:ta σ H fun x H1=>tb σ H1 fun y H2=>R x y H2) {Q:Value→Shared→Prop} {f:Value→Value→Sem Value}
  (hf:∀v u s2 x y H2,Inv X pins σ H2 s2→RelV x v→RelV y u→R x y H2→wpAny (model X.prog X.w) X.A (f v u) Q X.xe s2) :
  wpAny (model X.prog X.w) X.A (eval a X.env) (fun v s₁=>wpAny (model X.prog X.w) X.A (eval b X.env) (fun u s₂=>wpAny (model X.prog X.w) X.A (f v u) Q X.xe s₂) X.xe s₁) X.xe s:=by
 refine aW (ha pins s σ H _ I h) fun v s1 ⟨x,H1,I1,r1,q1⟩=>?_;refine aW (hb pins s1 σ H1 _ I1 q1) fun u s2 ⟨y,H2,I2,r2,q2⟩=>?_;exact hf v u s2 x y H2 I2 r1 r2 q2
theorem Zu{op:Operator}{r:R2}(ho:fB X (binaryOp op) r)(ha:PE X a ta)(hb:PE X b tb):PE X (.BinOp a op b pos) (BH r ta tb):=by
 intro pins s σ H Q I h;exact wpAny_BinOp (YA ha hb I h fun v u s2 x y H2 I2 rx ry q=>ho pins s2 σ H2 x y v u Q I2 rx ry q)
theorem HX{f:Value→Value→Sem Value}{C:Int→Int→Prop}{g:Int→Int→Int}
  (rule:∀(i j:Int) (t u:Tok) (s:Shared) (Q:Value→Shared→Prop) (E:Value→Shared→Prop),C i j→Q (.int (g i j) s.toks) { s with toks:=s.toks+1 }→wpAny (model X.prog X.w) X.A (f (.int i t) (.int j u)) Q E s) :
  fB X f (rI C fun i j => .int (g i j)):=by
 intro pins s σ H x y v u Q I rx ry h;obtain⟨i,j,rfl,rfl,hc,q⟩:=h;obtain⟨t,rfl⟩:=rx;obtain⟨t',rfl⟩:=ry;exact rule i j t t' s _ _ hc ⟨.int (g i j),H,I.tok _,⟨_,rfl⟩,q⟩
theorem Fj{f:Value→Value→Sem Value}{g:Int→Int→Int}
  (rule:∀(i j:Int) (t u:Tok) (s:Shared) (Q:Value→Shared→Prop) (E:Value→Shared→Prop),Q (.int (g i j) s.toks) { s with toks:=s.toks+1 }→wpAny (model X.prog X.w) X.A (f (.int i t) (.int j u)) Q E s) :
  fB X f (rB fun i j => .int (g i j)):=by
 intro pins s σ H x y v u Q I rx ry h;obtain⟨i,j,rfl,rfl,q⟩:=h;obtain⟨t,rfl⟩:=rx;obtain⟨t',rfl⟩:=ry;exact rule i j t t' s _ _ ⟨.int (g i j),H,I.tok _,⟨_,rfl⟩,q⟩
theorem HY{f:Value→Value→Sem Value}{g:Int→Int→Bool}
  (rule:∀(i j:Int) (t u:Tok) (s:Shared) (Q:Value→Shared→Prop) (E:Value→Shared→Prop),Q (.bool (g i j)) s→wpAny (model X.prog X.w) X.A (f (.int i t) (.int j u)) Q E s) :
  fB X f (rB fun i j => .bl (g i j)):=by
 intro pins s σ H x y v u Q I rx ry h;obtain⟨i,j,rfl,rfl,q⟩:=h;obtain⟨t,rfl⟩:=rx;obtain⟨t',rfl⟩:=ry;exact rule i j t t' s _ _ ⟨.bl (g i j),H,I,rfl,q⟩
def oG(i j:Int):Prop:=0<j∧j<1073741824
def FX(i j:Int):Prop:=0≤j∧j≤1000000∧i.natAbs<2 ^ 64
def kK(i j:Int):Prop:=(-(2 ^ 64)<i∧i<2 ^ 64)∨(-(2 ^ 64)<j∧j<2 ^ 64)
theorem kK.ok{i j:Int}(h:kK i j):IntMulOk i j:=by
 rcases h with⟨h1,h2⟩ | ⟨h1,h2⟩
 ·exact .of_left (intBits_le_64 h1 h2)
 ·exact .of_right (intBits_le_64 h1 h2)
theorem abI:fB X (binaryOp .Add) (rB fun i j => .int (i+j)):=Fj fun _ _ _ _ _ _ _ q=>add_int q
theorem aa3:fB X (binaryOp .Sub) (rB fun i j => .int (i - j)):=Fj fun _ _ _ _ _ _ _ q=>sub_int q
theorem aa7:fB X (binaryOp .Mult) (rI kK fun i j => .int (i*j)):=HX fun _ _ _ _ _ _ _ hc q=>mul_int q hc.ok
theorem abE:fB X (binaryOp .FloorDiv) (rI oG fun i j => .int (i/j)):=HX fun i j _ _ _ _ _ hc q=>by
 have h1:(0:Int)<j:=hc.1;have h2:j<1073741824:=hc.2;exact floordiv_int (by omega) (by rw [Int.fdiv_eq_ediv_of_nonneg i (by omega)];exact q) (.inl (PyProof.noPylong_small (by omega)))
theorem aa8:fB X (binaryOp .Mod) (rI (fun _ j=>0<j) fun i j => .int (i%j)):=HX fun i j _ _ _ _ _ hc q=>by
 have h1:(0:Int)<j:=hc;exact mod_int' (by omega) (by rw [Int.fmod_eq_emod_of_nonneg i (by omega)];exact q)
theorem aa4:fB X (binaryOp .Pow) (rI FX fun i j => .int (i ^ j.toNat)):=HX fun _ _ _ _ _ _ _ hc q=>pow_int_small hc.1 hc.2.1 hc.2.2 q
theorem ag4{pins:List (Addr×Obj)}{σ:St}{H:Hp}{s:Shared}{Q:VK}{k k':Bool}(I:Inv X pins σ H s)(q:Q (.bl k) H)(e:k=k'):EP X pins σ Q (.bool k') s:=by
 subst e;exact⟨.bl k,H,I,rfl,q⟩
theorem aa9:fB X (compareOp .Lt) (rB fun i j => .bl (decide (i<j))):=HY fun _ _ _ _ _ _ _ q=>lt_int q
theorem abA:fB X (compareOp .LtE) (rB fun i j => .bl (decide (i≤j))):=HY fun _ _ _ _ _ _ _ q=>le_int q
theorem abC:fB X (compareOp .Gt) (rB fun i j => .bl (decide (j<i))):=HY fun _ _ _ _ _ _ _ q=>gt_int q
theorem abD:fB X (compareOp .GtE) (rB fun i j => .bl (decide (j≤i))):=HY fun _ _ _ _ _ _ _ q=>ge_int q
theorem abB:fB X (compareOp .Is) (fun x y H Q=>y = .aZ∧Q (.bl (decide (x = .aZ))) H):=by
 intro pins s σ H x y v u Q I rx ry h;obtain⟨rfl,q⟩:=h;cases ry;refine is_none_gen (ag4 I q ?_);cases x <;> first
  | (cases rx;rfl)
  | (obtain⟨t,rfl⟩:=rx;rfl)
theorem fB.or{f:Value→Value→Sem Value}{r r':R2}(h:fB X f r)(h':fB X f r'):fB X f (fun x y H Q=>r x y H Q∨r' x y H Q):=by
 intro pins s σ H x y v u Q I rx ry q
 rcases q with q | q
 ·exact h pins s σ H x y v u Q I rx ry q
 ·exact h' pins s σ H x y v u Q I rx ry q
theorem dS(b:Expr){op:CmpOp}(h:op ≠ .In:=by decide)(h2:op ≠ .NotIn:=by decide):behindInMarks op b=false:=by
 have e1:(op == CmpOp.In)=false:=by cases op <;> first | rfl | exact absurd rfl h
 have e2:(op == CmpOp.NotIn)=false:=by cases op <;> first | rfl | exact absurd rfl h2
 cases b <;> simp [behindInMarks,e1,e2]
theorem aaO{op:CmpOp}{r:R2}(ho:fB X (compareOp op) r)(ha:PE X a ta)(hb:PE X b tb)(hm:behindInMarks op b=false):PE X (.Compare a [op] [b] pos) (BH r ta tb):=by
 intro pins s σ H Q I h;exact wpAny_Compare1 (YA ha hb I h fun v u s2 x y H2 I2 rx ry q=>ho pins s2 σ H2 x y v u Q I2 rx ry q) hm
def Cp(t:TE):TT:=fun σ H Q=>t σ H fun x H'=>∃k,x = .bl k∧Q k H'
theorem Ys{op:CmpOp}{r:R2}(ho:fB X (compareOp op) r)(ha:PE X a ta)(hb:PE X b tb)(hm:behindInMarks op b=false):PT X (.Compare a [op] [b] pos) (Cp (BH r ta tb)):=by
 intro pins s σ H Q I h;refine wpAny_isTrue_Compare1 (aW (ha pins s σ H _ I h) fun v s1 ⟨x,H1,I1,r1,q1⟩=>aW (hb pins s1 σ H1 _ I1 q1) fun u s2 ⟨y,H2,I2,r2,q2⟩ =>
  aW (ho pins s2 σ H2 x y v u _ I2 r1 r2 q2) fun c s3 ⟨z,H3,I3,r3,k,e,q3⟩=>?_) hm
 subst e;cases r3;exact AN ⟨H3,I3,q3⟩
def Cu(r r':R2)(ta tb tc:TE):TE:=fun σ H Q=>ta σ H fun x H1=>tb σ H1 fun y H2=>r x y H2 fun z H3=>∃k,z = .bl k ∧
 (if k=true then tc σ H3 fun w' H4=>r' y w' H4 Q else Q (.bl false) H3)
theorem aaP{op uY:CmpOp}{r r':R2}(ho:fB X (compareOp op) r)(jU:fB X (compareOp uY) r')(ha:PE X a ta)(hb:PE X b tb)(hc:PE X c tc)
  (hm:lastMarks [op,uY] [b,c]=false:=by with_unfolding_all rfl):PE X (.Compare a [op,uY] [b,c] pos) (Cu r r' ta tb tc):=by
 intro pins s σ H Q I h;refine Compare_chain (aW (ha pins s σ H _ I h) fun v s1 ⟨x,H1,I1,r1,q1⟩=>chain_link (aW (hb pins s1 σ H1 _ I1 q1) fun u s2 ⟨y,H2,I2,r2,q2⟩ =>
  aW (ho pins s2 σ H2 x y v u _ I2 r1 r2 q2) fun d s3 ⟨z,H3,I3,r3,k,e,q3⟩=>?_)) hm
 subst e;cases r3;refine AN ?_;cases k with
 | false=>exact ite_ff ⟨.bl false,H3,I3,rfl,q3⟩
 | true=>exact ite_tt (chain_last (aW (hc pins s3 σ H3 _ I3 q3) fun w' s4 ⟨z',H4,I4,r4,q4⟩=>jU pins s4 σ H4 y z' u w' Q I4 r2 r4 q4))
theorem IJ:(sizeLine:Nat)<2 ^ 63:=by rw [kP];decide
theorem vals1{x:V}{us:List Value}(r:Vals [x] us):∃u,us=[u]∧RelV x u:=by
 cases r with
 | cons r1 r2=>cases r2;exact⟨_,rfl,r1⟩
theorem vals2{x y:V}{us:List Value}(r:Vals [x,y] us):∃u w',us=[u,w']∧RelV x u∧RelV y w':=by
 cases r with
 | cons r1 r2 =>
  cases r2 with
  | cons r3 r4=>cases r4;exact⟨_,_,rfl,r1,r3⟩
theorem ajN(hc:X.calm=true):iN X (.builtin "max") (fun xs H Q=>∃i j,xs=[.int i,.int j]∧Q (.int (if j>i then j else i)) H):=by
 intro pins s σ H xs us Q I r h;obtain⟨i,j,rfl,q⟩:=h;obtain⟨u,w',rfl,⟨t,rfl⟩,⟨t',rfl⟩⟩:=vals2 r;refine max_two_ints (I.ok.hd hc) fun h' tk k=>⟨_,H,I.kept k,?_,q⟩
 by_cases hj:j>i
 ·rw [if_pos hj,if_pos hj];exact⟨_,rfl⟩
 ·rw [if_neg hj,if_neg hj];exact⟨_,rfl⟩
theorem ajM(hc:X.calm=true):iN X (.builtin "min") (fun xs H Q=>∃i j,xs=[.int i,.int j]∧Q (.int (if j<i then j else i)) H):=by
 intro pins s σ H xs us Q I r h;obtain⟨i,j,rfl,q⟩:=h;obtain⟨u,w',rfl,⟨t,rfl⟩,⟨t',rfl⟩⟩:=vals2 r;refine min_two_ints (I.ok.hd hc) fun h' tk k=>⟨_,H,I.kept k,?_,q⟩
 by_cases hj:j<i
 ·rw [if_pos hj,if_pos hj];exact⟨_,rfl⟩
 ·rw [if_neg hj,if_neg hj];exact⟨_,rfl⟩
theorem ajT:iN X (.type "int") (fun xs H Q=>(∃i,xs=[.int i]∧Q (.int i) H)∨∃k,xs=[.bl k]∧Q (.int (if k then 1 else 0)) H):=by
 intro pins s σ H xs us Q I r h
 rcases h with⟨i,rfl,q⟩ | ⟨k,rfl,q⟩
 ·obtain⟨u,rfl,t,rfl⟩:=vals1 r;exact call_int_int ⟨.int i,H,I,⟨_,rfl⟩,q⟩
 ·obtain⟨u,rfl,r1⟩:=vals1 r;cases r1;exact call_int_bool ⟨.int (if k then 1 else 0),H,I.tok _,⟨_,rfl⟩,q⟩
end
structure wX(h:Heap)(x dx C:Addr)(mA:Str→Option Value):Prop where
 obj:h.get? x=some (instObj C dx)
 ns:h.Ns1 dx mA
 ne:dx≠x
theorem acT{h:Heap}{dx:Addr}{mA:Str→Option Value}(n:h.Ns1 dx mA):∃od,h.get? dx=some od∧∀name,lookIn name od=some (mA name):=by
 obtain⟨o,es,ep,ho,hd,hk,_,hm⟩:=n;refine⟨o,ho,fun name=>?_⟩;have e:=hm name;unfold nsFind findBy at e;rw [← Array.find?_toList]at e;unfold lookIn;rw [hd];dsimp only;split
 ·rename_i y q;rw [q]at e;exact congrArg some e
 ·rename_i q;rw [q]at e;have a:es.toList.any (·.refKey)=false:=by
   rw [List.any_eq_false];intro y hy;obtain⟨z,t,JH⟩:=hk y (Array.mem_toList_iff.mp hy);simp [DictEntry.refKey,JH]
  have a':¬es.toList.any (·.refKey)=true:=by rw [a];exact Bool.false_ne_true
  rw [if_neg a'];exact congrArg some e
theorem wX.look{h:Heap}{x dx C:Addr}{mA:Str→Option Value}(I:wX h x dx C mA):∃od,PySem.W.InstAt h x (instObj C dx) C (some od)∧∀name,lookIn name od=some (mA name) :=
 let ⟨od,ho,hl⟩:=acT I.ns
 ⟨od,⟨I.obj,rfl,rfl,ho⟩,hl⟩
section
variable{prog:Program}{w:World}{A:Around}{E:Value→Shared→Prop}{s:Shared}{K:Frag}{x dx C f:Addr}{mA:Str→Option Value}{name:Str}{v:Value}
theorem get_map{expr:Bool}{Q:Value→Shared→Prop}(X:K.In s.heap)(I:wX s.heap x dx C mA)(hg:plainGet K C name=true)(hh:hasDictIn K C=true)
  (ha:findIn K (.ref C) name=some none) (hv:mA name=some v) (CT:PySem.W.handedIn v=true) (h:Q v { s with toks:=s.toks+1 }) :
  wpAny (model prog w) A (getAttr (.ref x) name expr) Q E s:=by
 obtain⟨od,J,hl⟩:=I.look;exact PySem.W.get_value X J (plainGet_of hg).1 (PySem.W.findObj_own hh ha rfl (by rw [hl,hv])) CT h
theorem agU{pl:Sem Bool}{Q:Value×List Value→Shared→Prop}(X:K.In s.heap)(I:wX s.heap x dx C mA)(hg:plainGet K C name=true)
  (hf:findIn K (.ref C) name=some (some (.ref f))) (ht:isFn K (.ref f)=true) (hv:mA name=none) (h:Q (.ref f,[.ref x]) s) :
  wpAny (model prog w) A (getMethod (.ref x) name pl) Q E s:=by
 obtain⟨od,J,hl⟩:=I.look;exact PySem.W.method_fn X J (plainGet_of hg).1 (plainGet_of hg).2 hf (qE.mp ht) (by show(lookIn name od).map (·.isSome)=some false;rw [hl,hv];rfl) h
theorem Wg{ns:List Str}{Q:Unit→Shared→Prop}(X:K.In s.heap)(I:wX s.heap x dx C mA)
  (hs:findIn K (.ref C) "__setattr__" = some (some (.builtin "object.__setattr__"))) (hp:PySem.W.plainOver K C=true) (ht:takerIn K C name=some none) (hh:hasDictIn K C=true)
  (hw:PySem.Within mA ns) (hsz:ns.length≤sizeLine)
  (h:∀h',wX h' x dx C (fun y=>if y=name then some v else mA y)→Heap.SameBut dx s.heap h'→Q () { s with heap:=h',toks:=s.toks+2 }) :
  wpAny (model prog w) A (setAttr (.ref x) name v) Q E s:=by
 obtain⟨od,J,hl⟩:=I.look;refine PySem.W.set_plain X J hs (PySem.W.osa_open (s:={ s with toks:=s.toks+1 }) (r:=none) X J hp ht fun b=>?_);obtain⟨cd,hc,yX⟩:=PySem.W.any_some hh;have hx:s.heap.get? x=some ⟨.ref C,some dx,.plain,#[]⟩:=I.obj;refine aF (aS (aF (aF (wpAny_loadPart hx (aF (PySem.W.Looks.here (s:={ s with toks:=s.toks+1 }) (PySem.W.looks_clsIn X hc) ?_))))));rw [yX];refine aS (a:=some dx) (aF (aS (aF ?_)));refine wpAny_nsSet1 (s:={ s with toks:=s.toks+1 }) I.ns fun h' yT iP=>?_;obtain⟨oD,esD,epD,hoD,hdD,hcD⟩:=yT.count (PySem.Within.cons name v hw);refine aF (wpAny_lookBehind hoD (by rw [hdD];exact pastItsLine_dict (qJ hcD (by rw [nH];omega))) ?_);exact aS (h _ ⟨(iP.2 _ (bT I.ne)).trans I.obj,yT,I.ne⟩ iP)
theorem acP{R:Result→Shared→Prop}{vs:List Value}{kw:List (Str×Value)}(X:K.In s.heap)(hm:makesIn K C=true)
  (hi:findIn K (.ref C) "__init__" = some (some (.ref f))) (hf:typeIn K (.ref f)=some (.type "function"))
  (h:codeAny (model prog w) (A.under (.builtin "type.__call__" ⟨.ref C::vs,kw⟩)) (.call (.ref f) ⟨.ref (s.heap.objs.size+1)::vs,kw⟩) (PySem.W.InitBack (s.heap.objs.size+1) R)
   { s with heap:=(s.heap.push emptyDict).push (instObj C s.heap.objs.size) }) :
  codeAny (model prog w) A (.call (.ref C) ⟨vs,kw⟩) R s:=by
 obtain⟨hh,g,d,t,os⟩:=s;exact PySem.W.make_core (PySem.W.makes_of X hm) (PySem.W.looks_findIn X hi) (fun self=>PySem.W.bind_fn X self hf) (.inl rfl) h
end
def fS(f:Str)(v:V):List (Str×V)→List (Str×V)
 | []=>[(f,v)]
 | (g,x)::r=>if g=f then(g,v)::r else(g,x)::fS f v r
theorem Ga(f g:Str)(v:V):∀fs:List (Str×V),(fS f v fs).lookup g=if g=f then some v else fs.lookup g
 | []=>by
  show List.lookup g [(f,v)]=_
  by_cases h:g=f
  ·have hb:(g == f)=true:=qE.mpr h;simp only [List.lookup,hb,if_pos h]
  ·have hb:(g == f)=false:=qF.mpr h;simp only [List.lookup,hb,if_neg h]
 | (k,x)::r=>by
  have ih:=Ga f g v r;rw [show fS f v ((k,x)::r)=(if k=f then(k,v)::r else(k,x)::fS f v r)from rfl]
  by_cases hk:k=f
  ·rw [if_pos hk]
   by_cases h:g=k
   ·have hb:(g == k)=true:=qE.mpr h;simp only [List.lookup,hb,if_pos (h.trans hk)]
   ·have hb:(g == k)=false:=qF.mpr h;simp only [List.lookup,hb,if_neg (fun e:g=f=>h (e.trans hk.symm))]
  ·rw [if_neg hk]
   by_cases h:g=k
   ·have hb:(g == k)=true:=qE.mpr h;simp only [List.lookup,hb,if_neg (fun e:g=f=>hk (h.symm.trans e))]
   ·have hb:(g == k)=false:=qF.mpr h;simp only [List.lookup,hb];exact ih
theorem SQ(f:Str)(v:V):∀fs:List (Str×V),f∈(fS f v fs).map (·.1)∧∀g,g∈fs.map (·.1)→g∈(fS f v fs).map (·.1)
 | []=>⟨by simp [fS],fun g h=>by simp at h⟩
 | (k,x)::r=>by
  obtain⟨i1,i2⟩:=SQ f v r;rw [show fS f v ((k,x)::r)=(if k=f then(k,v)::r else(k,x)::fS f v r)from rfl]
  by_cases hk:k=f
  ·rw [if_pos hk];subst hk;exact⟨by simp,fun g h=>by simpa using h⟩
  ·rw [if_neg hk];refine⟨?_,fun g h=>?_⟩
   ·rw [cF];exact fP _ i1
   ·rw [cF]at h ⊢
    rcases dG.mp h with e | e
    ·exact dG.mpr (.inl e)
    ·exact fP _ (i2 g e)
theorem Gj(f:Str)(v:V):∀fs:List (Str×V),(fS f v fs).length≤fs.length+1
 | []=>by simp [fS]
 | (k,x)::r=>by
  have ih:=Gj f v r;rw [show fS f v ((k,x)::r)=(if k=f then(k,v)::r else(k,x)::fS f v r)from rfl]
  by_cases hk:k=f
  ·rw [if_pos hk,nH,nH];omega
  ·rw [if_neg hk,nH,nH];omega
theorem jX.some_of{v:V}{o:Option Value}(r:jX (some v) o):∃u,o=some u∧RelV v u:=by
 cases o with
 | none=>exact(show False from r).elim
 | some u=>exact⟨u,rfl,r⟩
theorem jX.none_of{o:Option Value}(r:jX none o):o=none:=by
 cases o with
 | none=>rfl
 | some u=>exact(show False from r).elim
theorem Ik{v:V}{u:Value}(r:RelV v u):PySem.W.handedIn u=true:=by
 cases v with
 | aZ=>cases(show u=Value.none from r);rfl
 | bl b=>cases(show u=Value.bool b from r);rfl
 | int i=>obtain⟨t,e⟩:=(show ∃t,u=Value.int i t from r);cases e;rfl
 | str x=>obtain⟨t,e⟩:=(show ∃t,u=Value.str x t from r);cases e;rfl
 | KR b=>obtain⟨t,e⟩:=(show ∃t,u=Value.bytes b t from r);cases e;rfl
 | wI b=>obtain⟨t,e⟩:=(show ∃t,u=Value.float b t from r);cases e;rfl
 | ref a=>cases(show u=Value.ref a from r);rfl
 | ty n=>cases(show u=Value.type n from r);rfl
section
variable{P:Program}{w:World}{H H':Hp}{h h':Heap}{a C dx:Addr}{fs kG:List (Str×V)}
theorem IW(aH:dO P w H h)(e:H a=some (.ins C dx fs)):∃mA,wX h a dx C mA∧(∀f,jX (fs.lookup f) (mA f))∧PySem.Within mA (fs.map (·.1))∧fs.length≤1000∧H dx=some (.own a):=by
 obtain⟨d,z,ne,ob,mA,n,r,q⟩:=(show eV P w H h a (.ins C dx fs)from aH a _ e);exact⟨mA,⟨ob,n,ne⟩,r,q,z,d⟩
end
structure kI(K:Frag)(C:Addr):Prop where
 pg:plainGet K C Str.empty=true
 hd:hasDictIn K C=true
 po:PySem.W.plainOver K C=true
 sa:findIn K (.ref C) "__setattr__" = some (some (.builtin "object.__setattr__"))
theorem kI.get{K:Frag}{C:Addr}(c:kI K C)(f:Str):plainGet K C f=true:=c.pg
def wY(K:Frag)(C:Addr)(f:Str):Prop:=findIn K (.ref C) f=some none
theorem wY.Px{K:Frag}{C:Addr}{f:Str}(n:wY K C f):takerIn K C f=some none:=by
 unfold takerIn;rw [show findIn K (.ref C) f=some none from n];rfl
structure Con(K:Frag)(C:Addr)(f:Str)(v:V)(u:Value):Prop where
 at_:findIn K (.ref C) f=some (some u)
 rel:RelV v u
 get:specialIn K u "__get__" = some none
 cp:PySem.W.copiedNames.contains f=false
structure Meth(K:Frag)(C:Addr)(m:Str)(f:Addr):Prop where
 at_:findIn K (.ref C) m=some (some (.ref f))
 fn:isFn K (.ref f)=true
 kp:keepIn K (.ref f)=true
section
variable{X:Cx}{pins:List (Addr×Obj)}{σ:St}{H:Hp}{s:Shared}{a C dx:Addr}{fs:List (Str×V)}{f:Str}{v:V}{A:Around}{E:Value→Shared→Prop}
theorem agT{b:Bool}{Q:Value→Shared→Prop}(I:Inv X pins σ H s)(e:H a=some (.ins C dx fs))(c:kI X.K C)(n:wY X.K C f)(l:fs.lookup f=some v)
  (h:∀u s',Inv X pins σ H s'→RelV v u→Q u s'):wpAny (model X.prog X.w) A (getAttr (.ref a) f b) Q E s:=by
 obtain⟨mA,O,r,_,_,_⟩:=IW I.aH e;obtain⟨u,hu,ru⟩:=jX.some_of (v:=v) (o:=mA f) (by rw [← l];exact r f);exact get_map I.eQ O (c.get f) c.hd n hu (Ik ru) (h u _ (I.tok _) ru)
theorem WH{m:Str}{g:Addr}{pl:Sem Bool}{Q:Value×List Value→Shared→Prop}(I:Inv X pins σ H s)(e:H a=some (.ins C dx fs))(c:kI X.K C)(k:Meth X.K C m g)(l:fs.lookup m=none)
  (h:Q (.ref g,[.ref a]) s):wpAny (model X.prog X.w) A (getMethod (.ref a) m pl) Q E s:=by
 obtain⟨mA,O,r,_,_,_⟩:=IW I.aH e;have hn:mA m=none:=jX.none_of (by rw [← l];exact r m);exact agU I.eQ O (c.get m) k.at_ k.fn hn h
theorem We{y:V}{u:Value}{Q:Unit→Shared→Prop}(I:Inv X pins σ H s)(e:H a=some (.ins C dx fs))(c:kI X.K C)(n:wY X.K C f)(hl:fs.length<1000)(ry:RelV y u)
  (h:∀s',Inv X pins σ (upd H a (.ins C dx (fS f y fs))) s'→Q () s'):wpAny (model X.prog X.w) A (setAttr (.ref a) f u) Q E s:=by
 obtain⟨mA,O,r,wi,_,ho⟩:=IW I.aH e;have hz:(fs.map (·.1)).length≤sizeLine:=by rw [dN,kP];omega
 refine Wg I.eQ O c.sa c.po n.Px c.hd wi hz fun h' O' sb=>h _ ?_;have hd:∃o,h'.get? dx=some o:=let ⟨o,_,_,e',_⟩:=O'.ns; ⟨o,e'⟩;refine I.write (x:=a) (e:=dx) (by rw [e];exact True.intro) (.inr ho) (fun b q hb z=>(sb.2 b hb).trans z) hd ?_;refine⟨by rw [aT O.ne];exact ho,?_,O.ne,O'.obj,_,O'.ns,fun g=>?_,fun g hg=>?_⟩
 ·have:=Gj f y fs;omega
 ·show jX ((fS f y fs).lookup g) (if g=f then some u else mA g);rw [Ga]
  by_cases q:g=f
  ·rw [if_pos q,if_pos q];exact ry
  ·rw [if_neg q,if_neg q];exact r g
 ·by_cases q:g=f
  ·rw [q];exact(SQ f y fs).1
  ·refine(SQ f y fs).2 g (wi g fun z=>hg ?_);show(if g=f then some u else mA g)=none;rw [if_neg q];exact z
theorem Inv.made(I:Inv X pins σ H s):Inv X pins σ (upd (upd H s.heap.objs.size (.own (s.heap.objs.size+1))) (s.heap.objs.size+1) (.ins C s.heap.objs.size []))
  { s with heap:=(s.heap.push emptyDict).push (instObj C s.heap.objs.size) }:=by
 have e1:(s.heap.push emptyDict).get? s.heap.objs.size=some emptyDict:=dY s.heap rfl;have e2:((s.heap.push emptyDict).push (instObj C s.heap.objs.size)).get? (s.heap.objs.size+1)=some (instObj C s.heap.objs.size):=by
  have:=dY (s.heap.push emptyDict) (o:=instObj C s.heap.objs.size) rfl;rwa [xE]at this
 have e3:(s.heap.push emptyDict).Ns s.heap.objs.size (fun _=>none):=⟨emptyDict,#[],_,e1,rfl,(fun e he=>absurd he (by simp)),fun _=>rfl⟩;have I1:=I.laid (a:=s.heap.objs.size) (o := .own (s.heap.objs.size+1)) (h':=s.heap.push emptyDict) (t':=s.toks) (fun b u q=>bP _ q) bG ⟨_,e1⟩;refine I1.laid (a:=s.heap.objs.size+1) (o := .ins C s.heap.objs.size []) (t':=s.toks) (fun b u q=>bP _ q) (Nat.le_of_eq (xE _ _)) ?_;have ne:s.heap.objs.size≠s.heap.objs.size+1:=cK (ZK _);refine⟨by rw [aT ne,cW],zV _,ne,e2,fun _=>none,(Heap.Ns1.of_empty e3).at fun o q=>bP _ q,fun _=>True.intro,fun y hy=>absurd rfl hy⟩
theorem aj8{prog:Program}{w:World}{env:Env}{e:Expr}{f:Str}{pos:Pos}{s:Shared}{Q:Value→Shared→Prop}(hb:attributeBase e f env (eval e env)=eval e env)
  (h:wpAny (model prog w) A (eval e env) (fun o s₁=>wpAny (model prog w) A (getAttr o f true) Q E s₁) E s):wpAny (model prog w) A (eval (.Attribute e f pos) env) Q E s :=
 Attribute_any_ h (by rw [arm_eval_Attribute,hb])
end
def Cs(K:Frag)(ta:TE)(f:Str):TE:=fun σ H Q=>ta σ H fun x H1=>∃a C dx fs v,x = .ref a∧H1 a=some (.ins C dx fs)∧kI K C∧wY K C f∧fs.lookup f=some v∧Q v H1
def Xc(K:Frag)(ta tv:TE)(f:Str):TS:=fun D σ H=>tv σ H fun y H1=>ta σ H1 fun x H2=>∃a C dx fs,x = .ref a∧H2 a=some (.ins C dx fs)∧kI K C∧wY K C f∧fs.length<1000 ∧
 D.nx σ (upd H2 a (.ins C dx (fS f y fs)))
section
variable{X:Cx}{o e value:Expr}{f:Str}{pos pos' Pm:Pos}{ta tv:TE}
theorem BZ(he:PE X e ta)(hb:attributeBase e f X.env (eval e X.env)=eval e X.env):PE X (.Attribute e f pos) (Cs X.K ta f):=by
 intro pins s σ H Q I h;refine aj8 hb (aW (he pins s σ H _ I h) fun u s1 ⟨x,H1,I1,rx,a,C,dx,fs,v,ex,ea,c,n,l,q⟩=>?_);subst ex;obtain rfl:u=Value.ref a:=rx;exact agT I1 ea c n l fun u' s2 I2 ru=>⟨v,H1,I2,ru,q⟩
theorem Zd(ha:PE X o ta)(hv:PE X value tv)(hs:swapsWith value (some (.Attribute o f pos')) pos.line X.env=pure false):PS X (.Assign [.Attribute o f pos'] value pos) (Xc X.K ta tv f):=by
 intro pins s σ H D I h;refine plainObj_wpAny_Assign_Attribute (aW (hv pins s σ H _ I h) fun u s1 ⟨y,H1,I1,ry,q⟩=>aW (ha pins s1 σ H1 _ I1 q) fun ov s2 ⟨x,H2,I2,rx,a,C,dx,fs,ex,ea,c,n,l,q2⟩=>?_) hs;subst ex;obtain rfl:ov=Value.ref a:=rx;exact We I2 ea c n l ry fun s3 I3=>⟨σ,_,I3,q2⟩
end
section
variable{X:Cx}{pins:List (Addr×Obj)}{σ:St}{H:Hp}{s:Shared}{A:Around}{E:Value→Shared→Prop}{Q:Value→Shared→Prop}{c:Value}{b:Bool}
inductive mG(K:Frag)(H:Hp):V→Value→Prop where
 | aZ:mG K H .aZ (.type "NoneType")
 | bl (x:Bool):mG K H (.bl x) (.type "bool")
 | int (i:Int):mG K H (.int i) (.type "int")
 | str (x:Str):mG K H (.str x) (.type "str")
 | wI (x:UInt64):mG K H (.wI x) (.type "float")
 | lst {a:Addr} {xs:List V} (e:H a=some (.lst xs)):mG K H (.ref a) (.type "list")
 | bW {a:Addr} {o:Obj} {xs:List V} (e:H a=some (.bW o (.lst xs))):mG K H (.ref a) (.type "list")
 | tup {a:Addr} {xs:List V} (e:H a=some (.tup xs)):mG K H (.ref a) (.type "tuple")
 | dK {a:Addr} {kvs:List (Key×V)} (e:H a=some (.dK kvs)):mG K H (.ref a) (.type "dict")
 | dT {a:Addr} {kvs:List (List Key×V)} (e:H a=some (.dT kvs)):mG K H (.ref a) (.type "dict")
 | ins {a C dx:Addr} {fs:List (Str×V)} (e:H a=some (.ins C dx fs)) (cl:kI K C) (ha:findIn K (.ref C) "__class__" = some (some (.builtin "object.__class__")))
   (hn:specialIn K (.builtin "object.__class__") "__get__" = some (some (.builtin "getset_descriptor.__get__"))) (IZ:PySem.W.takesIn K (.builtin "object.__class__")=some true)
   (hm:mroIn K C (.type "object")=some true):mG K H (.ref a) (.ref C)
theorem adW{x:V}{u t:Value}(I:Inv X pins σ H s)(rx:RelV x u)(ty:mG X.K H x t)(e:kitOne X.K t c=some b)(h:∀tk,Q (.bool b) { s with toks:=tk }) :
  wpAny (model X.prog X.w) A (call (.builtin "isinstance") [u,c]) Q E s:=by
 cases ty with
 | aZ=>cases(show u=Value.none from rx);exact kia_one PySem.W.kitx_none I.eQ True.intro e (fun z=>nomatch z) h
 | bl y=>cases(show u=Value.bool y from rx);exact kia_one PySem.W.kitx_bool I.eQ True.intro e (fun z=>nomatch z) h
 | int i=>obtain⟨t,q⟩:=(show ∃t,u=Value.int i t from rx);cases q;exact kia_one PySem.W.kitx_int I.eQ True.intro e (fun z=>nomatch z) h
 | str y=>obtain⟨t,q⟩:=(show ∃t,u=Value.str y t from rx);cases q;exact kia_one PySem.W.kitx_str I.eQ True.intro e (fun z=>nomatch z) h
 | wI y=>obtain⟨t,q⟩:=(show ∃t,u=Value.float y t from rx);cases q;exact kia_one PySem.W.kitx_float I.eQ True.intro e (fun z=>nomatch z) h
 | @lst a xs ea =>
  cases(show u=Value.ref a from rx);obtain⟨_,_,n,_,h1⟩:=(show eV X.prog X.w H s.heap a (.lst xs)from I.aH a _ ea);exact kia_one PySem.W.kitx_list I.eQ ⟨_,h1,rfl⟩ e (fun z=>nomatch z) h
 | @bW a ob xs ea =>
  cases(show u=Value.ref a from rx);obtain⟨_,_,_,n,_,h1⟩:=(show eV X.prog X.w H s.heap a (.bW ob (.lst xs))from I.aH a _ ea);exact kia_one PySem.W.kitx_list I.eQ ⟨_,h1,rfl⟩ e (fun z=>nomatch z) h
 | @tup a xs ea =>
  cases(show u=Value.ref a from rx);obtain⟨_,_,_,p⟩:=(show eV X.prog X.w H s.heap a (.tup xs)from I.aH a _ ea);obtain⟨o,h1,h2,_⟩:=p;exact kia_one PySem.W.kitx_tuple I.eQ ⟨o,h1,h2⟩ e (fun z=>nomatch z) h
 | @dK a kvs ea =>
  cases(show u=Value.ref a from rx);obtain⟨_,_,vs,_,p⟩:=(show eV X.prog X.w H s.heap a (.dK kvs)from I.aH a _ ea);obtain⟨o,es,ep,h1,h2,_⟩:=p;exact kia_one PySem.W.kitx_dict I.eQ ⟨o,h1,h2.1⟩ e (fun z=>nomatch z) h
 | @dT a kvs ea =>
  cases(show u=Value.ref a from rx);obtain⟨_,_,xs,_,o,es,ep,h1,h2,_⟩:=(show eV X.prog X.w H s.heap a (.dT kvs)from I.aH a _ ea);exact kia_one PySem.W.kitx_dict I.eQ ⟨o,h1,h2.1⟩ e (fun z=>nomatch z) h
 | @ins a C dx fs ea cl ha hn IZ hm =>
  cases(show u=Value.ref a from rx);obtain⟨mA,O,_⟩:=IW I.aH ea;obtain⟨od,J,_⟩:=O.look;exact kia_one (PySem.W.kitx_own (cl.get _) cl.hd ha hn IZ hm) I.eQ J e (fun z=>nomatch z) h
end
structure bN(k:Nat)(A:Around):Prop where
 hd:A.handled=none
 dp:A.depth+3*k+5<recursionLimit
 un:A.units+16*k+200<cLine
theorem bN.mono{j k:Nat}{A:Around}(r:bN k A)(h:j≤k):bN j A:=⟨r.hd,by have:=r.dp;omega,by have:=r.un;omega⟩
theorem bN.deeper{k:Nat}{A:Around}(r:bN (k+1) A)(env:Env):bN k (A.deeper env) :=
 ⟨r.hd,by have:=r.dp;show A.depth+1+3*k+5<_;omega,by have:=r.un;show A.units+3+16*k+200<_;omega⟩
theorem acQ{A:Around}{C:Addr}{us:List Value}{kw:List (Str×Value)}:(A.under (.builtin "type.__call__" ⟨.ref C::us,kw⟩)).depth=A.depth+1:=by
 first | rfl | simp [Around.under,Code.weight,Code.isCreation,Code.isGuard,Code.isCaller,Code.frames,Code.isFrame,guardIds]
theorem acO{A:Around}{C:Addr}{us:List Value}{kw:List (Str×Value)}:(A.under (.builtin "type.__call__" ⟨.ref C::us,kw⟩)).units=A.units+1:=by
 first | rfl | simp [Around.under,Code.cUnits,Code.frames,Code.isFrame]
theorem bN.make{k:Nat}{A:Around}(r:bN (k+1) A)(C:Addr)(us:List Value)(kw:List (Str×Value)):bN k (A.under (.builtin "type.__call__" ⟨.ref C::us,kw⟩)) :=
 ⟨r.hd,by have:=r.dp;rw [acQ];omega,by have:=r.un;rw [acO];omega⟩
theorem bN.depth{k:Nat}{A:Around}(r:bN k A):A.depth<recursionLimit:=by have:=r.dp;omega
theorem bN.units{k:Nat}{A:Around}(r:bN k A):A.units+64<cLine:=by have:=r.un;omega
def Cr:TA:=fun _ H Q=>Q [] H
def Qr(ta:TE)(tr:TA):TA:=fun σ H Q=>ta σ H fun x H1=>tr σ H1 fun xs H2=>Q (x::xs) H2
section
variable{X:Cx}{e:Expr}{es:List Expr}{te:TE}{t:TA}{pos:Pos}
theorem tD:PA X [] Cr:=fun _ _ _ _ H Q I h=>FW ⟨[],H,I,.nil,h⟩
theorem tE(ha:PE X e te)(hr:PA X es t)(hs:starEach (e::es) X.env=(false,eval e X.env)::starEach es X.env:=by rfl):PA X (e::es) (Qr te t):=by
 intro pos pins s σ H Q I h;rw [hs];show wpAny _ _ (spliced ((false,eval e X.env)::backTo pos (starEach es X.env))) _ _ s;refine AK (aW (ha pins s σ H _ I h) fun u s1 ⟨x,H1,I1,r1,q1⟩=>?_);exact aW (hr pos pins s1 σ H1 _ I1 q1) fun us s2 ⟨xs,H2,I2,r2,q2⟩=>⟨x::xs,H2,I2,.cons r1 r2,q2⟩
def Qb(t:TA):TE:=fun σ H Q=>t σ H fun xs H1=>xs.length≤sizeLine∧∀p,H1 p=none→Q (.ref p) (upd H1 p (.tup xs))
def Qk(t:TA):TE:=fun σ H Q=>t σ H fun xs H1=>xs.length≤sizeLine∧∀p,H1 p=none→Q (.ref p) (upd H1 p (.lst xs))
theorem Zr{x1}(h:PA X es t):PE X (.Tuple es x1 pos) (Qb t):=by
 intro pins s σ H Q I hq;refine wpAny_Tuple_spliced (aW (h pos pins s σ H _ I hq) fun us s1 ⟨xs,H1,I1,r,z,q⟩=>⟨by rw [← r.length];exact z,?_⟩);have hf:H1 s1.heap.objs.size=none:=I1.aH.fresh bG;refine⟨.ref s1.heap.objs.size,upd H1 s1.heap.objs.size (.tup xs),I1.laid (t':=s1.toks) (fun b u e=>bP _ e) bG ?_,rfl,q _ hf⟩;exact⟨z,us,r,⟨_,dY _ rfl,rfl,_,rfl⟩⟩
theorem aaC(h:PA X es t):PE X (.List es pos) (Qk t):=by
 intro pins s σ H Q I hq;refine wpAny_List_spliced (aW (h pos pins s σ H _ I hq) fun us s1 ⟨xs,H1,I1,r,z,q⟩=>⟨by rw [← r.length];exact z,?_⟩);have hf:H1 s1.heap.objs.size=none:=I1.aH.fresh bG;refine⟨.ref s1.heap.objs.size,upd H1 s1.heap.objs.size (.lst xs),I1.laid (t':=s1.toks) (fun b u e=>bP _ e) bG ?_,rfl,q _ hf⟩;exact⟨z,us,0,r,dY _ rfl⟩
end
abbrev Sp:=List V→Hp→VK→XK→Prop
abbrev mO:=List Env→Hp→Shared→XK→Value→Shared→Prop
structure xK(P:Program)(w:World)(K:Frag)(mg:Str→Option Value)(base:Heap)(A:Around)(outer:List Env)(s:Shared)(H:Hp):Prop where
 frames:A.frames=some outer
 mod:Mod K mg base
 bs:∀b o,base.get? b=some o→s.heap.get? b=some o∧H b=none
 mF:base.objs.size≤s.heap.objs.size
 kY:s.heap.FunFrames base outer
 oZ:∀b∈eR outer,H b=none
 aH:dO P w H s.heap
 bare:AllBare s.gens
def CE(outer:List Env)(P:Program)(w:World)(H:Hp)(s:Shared)(Q:VK)(u:Value)(s':Shared):Prop :=
 ∃v H',s'.os=s.os∧AllBare s'.gens∧Un (eR outer) [] H H' s.heap s'.heap∧dO P w H' s'.heap∧RelV v u∧Q v H'
def CR(CX:mO)(outer:List Env)(P:Program)(w:World)(H:Hp)(s:Shared)(Q:VK)(E:XK)(r:Result)(s':Shared):Prop :=
 match r with
 | .ok (.ret u)=>CE outer P w H s Q u s'
 | .ok _=>False
 | .error e=>CX outer H s E e s'
structure fQ(P:Program)(w:World)(K:Frag)(mg:Str→Option Value)(base:Heap)(CX:mO)(k:Nat)(f:Addr)(fd:FuncData)(ps:List Str)(sp:Sp):Prop where
 len:∀vs H Q E,sp vs H Q E→vs.length=ps.length
 run:∀(A:Around) (outer:List Env) (s:Shared) (H:Hp) (args:Args) (us:List Value) (vs:List V) (Q:VK) (E:XK),bN k A→xK P w K mg base A outer s H→BindsTo s fd args (ps.zip us)→Vals vs us→sp vs H Q E →
  codeAny (model P w) A (.call (.ref f) args) (CR CX outer P w H s Q E) s
theorem fQ.imp{P:Program}{w:World}{K:Frag}{mg:Str→Option Value}{base:Heap}{CX:mO}{k:Nat}{f:Addr}{fd:FuncData}{ps:List Str}{sp Di:Sp}(F:fQ P w K mg base CX k f fd ps sp)
  (h:∀vs H Q E,Di vs H Q E→sp vs H Q E):fQ P w K mg base CX k f fd ps Di :=
 ⟨fun vs H Q E q=>F.len vs H Q E (h _ _ _ _ q),fun A outer s H args us vs Q E hr he hb hv hs=>F.run A outer s H args us vs Q E hr he hb hv (h _ _ _ _ hs)⟩
theorem xK.make{P:Program}{w:World}{K:Frag}{mg:Str→Option Value}{base:Heap}{A:Around}{outer:List Env}{s:Shared}{H:Hp}(e:xK P w K mg base A outer s H)(C:Addr)(us:List Value)(kw:List (Str×Value)) :
  xK P w K mg base (A.under (.builtin "type.__call__" ⟨.ref C::us,kw⟩)) outer s H:=⟨by first | exact e.frames | (simpa [Around.under,Code.envs,Code.isFrame,pushEnvs]using e.frames),e.mod,e.bs,e.mF,e.kY,e.oZ,e.aH,e.bare⟩
section
variable{X:Cx}{pins:List (Addr×Obj)}{σ:St}{H:Hp}{s s':Shared}
theorem Inv.KG(I:Inv X pins σ H s):xK X.prog X.w X.K X.mg X.base X.A X.stack s H :=
 ⟨I.ok.frames,I.ok.mod,I.bs,qJ I.ok.mF I.sz,I.stack,I.HA,I.aH,I.bare⟩
theorem Inv.after{Q:VK}{u:Value}(I:Inv X pins σ H s)(h:CE X.stack X.prog X.w H s Q u s'):EP X pins σ Q u s':=by
 obtain⟨v,H',os,bare,un,aH,r,q⟩:=h;obtain⟨hh,g,d,t,CC⟩:=s';obtain rfl:CC=s.os:=os;exact⟨v,H',I.call (h':=hh) (g':=g) (d':=d) (t':=t) (ch:=[]) un aH bare (fun b z=>absurd z (by simp)),r,q⟩
end
def Qj(C:Addr)(sp:Sp)(dvs:List V)(E:XK)(t:TA):TE:=fun σ H Q=>t σ H fun vs H1=>∀x dx,H1 x=none→H1 dx=none→dx≠x →
 sp (.ref x::(vs++dvs)) (upd (upd H1 dx (.own x)) x (.ins C dx [])) (fun v H2=>v = .aZ∧Q (.ref x) H2) E
def Binds(K:Frag)(fd:FuncData)(ps:List Str)(ds:List Value):Prop :=
 ∀(s:Shared) (us:List Value),K.In s.heap→(us++ds).length=ps.length→BindsTo s fd ⟨us,[]⟩ (ps.zip (us++ds))
theorem Binds.all{K:Frag}{fd:FuncData}{ps:List Str}(h:∀us:List Value,us.length=ps.length→bindArgs fd ⟨us,[]⟩=pure (ps.zip us)):Binds K fd ps []:=fun s us _ hl=>by
 rw [FE]at hl ⊢;exact .of_eq (h us hl)
def Passes(CX:mO)(X:Cx)(E:XK):Prop:=∀(pins:List (Addr×Obj)) (σ:St) (H:Hp) (s:Shared) (e:Value) (s':Shared),Inv X pins σ H s→CX X.stack H s E e s'→X.xe e s'
section
variable{X:Cx}{CX:mO}{k:Nat}{f C:Addr}{fd:FuncData}{ps:List Str}{sp:Sp}{dvs:List V}{ds:List Value}{E:XK}{x m:Str}{p pos apos:Pos}{e o:Expr}{es:List Expr}{ta:TE}{t:TA}
structure Mk(K:Frag)(C f:Addr):Prop where
 makes:makesIn K C=true
 init:findIn K (.ref C) "__init__" = some (some (.ref f))
 fn:isFn K (.ref f)=true
 kp:keepIn K (.ref C)=true
theorem Xf{pins:List (Addr×Obj)}{σ:St}{H:Hp}{s:Shared}{Q:VK}{us:List Value}{vs:List V}(M:Mk X.K C f)(F:fQ X.prog X.w X.K X.mg X.base CX k f fd ps sp)(hr:bN (k+1) X.A)(hb:Binds X.K fd ps ds)(hd:Vals dvs ds)
  (hx:Passes CX X E) (I:Inv X pins σ H s) (r:Vals vs us)
  (h:∀x dx,H x=none→H dx=none→dx≠x→sp (.ref x::(vs++dvs)) (upd (upd H dx (.own x)) x (.ins C dx [])) (fun v H2=>v = .aZ∧Q (.ref x) H2) E) :
  wpAny (model X.prog X.w) X.A (call (.ref C) us) (EP X pins σ Q) X.xe s:=by
 have hq:=h (s.heap.objs.size+1) s.heap.objs.size (I.aH.fresh (nY _)) (I.aH.fresh bG) (cK (ZK _));have I2:=Inv.made (C:=C) I;have r2:Vals (V.ref (s.heap.objs.size+1)::(vs++dvs)) (Value.ref (s.heap.objs.size+1)::(us++ds)) := .cons rfl (r.append hd);have hl:(Value.ref (s.heap.objs.size+1)::us++ds).length=ps.length:=by
  have e:=r2.length;rw [F.len _ _ _ _ hq]at e;exact e.symm
 refine wpAny_call (acP (f:=f) I.eQ M.makes M.init (qE.mp M.fn) (rX (F.run _ X.stack _ _ ⟨Value.ref (s.heap.objs.size+1)::us,[]⟩ (Value.ref (s.heap.objs.size+1)::(us++ds)) _ _ E (hr.make C us [])
  (I2.KG.make C us []) (hb _ (Value.ref (s.heap.objs.size+1)::us) I2.eQ hl) r2 hq) fun r s' CV=>?_))
 cases r with
 | error e=>exact hx pins σ _ _ e s' I2 CV
 | ok fl =>
  cases fl with
  | ret u =>
   obtain⟨v,H',I3,rv,ev,q3⟩:=I2.after CV;subst ev;exact⟨rv,⟨V.ref (s.heap.objs.size+1),H',I3,rfl,q3⟩⟩
  | next=>exact False.elim CV
  | brk=>exact False.elim CV
  | cont=>exact False.elim CV
theorem aaB(M:Mk X.K C f)(F:fQ X.prog X.w X.K X.mg X.base CX k f fd ps sp)(hr:bN (k+1) X.A)(hg:Gl X x)(hm:X.mg x=some (.ref C))(hb:Binds X.K fd ps ds)(hd:Vals dvs ds)(hx:Passes CX X E)
  (ha:PA X (e::es) t) (jD:(x == ("__debug__" : Str))=false:=by decide) (he:starEach (e::es) X.env=(false,eval e X.env)::starEach es X.env:=by rfl) (dF:(backTo pos (starEach es X.env)).any (·.1)=false:=by rfl) :
  PE X (.Call (.Name x p) (e::es) [] pos) (Qj C sp dvs E t):=by
 intro pins s σ H Q I h;refine sQ (IP I hg hm ?_ jD);refine callWith_K (h₀:=X.base) I.ok.mod.tL M.kp (aW (ha pos pins s σ H _ I h) fun us s1 ⟨vs,H1,I1,r,q⟩=>⟨I1.eQ,?_⟩) he dF;exact Xf M F hr hb hd hx I1 r q
end
section
variable{X:Cx}{CX:mO}{k:Nat}{f C:Addr}{fd:FuncData}{ps ks:List Str}{sp:Sp}{E:XK}{x m:Str}{p pos apos amM:Pos}{e o:Expr}{es:List Expr}{kws:List Keyword}{te ta:TE}{t tk:TA}{nm:Option Str}
structure an4(K:Frag)(fd:FuncData)(ps ks:List Str)(g:List Value→List Value→List Value)(gV:List V→List V→List V):Prop where
 to:∀(s:Shared) (us ws:List Value),K.In s.heap→(g us ws).length=ps.length→BindsTo s fd ⟨us,ks.zip ws⟩ (ps.zip (g us ws))
 rel:∀{vs:List V} {us:List Value} {zs:List V} {ws:List Value},Vals vs us→Vals zs ws→Vals (gV vs zs) (g us ws)
variable{g:List Value→List Value→List Value}{gV:List V→List V→List V}
end
structure cU(N P:List Str)(sc:Scope):Prop where
 kind:sc.kind = .function
 co:sc.isCoroutine=false
 gen:sc.isGenerator=false
 nd:N.Nodup
 pre:N.take P.length=P
 par:∀x∈P,sc.names.lookup x=some .local∨sc.names.lookup x=some .cell
 abZ:∀y∈sc.names,y.2 ≠ .free
theorem Ku{kindOf:Str→Option NameKind}{x:Str}:∀{binds:List (Str×Value)} {m:Str→Option Value},(∀v,(x,v)∉binds)→bindL kindOf binds m x=m x
 | [],_,_=>rfl
 | (n,v)::r,m,h=>by
  unfold bindL;rw [Ku fun w hw=>h w (fP _ hw)];split
  ·have:x≠n:=by rintro rfl;exact h v List.mem_cons_self
   simp [this]
  ·rfl
theorem Kw{kindOf:Str→Option NameKind}{x:Str}:∀{binds:List (Str×Value)} {m:Str→Option Value},(∀v,(x,v)∉binds)→bindC kindOf binds m x=m x
 | [],_,_=>rfl
 | (n,v)::r,m,h=>by
  unfold bindC;rw [Kw fun w hw=>h w (fP _ hw)];split
  ·rfl
  ·have:x≠n:=by rintro rfl;exact h v List.mem_cons_self
   simp [this]
theorem Kv{kindOf:Str→Option NameKind}{x:Str}{v:Value}:∀{P:List Str} {vs:List Value} {i:Nat} {m:Str→Option Value},P.Nodup→P[i]? = some x→vs[i]? = some v→kindOf x=some .local →
  bindL kindOf (P.zip vs) m x=some v
 | [],_,_,_,_,h,_,_=>by simp at h
 | _::_,[],_,_,_,_,h,_=>by simp at h
 | p::P,w::vs,0,m,nd,h1,h2,hk=>by
  simp at h1 h2;subst h1;subst h2;show bindL kindOf ((p,w)::P.zip vs) m p=_;unfold bindL;rw [Ku fun v hv=>(lU.mp nd).1 (List.of_mem_zip hv).1,if_pos hk];simp
 | p::P,w::vs,i+1,m,nd,h1,h2,hk=>by
  show bindL kindOf ((p,w)::P.zip vs) m x=_;unfold bindL;exact Kv (i:=i) (lU.mp nd).2 (by simpa using h1) (by simpa using h2) hk
theorem Kx{kindOf:Str→Option NameKind}{x:Str}{v:Value}:∀{P:List Str} {vs:List Value} {i:Nat} {m:Str→Option Value},P.Nodup→P[i]? = some x→vs[i]? = some v→kindOf x≠some .local →
  bindC kindOf (P.zip vs) m x=some v
 | [],_,_,_,_,h,_,_=>by simp at h
 | _::_,[],_,_,_,_,h,_=>by simp at h
 | p::P,w::vs,0,m,nd,h1,h2,hk=>by
  simp at h1 h2;subst h1;subst h2;show bindC kindOf ((p,w)::P.zip vs) m p=_;unfold bindC;rw [Kw fun v hv=>(lU.mp nd).1 (List.of_mem_zip hv).1,if_neg hk];simp
 | p::P,w::vs,i+1,m,nd,h1,h2,hk=>by
  show bindC kindOf ((p,w)::P.zip vs) m x=_;unfold bindC;exact Kx (i:=i) (lU.mp nd).2 (by simpa using h1) (by simpa using h2) hk
def start(N:List Str)(vs:List V):St:=vs.map some++List.replicate (N.length - vs.length) none
def pB(CX:mO)(P:Program)(w:World)(K:Frag)(mg:Str→Option Value)(base:Heap)(N:List Str)(qual:Str)(scope:Scope)(f:Addr)(cd:Value)(A:Around)(outer:List Env)(s:Shared)(H:Hp)(E:XK):Cx where
 prog:=P
 w:=w
 K:=K
 mg:=mg
 base:=base
 A:=A.deeper (envOfC qual scope s.heap.objs.size f cd)
 N:=N
 s₀:=s
 H₀:=H
 env:=envOfC qual scope s.heap.objs.size f cd
 outer:=outer
 stack:=envOfC qual scope s.heap.objs.size f cd::outer
 ex:=[]
 calm:=true
 fn:=fun _=>true
 pn:=[]
 xe:=fun e s'=>wpAny (model P w) (A.deeper (envOfC qual scope s.heap.objs.size f cd)) (leaving (envOfC qual scope s.heap.objs.size f cd) e) (fun _ rA=>CX outer H s E e rA) (fun e' rA=>CX outer H s E e' rA) s'
theorem Km{sc:Scope}{n:Nat}{x:Str}(h:sc.names.lookup x=some .cell):∃c,(cellsFrom n sc.names []).lookup x=some c:=by
 have q:=PySem.W.cellsFrom_some sc.names n [] (.inl h);exact Option.isSome_iff_exists.mp q
theorem ad2{CX:mO}{P:Program}{w:World}{K:Frag}{mg:Str→Option Value}{base:Heap}{N ps:List Str}{qual:Str}{scope:Scope}{f:Addr}{cd:Value}{A:Around}{outer:List Env}{s s1:Shared}{H:Hp}{E:XK}{us:List Value}{vs:List V}
  (S:cU N ps scope) (hd:A.handled=none) (e0:xK P w K mg base A outer s H) (hl:vs.length=ps.length) (r:Vals vs us)
  (x:InCallC s s.heap.objs.size (bindL (envOfC qual scope s.heap.objs.size f cd).kindOf (ps.zip us) fun _=>none) (cellsFrom (s.heap.objs.size+1) scope.names []) (bindC (envOfC qual scope s.heap.objs.size f cd).kindOf (ps.zip us) fun _=>none) s1) :
  Inv (pB CX P w K mg base N qual scope f cd A outer s H E) [] (start N vs) H s1:=by
 have dF:ps.length≤N.length:=by have:=congrArg List.length S.pre;rw [MB]at this;omega
 obtain⟨h1,tk,rfl,hk⟩:=x.done;have CG:∀b:Addr,b∉(pB CX P w K mg base N qual scope f cd A outer s H E).ex:=fun b z=>absurd (show b∈([]:List Addr)from z) (by simp);refine⟨⟨e0.mod,S.kind,rfl,rfl,mJ _,fun y z c h1 h2=>?_,fun y hy=>?_,fun y c _ h=>?_,fun _=>hd,Around.frames_deeper e0.frames,.inr ⟨rfl,rfl⟩,fun b z=>absurd z (CG b),e0.bs,e0.mF,fun b _ _=>CG b,fun b z=>absurd z (CG b),e0.kY,e0.oZ⟩,
  rfl,e0.bare,Un.kept hk,⟨_,x.toInCall.ns,fun i y v h1 h2 h3=>?_⟩,fun y c h=>⟨_,x.cell y c h⟩,e0.aH.fresh bG,fun y c h=>?_,fun p hp=>absurd (show p∈([]:List (Addr×Obj))from hp) (by simp),e0.aH.kept hk,?_⟩
 ·exact name_of_addr x.apart (PySem.mem_of_lookup h1) (PySem.mem_of_lookup h2)
 ·have hy:scope.names.lookup y=some .cell∨scope.names.lookup y=some .free:=hy
  rcases hy with hy | hy
  ·exact Km hy
  ·exact absurd rfl (S.abZ _ (PySem.mem_of_lookup hy))
 ·exact LW (x.above y c (PySem.mem_of_lookup h))
 ·have hi:i<vs.length:=by
   unfold start at h2
   by_cases hi:i<vs.length
   ·exact hi
   ·rw [sF (by simpa using hi)]at h2;rw [List.getElem?_replicate]at h2;split at h2 <;> cases h2
  have ha:vs[i]? = some v:=by
   unfold start at h2;rw [fV (by simpa using hi),iM]at h2;cases e:vs[i]? with
   | none=>rw [e]at h2;cases h2
   | some a=>rw [e]at h2;cases h2;rfl
  obtain⟨u,hu,rv⟩:=r.get ha;have hp:ps[i]? = some y:=by
   rw [← S.pre,List.getElem?_take_of_lt (by omega)];exact h1
  have Fv:ps.Nodup:=by rw [← S.pre];exact S.nd.sublist (List.take_sublist _ _)
  refine⟨u,rv,?_⟩
  rcases S.par y (oA hp)with k | k
  ·exact .inl ⟨k,Kv Fv hp hu k⟩
  ·obtain⟨c,e⟩:=Km (n:=s.heap.objs.size+1) k;refine .inr ⟨.inl k,c,e,?_⟩;have q:=x.cell y c e;rw [Kx Fv hp hu (by show scope.names.lookup y≠_;rw [k];decide)]at q;exact q
 ·exact e0.aH.fresh (LW (x.above y c (PySem.mem_of_lookup h)))
 ·unfold start;show _=N.length;rw [qK,dN,List.length_replicate];omega
theorem EC{CX:mO}{P:Program}{w:World}{K:Frag}{mg:Str→Option Value}{base:Heap}{k:Nat}{f:Addr}{name qual:Str}{params:Arguments}{body:List Stmt}{scope:Scope}{dV kV doc pm aR ct oc:Value}{an od:Option Addr}
  {gJ:Array (Option Value)} {N ps:List Str} {sp:Sp} (lk:K.lookup f=some ⟨oc,od,.func (fnOf name qual params body scope dV kV doc pm an aR ct),gJ⟩) (jE:codeIn K aR qual=true) (S:cU N ps scope)
  (len:∀vs H Q E,sp vs H Q E→vs.length=ps.length)
  (iI:∀(A:Around) (outer:List Env) (s:Shared) (H:Hp) (vs:List V) (Q:VK) (E:XK),bN k (A.deeper (envOfC qual scope s.heap.objs.size f aR))→sp vs H Q E →
   ∃t,kH (pB CX P w K mg base N qual scope f aR A outer s H E) body t∧t { nx:=fun _ H'=>Q .aZ H',rt:=Q } (start N vs) H) :
  fQ P w K mg base CX (k+1) f (fnOf name qual params body scope dV kV doc pm an aR ct) ps sp:=by
 refine⟨len,fun A outer s H args us vs Q E hr e0 hb r iH=>?_⟩;have hl:=len _ _ _ _ iH;have KX:K.In s.heap:=e0.mod.tL.keeps fun b o e=>(e0.bs b o e).1;have lim:s.heap.NoLimit:=e0.mod.nolimit.keeps fun b o e=>(e0.bs b o e).1;have ae7:∀y∈ps.zip us,scope.names.lookup y.1=some .local∨(scope.names.lookup y.1=some .cell∧((cellsFrom (s.heap.objs.size+1) scope.names []).lookup y.1).isSome=true):=fun⟨n,v⟩ hy=>by
  rcases S.par n (List.of_mem_zip hy).1 with q | q
  ·exact .inl q
  ·exact .inr ⟨q,PySem.W.cellsFrom_some _ _ _ (.inl q)⟩
 refine codeAny_call_function hr.depth (KX _ _ lk) rfl S.co S.gen rfl (PySem.W.codeRec_of KX jE) (hb _ _ _ _ ?_);refine wpAny_newFunctionEnv_cells S.kind ae7 fun env he s1 x=>?_;subst he;refine⟨lim.keeps x.toInCall.keep,codeAny_func ?_⟩;obtain⟨t,ht,hq⟩:=iI A outer s H vs Q E (hr.deeper _) iH;have I:Inv (pB CX P w K mg base N qual scope f aR A outer s H E) [] (start N vs) H s1:=ad2 S hr.hd e0 hl r x;refine jM (ht [] s1 (start N vs) H _ I hq) (fun fl s' hs=>?_) fun e s' hs=>hs;have fin:∀{σ':St} {H':Hp} {v:V} {u:Value},Inv (pB CX P w K mg base N qual scope f aR A outer s H E) [] σ' H' s'→RelV v u→Q v H'→CE outer P w H s Q u s' :=
  fun{σ' H' v u} J rv q=>⟨v,H',J.os,J.bare,J.base,J.aH,rv,q⟩
 cases fl with
 | ret u =>
  obtain⟨v,σ',H',J,rv,q⟩:=hs;exact fin J rv q
 | next =>
  obtain⟨σ',H',J,q⟩:=hs;exact fin (v:=V.aZ) (u:=Value.none) J rfl q
 | brk =>
  obtain⟨_,_,_,q⟩:=hs;exact False.elim q
 | cont =>
  obtain⟨_,_,_,q⟩:=hs;exact False.elim q
section
variable{X:Cx}{x:Str}{p pos:Pos}{e:Expr}{es:List Expr}{t:TA}{id T:String}{r:List V→Hp→VK→Prop}
def OG(r:List V→Hp→VK→Prop)(t:TA):TE:=fun σ H Q=>t σ H fun vs H1=>r vs H1 Q
theorem HU(hc:iN X (.builtin id) r)(hg:Gl X x)(hm:X.mg x=none)(hv:bootBuiltins x=some (.builtin id))(ha:PA X (e::es) t)(hn:x ≠ "__name__":=by decide)(jD:(x == ("__debug__" : Str))=false:=by decide)
  (he:starEach (e::es) X.env=(false,eval e X.env)::starEach es X.env:=by rfl) (dF:(backTo pos (starEach es X.env)).any (·.1)=false:=by rfl):PE X (.Call (.Name x p) (e::es) [] pos) (OG r t):=by
 intro pins s σ H Q I h;refine sQ (rF I hg hm hv ?_ hn jD);exact PyProof.Rows.callWith_builtin1 (aW (ha pos pins s σ H _ I h) fun us s1 ⟨vs,H1,I1,r1,q1⟩=>hc pins s1 σ H1 vs us Q I1 r1 q1) he dF
theorem HS(hc:iN X (.type T) r)(hg:Gl X x)(hm:X.mg x=none)(hv:bootBuiltins x=some (.type T))(ha:PA X (e::es) t)(hn:x ≠ "__name__":=by decide)(jD:(x == ("__debug__" : Str))=false:=by decide)
  (he:starEach (e::es) X.env=(false,eval e X.env)::starEach es X.env:=by rfl) (dF:(backTo pos (starEach es X.env)).any (·.1)=false:=by rfl):PE X (.Call (.Name x p) (e::es) [] pos) (OG r t):=by
 intro pins s σ H Q I h;refine sQ (rF I hg hm hv ?_ hn jD);exact LU (aW (ha pos pins s σ H _ I h) fun us s1 ⟨vs,H1,I1,r1,q1⟩=>hc pins s1 σ H1 vs us Q I1 r1 q1) he dF
end
end L2
namespace HT
open PySem PyProof.Rows
section
variable{prog:Program}{w:World}{A:Around}{E:Value→Shared→Prop}{s:Shared}
theorem ajG{t b:Addr}{vs ws:List Value}{Q:Value→Shared→Prop}(ht:IsTup s.heap t vs.toArray)(hb:IsTup s.heap b ws.toArray)(hv:vs≠[])
  (h1:ws=[]→Q (.ref t) s) (h2:ws≠[]→Q (.ref s.heap.objs.size) { s with heap:=s.heap.push { cls := .type "tuple",data := .seq (vs++ws).toArray } })
  (hsz:vs.length+ws.length≤sizeLine):wpAny (model prog w) A (binaryOp .Add (.ref t) (.ref b)) Q E s:=by
 obtain⟨⟨cls,dd,data,sl⟩,ho,hc,n,hd⟩:=id ht;obtain⟨⟨anR,Kb,data2,Dp⟩,pV,JO,n2,hd2⟩:=id hb;simp only at hc hd JO hd2;subst hc hd JO hd2;have e:vs.toArray++ws.toArray=(vs++ws).toArray:=by simp
 by_cases hw:ws=[]
 ·exact concat_meets ⟨_,ho,rfl⟩ ⟨_,pV,rfl⟩ noFill_tuple_add seq_tuple_add PySem.F.slot_tuple_add PySem.F.entry_tuple_add (PySem.F.args_tuple_add_2 _ _)
   (tuple_addW1 t b vs.toArray ws.toArray n n2 dd Kb sl Dp (by simpa using hv) (by simp [hw])) ⟨ho,pV,h1 hw⟩
 ·refine concat_meets ⟨_,ho,rfl⟩ ⟨_,pV,rfl⟩ noFill_tuple_add seq_tuple_add PySem.F.slot_tuple_add PySem.F.entry_tuple_add (PySem.F.args_tuple_add_2 _ _)
   (tuple_addW2 t b vs.toArray ws.toArray n n2 dd Kb sl Dp (by simpa using hv) (by simpa using hw) (by rw [hX,hX];exact hsz)) ⟨ho,pV,?_⟩
  rw [e];exact h2 hw
end
end HT
namespace L2
open PySem PySem.Spec PyProof.Rows
abbrev TO:=St→Hp→(Option Int→Hp→Prop)→Prop
theorem intsAre_of{ns:List Int}:∀{us:List Value},Vals (ns.map V.int) us→IntsAre us ns:=by
 induction ns with
 | nil=>intro us r;rw [oB]at r;cases r;exact .nil
 | cons n ns ih =>
  intro us r;rw [cF]at r;cases r with
  | cons r1 r2 =>
   obtain⟨t,e⟩:=r1;subst e;exact .cons n t (ih r2)
section
variable{X:Cx}{e:Expr}{te:TE}{lo hi:Option Expr}{tl th:TO}{pos p2:Pos}
def LS(X:Cx)(r:V→Option Int→Option Int→Hp→VK→Prop):Prop :=
 ∀(pins:List (Addr×Obj)) (s:Shared) (σ:St) (H:Hp) (x:V) (v vl vu:Value) (lo hi:Option Int) (sl:Addr) (Q:VK),Inv X pins σ H s→RelV x v→s.heap.IsSliceOf sl vl vu .none→IsPart vl lo→IsPart vu hi→r x lo hi H Q →
  ∃T id,typeLookup (.type T) "__getitem__" = pure (some (.builtin id))∧s.TypeIs v T∧wpAny (model X.prog X.w) X.A (getItem v (.ref sl)) (EP X pins σ Q) X.xe s
theorem LS.or{r r':V→Option Int→Option Int→Hp→VK→Prop}(h:LS X r)(h':LS X r'):LS X (fun x lo hi H Q=>r x lo hi H Q∨r' x lo hi H Q):=by
 intro pins s σ H x v vl vu lo hi sl Q I rx hs pl pu q
 rcases q with q | q
 ·exact h pins s σ H x v vl vu lo hi sl Q I rx hs pl pu q
 ·exact h' pins s σ H x v vl vu lo hi sl Q I rx hs pl pu q
def Xr(K:Frag):R2:=fun x y H Q=>∃a b xs ys,x = .ref a∧y = .ref b∧eZ K H a xs∧eZ K H b ys∧xs≠[]∧xs.length+ys.length≤sizeLine ∧
 (ys=[]→Q (.ref a) H)∧(ys≠[]→∀p,H p=none→Q (.ref p) (upd H p (.tup (xs++ys))))
theorem Vals.QV{xs:List V}{us:List Value}(r:Vals xs us):us=[]↔xs=[]:=by
 cases r with
 | nil=>simp
 | cons _ _=>simp
theorem abG:fB X (binaryOp .Add) (Xr X.K):=by
 intro pins s σ H x y v u Q I rx ry h;obtain⟨a,b,xs,ys,rfl,rfl,ha,hb,hx,hz,q1,q2⟩:=h;cases rx;cases ry;obtain⟨aN,r1,p1,_⟩:=I.tuple ha;obtain⟨IT,r2,p2,_⟩:=I.tuple hb;refine HT.ajG p1 p2 (fun z=>hx (r1.QV.mp z)) (fun z=>⟨.ref a,H,I,rfl,q1 (r2.QV.mp z)⟩) (fun z=>?_) (by rw [← r1.length,← r2.length];exact hz);refine⟨.ref s.heap.objs.size,_,I.laid (t':=s.toks) (o := .tup (xs++ys)) (fun b ob q=>bP _ q) bG ?_,rfl,q2 (fun w=>z (r2.QV.mpr w)) _ (I.aH.fresh bG)⟩;exact⟨by rw [qK];exact hz,_,r1.append r2,IsTup.new _ _⟩
end
def yP(n:Nat)(i:Int):Option Nat:=if 0≤i then(if i<n then some i.toNat else none)else if -(n:Int)≤i then some (i+n).toNat else none
def hV{α:Type}(xs:List α)(i:Int):Option α:=(yP xs.length i).bind fun j=>xs[j]?
theorem adP{n:Nat}{i:Int}{j:Nat}(h:yP n i=some j):seqIndex? i n=some j∧j<n∧-(n:Int)≤i∧i<n:=by
 unfold yP at h
 by_cases h0:0≤i
 ·rw [if_pos h0]at h
  by_cases h1:i<n
  ·rw [if_pos h1]at h;have e:i.toNat=j:=lR h;exact⟨by rw [seqIndex_of h0 h1,e],by omega,by omega,h1⟩
  ·rw [if_neg h1]at h;cases h
 ·rw [if_neg h0]at h
  by_cases h1 : -(n:Int)≤i
  ·rw [if_pos h1]at h;have e:(i+n).toNat=j:=lR h;exact⟨by rw [seqIndex_neg (by omega) h1,e],by omega,h1,by omega⟩
  ·rw [if_neg h1]at h;cases h
theorem YS{α:Type}{xs:List α}{i:Int}{v:α}(h:hV xs i=some v):∃j,seqIndex? i xs.length=some j∧xs[j]? = some v∧j<xs.length∧-(xs.length:Int)≤i∧i<xs.length:=by
 unfold hV at h;cases e:yP xs.length i with
 | none=>rw [e]at h;cases h
 | some j =>
  rw [e]at h;obtain⟨h1,h2,h3,h4⟩:=adP e;exact⟨j,h1,h,h2,h3,h4⟩
def Me(b:Expr):Prop:=∀o i,subscripted b false o i=operate [o,i] (getItem o i)
def sG(X:Cx)(r:R2):Prop :=
 ∀(value slice:Expr) (pins:List (Addr×Obj)) (s:Shared) (σ:St) (H:Hp) (x y:V) (v u:Value) (Q:VK),Inv X pins σ H s→RelV x v→RelV y u→r x y H Q →
  subscripted slice false v u=operate [v,u] (getItem v u)→wpAny (model X.prog X.w) X.A (subscriptTail value slice v u) (EP X pins σ Q) X.xe s
def zX(X:Cx)(id:String)(r:V→List V→Hp→VK→Prop):Prop :=
 ∀(pins:List (Addr×Obj)) (s:Shared) (σ:St) (H:Hp) (x:V) (xs:List V) (v:Value) (us:List Value) (Q:VK),Inv X pins σ H s→RelV x v→Vals xs us→r x xs H Q →
  wpAny (model X.prog X.w) X.A (call (.builtin id) (v::us)) (EP X pins σ Q) X.xe s
section
variable{X:Cx}{a b:Expr}{ta tb:TE}{pos:Pos}
theorem sG.or{r r':R2}(h:sG X r)(h':sG X r'):sG X (fun x y H Q=>r x y H Q∨r' x y H Q):=by
 intro value slice pins s σ H x y v u Q I rx ry q hs
 rcases q with q | q
 ·exact h value slice pins s σ H x y v u Q I rx ry q hs
 ·exact h' value slice pins s σ H x y v u Q I rx ry q hs
theorem zX.or{id:String}{r r':V→List V→Hp→VK→Prop}(h:zX X id r)(h':zX X id r'):zX X id (fun x xs H Q=>r x xs H Q∨r' x xs H Q):=by
 intro pins s σ H x xs v us Q I rx rs q
 rcases q with q | q
 ·exact h pins s σ H x xs v us Q I rx rs q
 ·exact h' pins s σ H x xs v us Q I rx rs q
theorem aaH{r:R2}(hr:sG X r)(ha:PE X a ta)(hb:PE X b tb)(hs:Me b):PE X (.Subscript a b pos) (BH r ta tb):=by
 intro pins s σ H Q I h;exact Subscript_ (YA ha hb I h fun v u s2 x y H2 I2 rx ry q=>hr a b pins s2 σ H2 x y v u Q I2 rx ry q (hs _ _))
def En(K:Frag):R2:=fun x y H Q=>∃p xs i v,x = .ref p∧y = .int i∧eE K H p xs∧hV xs i=some v∧Q v H
def El(K:Frag):R2:=fun x y H Q=>∃p xs i v,x = .ref p∧y = .int i∧eZ K H p xs∧hV xs i=some v∧Q v H
def Em:R2:=fun x y H Q=>∃z i c,x = .str z∧y = .int i∧z.length≤sizeLine∧hV z.cps.toList i=some c∧Q (.str ⟨#[c]⟩) H
theorem adO:sG X (En X.K):=by
 intro value slice pins s σ H x y v u Q I rx ry h hs;obtain⟨p,xs,i,z,rfl,rfl,hq,he,q⟩:=h;cases rx;obtain⟨t,rfl⟩:=ry;obtain⟨aN,r,pl,hz⟩:=I.list hq;obtain⟨j,h1,h2,h3,h4,h5⟩:=YS he;obtain⟨w,ew,oM⟩:=r.get h2;have hl:=r.length;have hn:=IJ;have fin:EP X pins σ Q w s:=⟨z,H,I,oM,q⟩
 by_cases h0:0≤i
 ·have hj:i.toNat=j:=by
   rw [seqIndex_of h0 h5]at h1;exact lR h1
  exact item_listR pl.isList h0 (by omega) (by rw [hj];simpa using ew) fin hs
 ·have hj:(i+(aN.toArray.size:Int)).toNat=j:=by
   rw [seqIndex_neg (by omega) h4]at h1;rw [hX,← hl];exact lR h1
  exact subscriptTail_builtinR (x:=w) pl.isList.typeIs slot_list_getitem.lookup
   (wpAny_getItem_list_neg (Q:=fun r s'=>r=w∧EP X pins σ Q r s') pl.isList (by omega) (by rw [hX] <;> omega) (by omega) (by rw [hj];simpa using ew) ⟨rfl,fin⟩) hs
theorem adL:sG X (El X.K):=by
 intro value slice pins s σ H x y v u Q I rx ry h hs;obtain⟨p,xs,i,z,rfl,rfl,hq,he,q⟩:=h;cases rx;obtain⟨t,rfl⟩:=ry;obtain⟨aN,r,pl,hz⟩:=I.tuple hq;obtain⟨j,h1,h2,h3,h4,h5⟩:=YS he;obtain⟨w,ew,oM⟩:=r.get h2;have hl:=r.length;have hn:=IJ;have fin:EP X pins σ Q w s:=⟨z,H,I,oM,q⟩;exact subscriptTail_builtinR (x:=w) pl.typeIs slot_tuple_getitem.lookup
  (getItem_tuple (j:=j) (Q:=fun r s'=>r=w∧EP X pins σ Q r s') pl (by omega) (by omega) (by rw [hX,← hl];exact h1) (by simpa using ew) ⟨rfl,fin⟩) hs
theorem adM:sG X Em:=by
 intro value slice pins s σ H x y v u Q I rx ry h hs;obtain⟨z,i,c,rfl,rfl,hz,he,q⟩:=h;obtain⟨t,rfl⟩:=rx;obtain⟨t',rfl⟩:=ry;obtain⟨j,h1,h2,h3,h4,h5⟩:=YS he;have hl:z.cps.toList.length=z.length:=by simp [Str.length]
 rw [hl]at h1 h4 h5;have hn:=IJ;exact tail_any (typeIs_str s z t) slot_str_getitem.lookup (getItem_str (c:=c) (by
  have e1:decide (i < -(2 ^ 63:Int))=false:=lP (by omega);have e2:decide (i≥2 ^ 63)=false:=lP (by omega);rw [e1,e2,Bool.or_false]) (by rw [h1];simpa using h2) ⟨.str ⟨#[c]⟩,H,I.tok _,⟨_,rfl⟩,q⟩) hs
def Xq(K:Frag):R2:=fun x y H Q=>En K x y H Q∨El K x y H Q∨Em x y H Q
theorem adN:sG X (Xq X.K):=adO.or (adL.or adM)
theorem Inv.lst{pins:List (Addr×Obj)}{σ:St}{H:Hp}{s:Shared}{p:Addr}{xs:List V}(I:Inv X pins σ H s)(h:H p=some (.lst xs)) :
  ∃(aN:List Value) (n:Nat),Vals xs aN∧s.heap.get? p=some { cls := .type "list",data := .seq aN.toArray n }∧xs.length≤sizeLine:=by
 obtain⟨z,aN,n,r,e⟩:=I.aH p _ h;exact⟨aN,n,r,e,z⟩
theorem ajP:iN X (.builtin "len") (fun xs H Q=>∃p ys,xs=[.ref p]∧(eE X.K H p ys∨eZ X.K H p ys)∧Q (.int ys.length) H):=by
 intro pins s σ H xs us Q I r h;obtain⟨p,ys,rfl,hq,q⟩:=h;obtain⟨u,rfl,rx⟩:=vals1 r;cases rx;have hn:=IJ
 rcases hq with hq | hq
 ·obtain⟨aN,r',pl,hz⟩:=I.list hq;have hlen:=r'.length;exact Calls.call_len_list pl.isList (by simp only [hX] <;> omega) ⟨.int ys.length,H,I.tok _,⟨s.toks+1,by rw [hX,hlen]⟩,q⟩
 ·obtain⟨aN,r',pl,hz⟩:=I.tuple hq;have hlen:=r'.length;exact len_tuple pl (by simp only [hX] <;> omega) ⟨.int ys.length,H,I.tok _,⟨s.toks+1,by rw [hX,hlen]⟩,q⟩
theorem iN.or{f:Value}{r r':List V→Hp→VK→Prop}(h:iN X f r)(h':iN X f r'):iN X f (fun xs H Q=>r xs H Q∨r' xs H Q):=by
 intro pins s σ H xs us Q I rs q
 rcases q with q | q
 ·exact h pins s σ H xs us Q I rs q
 ·exact h' pins s σ H xs us Q I rs q
def NS(K:Frag)(T:String)(x:V)(H:Hp):Prop:=match x with
 | .str _=>T = "str"
 | .int _=>T = "int"
 | .ref p=>(T = "list"∧∃xs,eE K H p xs)∨(T = "tuple"∧∃o,K.lookup p=some o∧o.cls = .type "tuple"∧o.dict=none) ∨
   (T = "dict"∧((∃kvs,H p=some (.dK kvs))∨∃kvs,H p=some (.dT kvs)))∨(T = "set"∧∃S n,H p=some (.set S n))
 | _=>False
theorem Pa{pins:List (Addr×Obj)}{σ:St}{H:Hp}{s:Shared}{T:String}{x:V}{v:Value}(I:Inv X pins σ H s)(r:RelV x v)(ty:NS X.K T x H) :
  s.TypeIs v T∧∀a,v = .ref a→∃ob,s.heap.get? a=some ob∧ob.dict=none:=by
 cases x with
 | str z =>
  obtain⟨t,rfl⟩:=r;cases(show T = "str" from ty);exact⟨typeIs_str s z t,fun _ e=>nomatch e⟩
 | int i =>
  obtain⟨t,rfl⟩:=r;cases(show T = "int" from ty);exact⟨typeIs_int s i t,fun _ e=>nomatch e⟩
 | ref p =>
  cases r
  rcases ty with⟨rfl,xs,hq⟩ | ⟨rfl,o,hk,hc,hd⟩ | ⟨rfl,hk⟩ | ⟨rfl,S,n,hk⟩
  ·obtain⟨aN,_,pl,_⟩:=I.list hq;refine⟨pl.isList.typeIs,fun a e=>?_⟩;cases e;obtain⟨o,n,e,c,hd,_⟩:=pl;exact⟨o,e,hd⟩
  ·refine⟨⟨o,I.eQ p o hk,hc⟩,fun a e=>?_⟩;cases e;exact⟨o,I.eQ _ o hk,hd⟩
  ·have z:∃o,s.heap.get? p=some o∧o.ExactDict:=by
    rcases hk with⟨kvs,hk⟩ | ⟨kvs,hk⟩
    ·obtain⟨_,_,_,_,o,_,_,e,ex,_⟩:=I.aH p _ hk;exact⟨o,e,ex⟩
    ·obtain⟨_,_,_,_,o,_,_,e,ex,_⟩:=I.aH p _ hk;exact⟨o,e,ex⟩
   obtain⟨o,e,ex⟩:=z;refine⟨⟨o,e,ex.1⟩,fun a e2=>?_⟩;cases e2;exact⟨o,e,ex.2.1⟩
  ·obtain⟨o,_,_,_,e,ex,_⟩:=I.aH p _ hk;refine⟨⟨o,e,ex.1⟩,fun a e2=>?_⟩;cases e2;exact⟨o,e,ex.2.1⟩
 | _=>exact False.elim ty
def Qs(K:Frag)(T:String)(r:V→List V→Hp→VK→Prop)(to:TE)(t:TA):TE:=fun σ H Q=>to σ H fun x H1=>NS K T x H1∧t σ H1 fun xs H2=>r x xs H2 Q
variable{o e:Expr}{es:List Expr}{to:TE}{t:TA}{name:Str}{apos iK:Pos}{T id:String}{r:V→List V→Hp→VK→Prop}
theorem aaQ(pa:PlainAttrs T)(slot:Slot T name id)(TF:typeOf (.builtin id)=pure (.type "method_descriptor"))(hm:zX X id r)(ho:PE X o to)(ha:PA X (e::es) t)
  (gS:attributeBase o name X.env (eval o X.env)=eval o X.env:=by rfl)
  (UL:((backTo iK (starEach (e::es) X.env)).all (fun x=>!x.1)&&(backToKw iK (keywordEach [] X.env)).all (fun x=>x.1.isSome)
   && decide ((e::es).length+([]:List Keyword).length+(if([]:List Keyword).isEmpty then 0 else 1)<30))=true:=by rfl)
  (gR:(apos.endLine == iK.line)=true:=by rfl) (hs:starEach (e::es) X.env=(false,eval e X.env)::starEach es X.env:=by rfl) (TQ:(backTo iK (starEach es X.env)).any (·.1)=false:=by rfl) :
  PE X (.Call (.Attribute o name apos) (e::es) [] iK) (Qs X.K T r to t):=by
 intro pins s σ H Q I h;refine wpAny_Call_method_late gS UL gR rfl (aW (ho pins s σ H _ I h) fun v s1 ⟨x,H1,I1,r1,ty,q1⟩=>?_);obtain⟨h1,h2⟩:=Pa I1 r1 ty;refine⟨T,id,pa,slot,TF,h1,h2,?_⟩;have hA:=ha iK pins s1 σ H1 _ I1 q1;rw [hs]at hA ⊢;refine AL (by show(false||(backTo iK (starEach es X.env)).any (·.1))=false;rw [TQ] <;> rfl) (Calls.evalArgs_plain ?_);exact aW hA fun us s2 ⟨vs,H2,I2,r2,q2⟩=>hm pins s2 σ H2 x vs v us Q I2 r1 r2 q2
end
def MtM(X:Cx)(id:String)(r:V→List V→Hp→VK→Prop):Prop :=
 ∀(pins:List (Addr×Obj)) (s:Shared) (σ:St) (H:Hp) (x:V) (xs:List V) (v:Value) (us:List Value) (Q:VK),Inv X pins σ H s→RelV x v→Vals xs us→r x xs H Q →
  wpAny (model X.prog X.w) X.A (call (.builtin id) (v::us)) (EP X pins σ Q) X.xe s
theorem Vals.one:∀{x:V} {us:List Value},Vals [x] us→∃u,us=[u]∧RelV x u
 | _,_,.cons r .nil=>⟨_,rfl,r⟩
theorem Vals.two:∀{x y:V} {us:List Value},Vals [x,y] us→∃u v,us=[u,v]∧RelV x u∧RelV y v
 | _,_,_,.cons r (.cons q .nil)=>⟨_,_,rfl,r,q⟩
theorem Vals.zero:∀{us:List Value},Vals [] us→us=[]
 | _,.nil=>rfl
theorem Vals.reverse{xs:List V}{us:List Value}(h:Vals xs us):Vals xs.reverse us.reverse:=by
 induction h with
 | nil=>exact .nil
 | cons r t ih=>rw [EY,EY];exact Vals.append ih (.cons r .nil)
section
variable{X:Cx}{pins:List (Addr×Obj)}{σ:St}{H:Hp}{s:Shared}{l b:Addr}{xs ys zs:List V}
theorem Inv.QZ{aN its':List Value}{n:Nat}{f:Array Value→Array Value}{t':Nat}(I:Inv X pins σ H s)(hH:H l=some (.lst xs))
  (e:s.heap.get? l=some { cls := .type "list",data := .seq aN.toArray n }) (hf:f aN.toArray=its'.toArray) (hv:Vals ys its') (hz:ys.length≤sizeLine) :
  Inv X pins σ (upd H l (.lst ys)) { s with heap:=s.heap.update l (Obj.mapSeq f),toks:=t' }:=by
 have q:=PySem.IsL.update e f;rw [hf]at q;refine I.write (x:=l) (e:=l) (by rw [hH];exact trivial) (.inl rfl) (fun b' u hb hu=>(oE s.heap (Obj.mapSeq f) (bT hb)).trans hu) ⟨_,q⟩ ?_;exact⟨hz,its',_,hv,q⟩
theorem Inv.acU{aN:List Value}{t':Nat}(I:Inv X pins σ H s)(hv:Vals ys aN)(hz:ys.length≤sizeLine) :
  Inv X pins σ (upd H s.heap.objs.size (.lst ys)) { s with heap:=s.heap.push { cls := .type "list",data := .seq aN.toArray },toks:=t' } :=
 I.laid (fun _ _ q=>bP _ q) bG ⟨hz,aN,0,hv,dY _ rfl⟩
theorem Inv.fresh(I:Inv X pins σ H s):H s.heap.objs.size=none:=I.aH.fresh bG
theorem Inv.CM(I:Inv X pins σ H s)(hH:H l=some (.lst xs)):xs.length≤sizeLine∧∃(aN:List Value) (n:Nat),Vals xs aN∧xs.length=aN.length∧s.heap.get? l=some { cls := .type "list",data := .seq aN.toArray n }:=by
 obtain⟨z,aN,n,r,e⟩:=I.aH l _ hH;exact⟨z,aN,n,r,r.length,e⟩
end
section
variable{X:Cx}
def Ep:V→List V→Hp→VK→Prop:=fun x vs H Q=>∃l xs y,x = .ref l∧vs=[y]∧H l=some (.lst xs)∧xs.length<sizeLine∧Q .aZ (upd H l (.lst (xs++[y])))
theorem Fw:MtM X "list.append" Ep:=by
 intro pins s σ H x vs v us Q I rx rv h;obtain⟨l,xs,y,rfl,rfl,hH,hz,q⟩:=h;cases rx;obtain⟨u,rfl,ru⟩:=rv.one;obtain⟨z,aN,n,r,hl,e⟩:=I.CM hH;refine call_meets F.slot_list_append ⟨_,e,rfl⟩ F.entry_list_append (Mz _ _) (PySem.list_append l aN.toArray n u (by rw [hX];omega)) ⟨e,?_⟩;refine⟨.aZ,_,I.QZ (its':=aN++[u]) hH e (by simp) (r.append (.cons ru .nil)) ?_,rfl,q⟩;rw [qK,List.length_singleton];omega
def Eo:R2:=fun x y H Q=>∃l b xs zs,x = .ref l∧y = .ref b∧H l=some (.lst xs)∧H b=some (.lst zs)∧xs.length+zs.length≤sizeLine∧∀p,H p=none→Q (.ref p) (upd H p (.lst (xs++zs)))
theorem abH:fB X (binaryOp .Add) Eo:=by
 intro pins s σ H x y v u Q I rx ry h;obtain⟨l,b,xs,zs,rfl,rfl,hH,hB,hz,q⟩:=h;cases rx;cases ry;obtain⟨z,aN,n,r,hl,e⟩:=I.CM hH;obtain⟨z2,IT,n2,r2,hl2,e2⟩:=I.CM hB;refine PySem.P.add_list e e2 ?_ (by rw [hX,hX];omega);have ea:aN.toArray++IT.toArray=(aN++IT).toArray:=by simp
 rw [ea];exact⟨.ref _,_,I.acU (t':=s.toks) (r.append r2) (by rw [qK];omega),rfl,q _ I.fresh⟩
end
section
variable{κ:Type} [DecidableEq κ]
def iC(kvs:List (κ×V))(k:κ):Option V:=(kvs.find? fun kv=>decide (kv.1=k)).map (·.2)
def putK(kvs:List (κ×V))(k:κ)(v:V):List (κ×V) :=
 if(kvs.any fun kv=>decide (kv.1=k))=true then kvs.map (fun kv=>if kv.1=k then(kv.1,v)else kv)else kvs++[(k,v)]
theorem NL{p:κ×V}{r:List (κ×V)}{k:κ}(e:p.1=k):iC (p::r) k=some p.2:=by simp [iC,AE,e]
theorem NM{p:κ×V}{r:List (κ×V)}{k:κ}(e:¬p.1=k):iC (p::r) k=iC r k:=by simp [iC,AE,e]
theorem Bu(k:κ):∀kvs:List (κ×V),(kvs.any fun kv=>decide (kv.1=k))=(iC kvs k).isSome
 | []=>rfl
 | p::r=>by
  rw [ME]
  by_cases e:p.1=k
  ·simp only [NL e,wN e,Bool.true_or,Option.isSome_some]
  ·rw [NM e,lP e,Bool.false_or];exact Bu k r
theorem Gi(kvs:List (κ×V))(k:κ)(v:V):(putK kvs k v).length≤kvs.length+1:=by
 unfold putK;split
 ·rw [dN];omega
 ·rw [qK,nH,Ac];omega
theorem jX.SV{o:Option V}{u:Option Value}(r:jX o u):o.isSome=u.isSome:=by
 cases o with
 | none=>cases u with
  | none=>rfl
  | some _=>exact(show False from r).elim
 | some _=>cases u with
  | none=>exact(show False from r).elim
  | some _=>rfl
theorem jX.getD{o:Option V}{u:Option Value}{d:V}{d':Value}(r:jX o u)(rd:RelV d d'):RelV (o.getD d) (u.getD d'):=by
 cases o with
 | none=>cases u with
  | none=>exact rd
  | some _=>exact(show False from r).elim
 | some _=>cases u with
  | none=>exact(show False from r).elim
  | some _=>exact r
theorem KV.val{kvs:List (κ×V)}{vs:List (κ×Value)}(r:KV kvs vs)(k:κ):jX (iC kvs k) (valueAt vs k):=by
 unfold KV at r
 induction r with
 | nil=>exact True.intro
 | @cons p q ps qs h t ih =>
  obtain⟨h1,h2⟩:=h
  by_cases e:p.1=k
  ·have e':q.1=k:=h1.symm.trans e;have b:valueAt (q::qs) k=some q.2:=by simp [valueAt,AE,e']
   rw [NL e,b];exact h2
  ·have e':¬q.1=k:=fun z=>e (h1.trans z);have b:valueAt (q::qs) k=valueAt qs k:=by simp [valueAt,AE,e']
   rw [NM e,b];exact ih
theorem KV.any{kvs:List (κ×V)}{vs:List (κ×Value)}(r:KV kvs vs)(k:κ):(kvs.any fun kv=>decide (kv.1=k))=vs.any fun kv=>decide (kv.1=k):=by
 unfold KV at r
 induction r with
 | nil=>rfl
 | cons h t ih=>rw [ME,ME,ih,h.1]
theorem KV.QD{kvs:List (κ×V)}{vs:List (κ×Value)}(r:KV kvs vs)(k:κ){y:V}{u:Value}(ry:RelV y u) :
  KV (kvs.map fun kv=>if kv.1=k then(kv.1,y)else kv) (vs.map fun kv=>if kv.1=k then(kv.1,u)else kv):=by
 unfold KV at r ⊢
 induction r with
 | nil=>exact .nil
 | @cons p q ps qs h t ih =>
  rw [cF,cF];refine .cons ?_ ih;obtain⟨h1,h2⟩:=h
  by_cases e:p.1=k
  ·rw [if_pos e,if_pos (h1.symm.trans e)];exact⟨h1,ry⟩
  ·rw [if_neg e,if_neg (fun z=>e (h1.trans z))];exact⟨h1,h2⟩
theorem KV.put{kvs:List (κ×V)}{vs:List (κ×Value)}(r:KV kvs vs)(k:κ){y:V}{u:Value}(ry:RelV y u):KV (putK kvs k y) (stored vs k u):=by
 unfold putK stored;rw [r.any k]
 by_cases e:(vs.any fun kv=>decide (kv.1=k))=true
 ·rw [if_pos e,if_pos e];exact r.QD k ry
 ·rw [if_neg e,if_neg e];exact Paired.snoc r ⟨rfl,ry⟩
theorem KV.keys{kvs:List (κ×V)}{vs:List (κ×Value)}(r:KV kvs vs):kvs.map (·.1)=vs.map (·.1):=by
 unfold KV at r
 induction r with
 | nil=>rfl
 | cons h t ih=>rw [cF,cF,ih,h.1]
theorem KV.length{kvs:List (κ×V)}{vs:List (κ×Value)}(r:KV kvs vs):kvs.length=vs.length:=Paired.length r
end
theorem yO{P:Program}{w:World}{k:Key}{u:Value}(r:RelV (kV k) u):(eO P w).is k u=true:=by
 cases k with
 | inl i=>obtain⟨t,e⟩:=(show ∃t,u=Value.int i t from r);subst e;exact acL P w i t
 | inr x=>obtain⟨t,e⟩:=(show ∃t,u=Value.str x t from r);subst e;exact acK P w x t
theorem Gv{P:Program}{w:World}:∀{ks:List Key} {us:List Value},Vals (ks.map kV) us→ItemsAre (eO P w) ks us
 | [],_,r=>by rw [oB]at r;cases r;exact .nil
 | k::ks,_,r=>by
  rw [cF]at r;cases r with
  | cons h t=>exact .cons (yO h) (Gv t)
abbrev KT(H:Hp):List (List Key×V)→List (List Key×Addr×Value)→Prop:=Paired fun p q=>p.1=q.1∧H q.2.1=some (.tup (p.1.map kV))∧RelV p.2 q.2.2
theorem KT.val{H:Hp}{kvs:List (List Key×V)}{xs:List (List Key×Addr×Value)}(r:KT H kvs xs)(k:List Key):jX (iC kvs k) ((atKey xs k).map (·.2)):=by
 induction r with
 | nil=>exact True.intro
 | @cons p q ps qs h t ih =>
  obtain⟨h1,_,h2⟩:=h
  by_cases e:p.1=k
  ·have e':q.1=k:=h1.symm.trans e;have b:atKey (q::qs) k=some q.2:=by simp [atKey,AE,e']
   rw [NL e,b];exact h2
  ·have e':¬q.1=k:=fun z=>e (h1.trans z);have b:atKey (q::qs) k=atKey qs k:=by simp [atKey,AE,e']
   rw [NM e,b];exact ih
theorem KT.QD{H:Hp}{kvs:List (List Key×V)}{xs:List (List Key×Addr×Value)}(r:KT H kvs xs)(k:List Key){y:V}{u:Value}(ry:RelV y u) :
  KT H (kvs.map fun kv=>if kv.1=k then(kv.1,y)else kv) (xs.map (putAt k u)):=by
 induction r with
 | nil=>exact .nil
 | @cons p q ps qs h t ih =>
  rw [cF,cF];refine .cons ?_ ih;obtain⟨h1,h2,h3⟩:=h;unfold putAt
  by_cases e:p.1=k
  ·rw [if_pos e,if_pos (h1.symm.trans e)];exact⟨h1,h2,ry⟩
  ·rw [if_neg e,if_neg (fun z=>e (h1.trans z))];exact⟨h1,h2,h3⟩
theorem KT.put{H:Hp}{kvs:List (List Key×V)}{xs:List (List Key×Addr×Value)}(r:KT H kvs xs)(k:List Key){b:Addr}{y:V}{u:Value}(hb:H b=some (.tup (k.map kV)))(ry:RelV y u) :
  KT H (putK kvs k y) (storedH xs k b u):=by
 have e:(kvs.any fun kv=>decide (kv.1=k))=(atKey xs k).isSome:=by
  rw [Bu,(r.val k).SV,Option.isSome_map]
 unfold putK storedH;rw [e]
 by_cases q:(atKey xs k).isSome=true
 ·rw [if_pos q,if_pos q];exact r.QD k ry
 ·rw [if_neg q,if_neg q];exact Paired.snoc r ⟨rfl,hb,ry⟩
theorem KT.keeps{H H':Hp}{kvs:List (List Key×V)}{xs:List (List Key×Addr×Value)}(r:KT H kvs xs)(ht:∀b ys,H b=some (.tup ys)→H' b=some (.tup ys)):KT H' kvs xs :=
 Paired.vC r fun _ _ z=>⟨z.1,ht _ _ z.2.1,z.2.2⟩
section
variable{P:Program}{w:World}{H:Hp}{h:Heap}{a:Addr}
theorem Ee{u:HO}(ok:dO P w H h)(e:Rd H a u):eV P w H h a u:=e.ok ok
theorem wL{kvs:List (Key×V)}(ok:dO P w H h)(e:Rd H a (.dK kvs)):kvs.length≤sizeLine∧(a == sysModules)=false∧∃vs,KV kvs vs∧h.DictOf (eO P w) a vs :=
 show eV P w H h a (.dK kvs)from Ee ok e
theorem wM{kvs:List (Key×V)}(ok:dO P w H h)(e:H a=some (.dK kvs)):kvs.length≤sizeLine∧(a == sysModules)=false∧∃vs,KV kvs vs∧h.DictOf (eO P w) a vs:=wL ok (.inl e)
theorem CO{ks:List Key}(ok:dO P w H h)(e:H a=some (.tup (ks.map kV))):(tupleKind (eO P w)).is h ks a:=by
 obtain⟨_,aN,r,o,h1,h2,n,h3⟩:=(show eV P w H h a (.tup (ks.map kV))from ok a _ e);exact⟨o,aN.toArray,n,h1,h2,h3,by simpa using Gv r⟩
theorem zI{kvs:List (List Key×V)}(ok:dO P w H h)(e:Rd H a (.dT kvs)):kvs.length≤sizeLine∧(a == sysModules)=false ∧
  ∃xs,KT H kvs xs∧h.DictOfH (tupleKind (eO P w)) a xs:=by
 obtain⟨z,y,xs,r,o,es,ep,h1,h2,h3,h4,h5⟩:=(show eV P w H h a (.dT kvs)from Ee ok e);refine⟨z,y,xs,r,o,es,ep,h1,h2,h3,h4,fun x hx=>?_,h5⟩;have all:∀{l:List (List Key×V)} {m:List (List Key×Addr×Value)},KT H l m→∀x∈m,(tupleKind (eO P w)).is h x.1 x.2.1:=by
  intro l m q
  induction q with
  | nil=>intro x hx;exact nomatch hx
  | @cons p q ps qs hq t ih =>
   intro x hx
   rcases dG.mp hx with e | hx
   ·subst e;exact CO ok (by rw [← hq.1];exact hq.2.1)
   ·exact ih x hx
 exact all r x hx
theorem ahO{kvs:List (List Key×V)}(ok:dO P w H h)(e:H a=some (.dT kvs)):kvs.length≤sizeLine∧(a == sysModules)=false ∧
  ∃xs,KT H kvs xs∧h.DictOfH (tupleKind (eO P w)) a xs:=zI ok (.inl e)
end
def lF(H:Hp)(a:Addr)(y:V)(r:Option V):Prop :=
 (∃kvs k,Rd H a (.dK kvs)∧y=kV k∧r=iC kvs k)∨∃kvs k b,Rd H a (.dT kvs)∧y = .ref b∧H b=some (.tup (k.map kV))∧r=iC kvs k
def xM(H:Hp)(a:Addr)(y v:V)(H':Hp):Prop :=
 (∃kvs k,H a=some (.dK kvs)∧y=kV k∧kvs.length<sizeLine∧H'=upd H a (.dK (putK kvs k v))) ∨
 ∃kvs k b,H a=some (.dT kvs)∧y = .ref b∧H b=some (.tup (k.map kV))∧kvs.length<sizeLine∧H'=upd H a (.dT (putK kvs k v))
theorem lF.k{H:Hp}{a:Addr}{kvs:List (Key×V)}{k:Key}(e:H a=some (.dK kvs)):lF H a (kV k) (iC kvs k) := .inl ⟨kvs,k,.inl e,rfl,rfl⟩
theorem lF.t{H:Hp}{a b:Addr}{kvs:List (List Key×V)}{k:List Key}(e:H a=some (.dT kvs))(eb:H b=some (.tup (k.map kV))):lF H a (.ref b) (iC kvs k) := .inr ⟨kvs,k,b,.inl e,rfl,eb,rfl⟩
theorem xM.k{H:Hp}{a:Addr}{kvs:List (Key×V)}{k:Key}{v:V}(e:H a=some (.dK kvs))(hl:kvs.length<sizeLine):xM H a (kV k) v (upd H a (.dK (putK kvs k v))) := .inl ⟨kvs,k,e,rfl,hl,rfl⟩
theorem xM.t{H:Hp}{a b:Addr}{kvs:List (List Key×V)}{k:List Key}{v:V}(e:H a=some (.dT kvs))(eb:H b=some (.tup (k.map kV)))(hl:kvs.length<sizeLine) :
  xM H a (.ref b) v (upd H a (.dT (putK kvs k v))) := .inr ⟨kvs,k,b,e,rfl,eb,hl,rfl⟩
section
variable{X:Cx}{pins:List (Addr×Obj)}{σ:St}{H:Hp}{s:Shared}{a:Addr}{y v:V}{u r:Value}{o:Option V}{A:Around}{E:Value→Shared→Prop}
theorem Inv.big(I:Inv X pins σ H s):sysModules<s.heap.objs.size:=by
 have h:mainGlobals<s.heap.objs.size:=(I.mod.glob.keeps I.bk).lt;exact ZJ (by decide) h
theorem ah2{Q:Value→Shared→Prop}(hu:A.units+1<cLine)(I:Inv X pins σ H s)(g:lF H a y (some v))(ry:RelV y u)(h:∀w' s',Inv X pins σ H s'→RelV v w'→Q w' s') :
  wpAny (model X.prog X.w) A (getItem (.ref a) u) Q E s:=by
 rcases g with⟨kvs,k,e,ey,l⟩ | ⟨kvs,k,b,e,ey,eb,l⟩
 ·subst ey;obtain⟨z,hd,vs,rel,dd⟩:=wL I.aH e;obtain⟨w',hw,oM⟩:=jX.some_of (v:=v) (o:=valueAt vs k) (by rw [l];exact rel.val k);exact wpAny_getItem_of (yO ry) dd.mapOf hw (h w' _ (I.tok _) oM)
 ·subst ey;cases(show u=Value.ref b from ry);obtain⟨z,hd,xs,rel,dd⟩:=zI I.aH e;obtain⟨w',hw,oM⟩:=jX.some_of (v:=v) (o:=(atKey xs k).map (·.2)) (by rw [l];exact rel.val k);obtain⟨p,hp,hp2⟩:=sA.mp hw;refine wpAny_getItem_heap (NW hu) (CO I.aH eb) dd hp ?_;rw [hp2];exact h w' _ (I.tok _) oM
theorem ahZ{Q:Value→Shared→Prop}(hu:A.units+1<cLine)(I:Inv X pins σ H s)(g:lF H a y o)(ry:RelV y u)(h:∀s',Inv X pins σ H s'→Q (.bool (!o.isSome)) s') :
  wpAny (model X.prog X.w) A (compareOp .NotIn u (.ref a)) Q E s:=by
 rcases g with⟨kvs,k,e,ey,l⟩ | ⟨kvs,k,b,e,ey,eb,l⟩
 ·subst ey;obtain⟨z,hd,vs,rel,dd⟩:=wL I.aH e;refine wpAny_notIn_of (yO ry) hd dd.mapOf ?_;rw [← (rel.val k).SV,← l];exact h _ (I.tok _)
 ·subst ey;cases(show u=Value.ref b from ry);obtain⟨z,hd,xs,rel,dd⟩:=zI I.aH e;refine wpAny_notIn_heap (NW hu) (CO I.aH eb) hd dd ?_;have q:=(rel.val k).SV;rw [Option.isSome_map]at q;rw [← q,← l];exact h _ (I.tok _)
theorem Kc{h':Heap}{t':Nat}{ob:HO}(I:Inv X pins σ H s)(mu:EW (H a))(hs:Heap.SameBut a s.heap h')(he:∃q,h'.get? a=some q)(new:eV X.prog X.w (upd H a ob) h' a ob) :
  Inv X pins σ (upd H a ob) { s with heap:=h',toks:=t' } :=
 I.write (x:=a) (e:=a) mu (.inl rfl) (fun b q hb z=>(hs.2 b hb).trans z) he new
theorem Ju{P:Program}{w:World}{H':Hp}{h':Heap}{kvs:List (Key×V)}{vs:List (Key×Value)}(z:kvs.length≤sizeLine)(hd:(a == sysModules)=false)(rel:KV kvs vs)(dd:h'.DictOf (eO P w) a vs) :
  eV P w H' h' a (.dK kvs):=⟨z,hd,vs,rel,dd⟩
theorem ahY{H':Hp}{Q:Unit→Shared→Prop}(hu:A.units+1<cLine)(I:Inv X pins σ H s)(g:xM H a y v H')(ry:RelV y u)(rv:RelV v r)(h:∀s',Inv X pins σ H' s'→Q () s') :
  wpAny (model X.prog X.w) A (setItem (.ref a) u r) Q E s:=by
 rcases g with⟨kvs,k,e,ey,l,eH⟩ | ⟨kvs,k,b,e,ey,eb,l,eH⟩
 ·subst ey eH;obtain⟨z,hd,vs,rel,dd⟩:=wM I.aH e;have hz:vs.length≤sizeLine:=by rw [← rel.length];exact z
  have hl:(putK kvs k v).length≤sizeLine:=by have:=Gi kvs k v;omega
  refine wpAny_setItem_pairs (hsz:=hz) (yO ry) dd fun h' KJ hs=>h _ ?_;have he:∃q,h'.get? a=some q:=let ⟨q,_,_,hq,_⟩:=KJ; ⟨q,hq⟩;exact Kc I (by rw [e];exact True.intro) hs he (Ju hl hd (rel.put k rv) KJ)
 ·subst ey eH;cases(show u=Value.ref b from ry);obtain⟨z,hd,xs,rel,dd⟩:=ahO I.aH e;have hz:xs.length≤sizeLine:=by rw [← Paired.length rel];exact z
  have hl:(putK kvs k v).length≤sizeLine:=by have:=Gi kvs k v;omega
  refine wpAny_setItem_heap (hsz:=hz) (NW hu) (CO I.aH eb) dd fun h' KJ hs=>h _ ?_;obtain⟨q,es,ep,hq,h2,h3,h4,_,h5⟩:=KJ;refine Kc I (by rw [e];exact True.intro) hs ⟨q,hq⟩ ⟨hl,hd,_,(rel.put k eb rv).keeps fun c ys ec=>?_,q,es,ep,hq,h2,h3,h4,h5⟩;rw [aT (pQ ec e (fun z=>nomatch z))];exact ec
end
section
variable{X:Cx}{pins:List (Addr×Obj)}{σ:St}{H:Hp}{s:Shared}{a:Addr}{kvs:List (Key×V)}{k:Key}{u:Value}{A:Around}{E:Value→Shared→Prop}
theorem ah0{Q:Value→Shared→Prop}(I:Inv X pins σ H s)(e:Rd H a (.dK kvs))(h:∀t s',Inv X pins σ H s'→Q (.int kvs.length t) s'):wpAny (model X.prog X.w) A (call (.builtin "len") [.ref a]) Q E s:=by
 obtain⟨z,hd,vs,rel,dd⟩:=wL I.aH e;refine call_len_dict hd dd (by rw [← rel.length];rw [kP]at z;omega) ?_;rw [← rel.length];exact h _ _ (I.tok _)
end
def ZI(i:Expr):Prop:=∀ov iv,subscripted i false ov iv=operate [ov,iv] (getItem ov iv)
theorem Vo{prog:Program}{w:World}{A:Around}{E:Value→Shared→Prop}{s:Shared}{env:Env}{value slice:Expr}{pos:Pos}{T id:String}{Q:Value→Shared→Prop}
  (hl:typeLookup (.type T) "__getitem__" = pure (some (.builtin id))) (hs:ZI slice)
  (h:wpAny (model prog w) A (eval value env) (fun o s₁=>wpAny (model prog w) A (eval slice env) (fun i s₂=>s₂.TypeIs o T∧wpAny (model prog w) A (getItem o i) Q E s₂) E s₁) E s) :
  wpAny (model prog w) A (eval (.Subscript value slice pos) env) Q E s:=by
 refine Subscript_ (jM h (fun o s₁ h₁=>jM h₁ (fun i s₂ h₂=>?_) fun _ _ x=>x) fun _ _ x=>x);obtain⟨hT,h₂⟩:=h₂;unfold subscriptTail;refine aF ?_;rw [getitemInPython_of_ne hT.not_modules];refine aF (wpAny_specialOf hT hl ?_);have fin:wpAny (model prog w) A (subscripted slice false o i) (fun r s₃=>wpAny (model prog w) A (letTemporaryGo value o r >>= fun _=>pure r) Q E s₃) E s₂:=by
  rw [hs o i];exact wpAny_operating (jM h₂ (fun r s₃ h₃=>aF (wpAny_letTemporaryGo (aS h₃))) fun _ _ x=>x)
 first
  | exact aS (aF fin)
  | exact aF (aS (aF fin))
  | exact aF fin
theorem ahU{X:Cx}{pins:List (Addr×Obj)}{σ:St}{H:Hp}{s:Shared}{a:Addr}{y:V}{o:Option V}(I:Inv X pins σ H s)(g:lF H a y o):s.TypeIs (.ref a) "dict":=by
 rcases g with⟨kvs,k,e,_,_⟩ | ⟨kvs,k,b,e,_,_,_⟩
 ·obtain⟨_,_,vs,_,dd⟩:=wL I.aH e;exact dd.typeIs
 ·obtain⟨_,_,xs,_,dd⟩:=zI I.aH e;exact dd.typeIs
def Qq(td ty:TE):TE:=fun σ H Q=>td σ H fun x H1=>ty σ H1 fun y H2=>∃a v,x = .ref a∧lF H2 a y (some v)∧Q v H2
def Qo(ty td:TE):TE:=fun σ H Q=>ty σ H fun y H1=>td σ H1 fun x H2=>∃a o,x = .ref a∧lF H2 a y o∧Q (.bl o.isSome) H2
def Ct(ty td:TE):TE:=fun σ H Q=>ty σ H fun y H1=>td σ H1 fun x H2=>∃a o,x = .ref a∧lF H2 a y o∧Q (.bl (!o.isSome)) H2
def Xd(td ty tv:TE):TS:=fun D σ H=>tv σ H fun v H1=>td σ H1 fun x H2=>ty σ H2 fun y H3=>∃a H4,x = .ref a∧xM H3 a y v H4∧D.nx σ H4
section
variable{X:Cx}{o i e value:Expr}{pos pos' Pm:Pos}{td ty tv:TE}
theorem aaM(hu:X.A.units+1<cLine)(ho:PE X o td)(hi:PE X i ty)(hs:ZI i):PE X (.Subscript o i pos) (Qq td ty):=by
 intro pins s σ H Q I h;refine Vo PySem.F.slot_dict_getitem.lookup hs (aW (ho pins s σ H _ I h) fun u s1 ⟨x,H1,I1,rx,q1⟩=>aW (hi pins s1 σ H1 _ I1 q1) fun iv s2 ⟨y,H2,I2,ry,a,v,ex,g,q2⟩=>?_);subst ex;obtain rfl:u=Value.ref a:=rx;exact⟨ahU I2 g,ah2 hu I2 g ry fun w' s3 I3 oM=>⟨v,H2,I3,oM,q2⟩⟩
theorem aaV(hu:X.A.units+1<cLine)(hi:PE X i ty)(ho:PE X o td):PC X .NotIn i o (Ct ty td):=by
 intro pins s σ H Q I h;refine aW (hi pins s σ H _ I h) fun iv s1 ⟨y,H1,I1,ry,q1⟩=>aW (ho pins s1 σ H1 _ I1 q1) fun u s2 ⟨x,H2,I2,rx,a,ov,ex,g,q2⟩=>?_;subst ex;obtain rfl:u=Value.ref a:=rx;exact ahZ hu I2 g ry fun s3 I3=>⟨.bl (!ov.isSome),H2,I3,rfl,q2⟩
theorem Zf(hu:X.A.units+1<cLine)(ho:PE X o td)(hi:PE X i ty)(hv:PE X value tv)(hs:swapsWith value (some (.Subscript o i pos')) pos.line X.env=pure false) :
  PS X (.Assign [.Subscript o i pos'] value pos) (Xd td ty tv):=by
 intro pins s σ H D I h;refine wpAny_Assign_Subscript (aW (hv pins s σ H _ I h) fun r s1 ⟨v,H1,I1,rv,q1⟩=>aW (ho pins s1 σ H1 _ I1 q1) fun u s2 ⟨x,H2,I2,rx,q2⟩=>aW (hi pins s2 σ H2 _ I2 q2) fun iv s3 ⟨y,H3,I3,ry,a,H4,ex,g,q3⟩=>?_) hs;subst ex;obtain rfl:u=Value.ref a:=rx;exact ahY hu I3 g ry rv fun s4 I4=>⟨σ,H4,I4,q3⟩
end
theorem ahS{P:Program}{w:World}{H:Hp}(h:Heap)(hb:sysModules<h.objs.size):eV P w H (h.push { cls := .type "dict",data := .dict #[] }) h.objs.size (.dK []) :=
 ⟨zV _,qF.mpr (bT (cK hb)),[],.nil,Heap.DictOf.new h⟩
def Qn:TE:=fun _ H Q=>∀p,H p=none→Q (.ref p) (upd H p (.dK []))
section
variable{X:Cx}{pos:Pos}
theorem aaK:PE X (.Dict [] [] pos) Qn:=fun pins s σ H Q I h =>
 wpAny_Dict_empty ⟨.ref s.heap.objs.size,_,I.laid (a:=s.heap.objs.size) (o := .dK []) (t':=s.toks) (fun _ _ q=>bP _ q) bG (ahS s.heap I.big),rfl,h _ (I.aH.fresh bG)⟩
end
structure M1(X:Cx)(o:Expr)(m:Str)(apos:Pos)(e:Expr)(iK:Pos):Prop where
 base:attributeBase o m X.env (eval o X.env)=eval o X.env
 Ji:((backTo iK (starEach [e] X.env)).all (fun x=>!x.1)&&(backToKw iK (keywordEach [] X.env)).all (fun x=>x.1.isSome)
  && decide (([e]:List Expr).length+([]:List Keyword).length+(if([]:List Keyword).isEmpty then 0 else 1)<30))=true
 line:(apos.endLine == iK.line)=true
 trees:backTo iK (starEach [e] X.env)=[(false,eval e X.env)]
structure M2(X:Cx)(o:Expr)(m:Str)(apos:Pos)(e f:Expr)(iK:Pos):Prop where
 base:attributeBase o m X.env (eval o X.env)=eval o X.env
 Ji:((backTo iK (starEach [e,f] X.env)).all (fun x=>!x.1)&&(backToKw iK (keywordEach [] X.env)).all (fun x=>x.1.isSome)
  && decide (([e,f]:List Expr).length+([]:List Keyword).length+(if([]:List Keyword).isEmpty then 0 else 1)<30))=true
 line:(apos.endLine == iK.line)=true
 trees:backTo iK (starEach [e,f] X.env)=[(false,eval e X.env),(false,eval f X.env)]
def Mt(H:Hp)(a:Addr):Prop:=(∃kvs,Rd H a (.dK kvs))∨∃kvs,Rd H a (.dT kvs)
theorem vH{X:Cx}{pins:List (Addr×Obj)}{σ:St}{H:Hp}{s:Shared}{a:Addr}(I:Inv X pins σ H s)(d:Mt H a) :
  s.TypeIs (.ref a) "dict"∧(∀b,Value.ref a = .ref b→∃ob,s.heap.get? b=some ob∧ob.dict=none)∧(a == sysModules)=false:=by
 rcases d with⟨kvs,e⟩ | ⟨kvs,e⟩
 ·obtain⟨_,hd,vs,_,dd⟩:=wL I.aH e;refine⟨dd.typeIs,fun b q=>?_,hd⟩;cases q;obtain⟨ob,_,_,h1,h2,_⟩:=dd;exact⟨ob,h1,h2.2.1⟩
 ·obtain⟨_,hd,xs,_,dd⟩:=zI I.aH e;refine⟨dd.typeIs,fun b q=>?_,hd⟩;cases q;obtain⟨ob,_,_,h1,h2,_⟩:=dd;exact⟨ob,h1,h2.2.1⟩
section
variable{X:Cx}{pins:List (Addr×Obj)}{σ:St}{H:Hp}{s:Shared}{a:Addr}{y d:V}{u r:Value}{o:Option V}{A:Around}{E:Value→Shared→Prop}
theorem ah3{Q:Value→Shared→Prop}(hu:A.units+1<cLine)(I:Inv X pins σ H s)(g:lF H a y o)(ry:RelV y u)(rd:RelV d r)(h:∀w' s',Inv X pins σ H s'→RelV (o.getD d) w'→Q w' s') :
  wpAny (model X.prog X.w) A (call (.builtin "dict.get") [.ref a,u,r]) Q E s:=by
 rcases g with⟨kvs,k,e,ey,l⟩ | ⟨kvs,k,b,e,ey,eb,l⟩
 ·subst ey;obtain⟨z,hd,vs,rel,dd⟩:=wL I.aH e;refine zP PySem.F.slot_dict_get dd.typeIs PySem.F.entry_dict_get (PySem.F.args_dict_get_3 _ _ _) (meets_dict_get_default (eO X.prog X.w) a (yO ry) hd r) ⟨_,dd.mapOf,h _ _ (I.tok _) ?_⟩;rw [l];exact(rel.val k).getD rd
 ·subst ey;cases(show u=Value.ref b from ry);obtain⟨z,hd,xs,rel,dd⟩:=zI I.aH e;refine zP PySem.F.slot_dict_get dd.typeIs PySem.F.entry_dict_get (PySem.F.args_dict_get_3 _ _ _) (meetsH_dict_get_default (tupleKind (eO X.prog X.w)) a b hd r) ⟨NW hu,k,xs,CO I.aH eb,dd,h _ _ (I.tok _) ?_⟩;rw [l];exact(rel.val k).getD rd
end
def Qp(td ty tx:TE):TE:=fun σ H Q=>td σ H fun x H1=>∃a,x = .ref a∧Mt H1 a∧ty σ H1 fun y H2=>tx σ H2 fun z H3=>∃o,lF H3 a y o∧Q (o.getD z) H3
section
variable{X:Cx}{o e f:Expr}{apos iK:Pos}{td ty tx:TE}
theorem aaL(hu:X.A.units+1<cLine)(ho:PE X o td)(he:PE X e ty)(hf:PE X f tx)(m:M2 X o "get" apos e f iK):PE X (.Call (.Attribute o "get" apos) [e,f] [] iK) (Qp td ty tx):=by
 intro pins s σ H Q I h;refine wpAny_Call_method m.base m.Ji m.line PySem.F.plainAttrs_dict PySem.F.slot_dict_get PySem.F.type_dict_get (aW (ho pins s σ H _ I h) fun u s1 ⟨x,H1,I1,rx,a,ex,d,q1⟩=>?_);subst ex;obtain rfl:u=Value.ref a:=rx;obtain⟨t1,t2,_⟩:=vH I1 d;refine⟨t1,t2,?_⟩;rw [m.trees];refine AL rfl (Calls.evalArgs_plain (AK (aW (he pins s1 σ H1 _ I1 q1) fun iv s2 ⟨y,H2,I2,ry,q2⟩ =>
  AK (aW (hf pins s2 σ H2 _ I2 q2) fun fv s3 ⟨z,H3,I3,rz,ov,g,q3⟩=>FW ?_))))
 exact ah3 hu I3 g ry rz fun w' s4 I4 oM=>⟨_,H3,I4,oM,q3⟩
end
end L2
namespace Nf
open PySem PySem.W PySem.Calls PyProof.Rows
theorem ad3{P:Params}{h:Heap}:∀(ns:List Int) (vs:List Value),WellAll P h vs (ns.map WData.int)→IntsAre vs ns:=by
 intro ns
 induction ns with
 | nil =>
  intro vs w;rw [oB]at w;cases w;exact .nil
 | cons n ns ih =>
  intro vs w;rw [cF]at w;cases w with
  | cons a b =>
   cases a;exact .cons _ _ (ih _ b)
theorem Wk{l:OpenLaw}{n:Nat}(hn:l.most=some n){P:Params}{h:Heap}{args:List WData}{vals:List Value}
  (JA:l.row.toRowW.claim.pre args=true) (mY:WellAll P h vals args) :
  ∃a vs ns,vals=[Value.ref a]∧args=[WData.list (ns.map WData.int)]∧h.get? a=some { cls := .type "list",data := .seq vs.toArray }∧IntsAre vs ns∧ns.length≤n:=by
 have hsh:WShape.hasAll [] args [.list .int]=true:=(pre_splitW JA).1;have hc:l.pre.holds [] { args:=args }=true:=(pre_splitW JA).2;obtain⟨d,r,rfl,h1,h2⟩:=hasAllW_cons hsh;obtain rfl:=hasAllW_nil h2;obtain⟨xs,rfl,h3⟩:=hasW_list h1;obtain⟨ns,rfl⟩:=items_int h3;have hlen:ns.length≤n:=by
  unfold OpenLaw.pre at hc;have h4:(WTm.not (.lt (.lit (.int (n:Int))) (.len (.arg 0)))).holds [] { args:=[.list (ns.map .int)] }=true:=by
   have h4:=(holds_andW hc).1;rw [hn]at h4;exact h4
  have h5:=condW_of h4 (w_not (w_lt w_lit (w_len_list (w_arg rfl))));rw [dN]at h5;refine ZM fun q=>?_;have q':(n:Int)<((ns.length:Nat):Int):=by omega
  first
   | (rw [wN q']at h5;exact absurd h5 (by decide))
   | (simp at h5;omega)
 cases mY with
 | cons w1 w2 =>
  cases w2;cases w1 with
  | list ho yZ=>exact⟨_,_,ns,rfl,rfl,ho,ad3 ns _ yZ,hlen⟩
theorem Zg(l:OpenLaw)(args:List WData):l.row.toRowW.claim.post args (.bool true) args=true :=
 postW_of (r:=l.row.toRowW) (X:=(true == true))
  (show WShape.has [] (.bool true) .bool=true by first | rfl | decide | simp [WShape.has,WShape.arms,WShape.armsAll])
  (show(WTm.eq .res (.lit (.bool true))).value [] { args:=args,res:=some (.bool true),after:=args }=some (.bool (true == true))from w_eq_bool (w_res rfl) w_lit) rfl
theorem aj9{l:OpenLaw}{n:Nat}{q:Program}{loose:List Str}{XP:(Str→Option Value)→Heap→Prop}{YP:World→Heap→Prop}{d:DefRec}
  (hn:l.most=some n) (DL:d.params.defaults=[])
  (call:∀(w:World) (s₀ s₁:Shared) (mg mb:Str→Option Value) (fa:Addr) (o:Obj) (pm cd doc:Value) (a:Addr) (vs:List Value) (ns:List Int),
   Ground q loose [] XP w s₀ mg mb s₁.heap→YP w s₁.heap →
   s₁.heap.get? fa=some o→o.data = .func (docDef d.name d.params d.body d.scope pm cd doc)→s₁.heap.CodeRec cd d.name→mg d.name=some (.ref fa) →
   s₁.heap.get? a=some { cls := .type "list",data := .seq vs.toArray }→IntsAre vs ns→ns.length≤n→s₁.gens = #[] →
   codeAny (model l.prog w) callerA (.call (.ref fa) ⟨[.ref a],[]⟩) (fun r s'=>r = .ok (.ret (.bool true))∧OldK s₁.heap s'.heap∧s'.os=s₁.os∧AllBare s'.gens) s₁) :
  WalkO q loose XP YP l.row.toRowW d [] (fun f vs=>PySem.call f vs):=by
 intro w s₀ s₁ mg mb G Y fa o pm cd doc dV kV ho hd jE hD DA hg args vals as JA am5 hrd mY hlo;obtain rfl:dV = .none:=Dflts.none hD DL;obtain rfl:kV = .none:=Dflts.noKw hD;obtain⟨a,vs,ns,rfl,rfl,TR,hints,hlen⟩:=Wk hn JA mY;refine enter_call (rX (call w s₀ s₁ mg mb fa o pm cd doc a vs ns G Y ho (fd_plain hd) jE DA TR hints hlen hg) fun r s' hq=>?_);obtain⟨rfl,h2,h3,h4⟩:=hq;exact⟨.inl ⟨.bool true,.bool true,[],rfl,fun _=>rfl,.bool true,Zg l _,fun _=>⟨List.Pairwise.nil,fun _ hm=>(nomatch hm)⟩⟩,h2,h3,h4⟩
section
variable{prog:Program}{w:World}{A:Around}{E:Value→Shared→Prop}{s:Shared}{K:Frag}
def ledger(h:Heap)(L d:Addr):List (Addr×Obj):=(List.range h.objs.size).filterMap fun a=>if a=L∨a=d then none else(h.get? a).map fun o=>(a,o)
end
end Nf
namespace L2
open PySem PySem.Spec PyProof.Rows
theorem NK:∀{vs:List Value} {ns:List Int},IntsAre vs ns→Vals (ns.map V.int) vs
 | _,_,.nil => .nil
 | _,_,.cons n t h => .cons ⟨t,rfl⟩ (NK h)
def ZH(H:Hp):Prop:=∀b,H b=none∨∃o xs,H b=some (.bW o (.lst xs))
theorem ac6{P:Program}{w:World}{K:Frag}{mg mb:Str→Option Value}{CX:mO}{k:Nat}{fa a:Addr}{fd:FuncData}{x:Str}{sp:Sp}{s₁:Shared}{vs:List Value}{ns:List Int}
  (KX:K.In s₁.heap) (TV:s₁.heap.Ns mainGlobals mg) (hb:s₁.heap.Ns builtinsNs mb) (hbb:∀x:Str,x ≠ "__name__"→mb x=bootBuiltins x) (ae6:s₁.heap.NoLimit) (hg:s₁.gens = #[])
  (ha:s₁.heap.get? a=some { cls := .type "list",data := .seq vs.toArray }) (hi:IntsAre vs ns) (hl:ns.length≤sizeLine) (hr:bN k callerA)
  (F:∀base:Heap,K.In base→base.Ns mainGlobals mg→fQ P w K mg base CX k fa fd [x] sp) (afW:∀(s:Shared) (u:Value),BindsTo s fd ⟨[u],[]⟩ [(x,u)])
  (iH:∀H:Hp,ZH H→eE K H a (ns.map V.int)→sp [.ref a] H (fun v _=>v = .bl true) fun _ _ _=>False)
  (VC:∀H e s',CX [] H s₁ (fun _ _ _=>False) e s'→False) :
  codeAny (model P w) callerA (.call (.ref fa) ⟨[.ref a],[]⟩) (fun r s'=>r = .ok (.ret (.bool true))∧OldK s₁.heap s'.heap∧s'.os=s₁.os∧AllBare s'.gens) s₁:=by
 have rv:=NK hi;have ac0:=hi.length;have core:∀H:Hp,ZH H→eE K H a (ns.map V.int)→dO P w H s₁.heap→(∀b,H b≠none→b=a)→(H a≠none→K.lookup a=none) →
   codeAny (model P w) callerA (.call (.ref fa) ⟨[.ref a],[]⟩) (fun r s'=>r = .ok (.ret (.bool true))∧OldK s₁.heap s'.heap∧s'.os=s₁.os∧AllBare s'.gens) s₁:=by
  intro H hO hS aH hA hK;have Lc:∀{b:Addr} {o:Obj},s₁.heap.get? b=some o→H b=none→(rL s₁.heap H).get? b=some o:=fun e n=>afC e n;have CG:∀{b:Addr} {o:Obj} {es:Array DictEntry} {ep:Nat},s₁.heap.get? b=some o→o.data = .dict es ep→H b=none:=fun{b o es ep} e d=>by
   cases q:H b with
   | none=>rfl
   | some u =>
    have e':b=a:=hA b (by rw [q];simp);subst e';rw [ha]at e;cases e;have d':Data.seq vs.toArray _=Data.dict es ep:=d;cases d'
  have IA:∀{b:Addr} {m:Str→Option Value},s₁.heap.Ns b m→(rL s₁.heap H).Ns b m:=fun{b m} ⟨o,es,ep,e,d,r⟩=>⟨o,es,ep,Lc e (CG e d),d,r⟩
  have Iq:K.In (rL s₁.heap H):=fun b o e=>Lc (KX b o e) (by
   cases q:H b with
   | none=>rfl
   | some u =>
    have e':b=a:=hA b (by rw [q];simp);subst e';rw [hK (by rw [q];simp)]at e;cases e)
  have hM:Mod K mg (rL s₁.heap H):=⟨Iq,IA TV,⟨mb,IA hb,hbb⟩,let ⟨mc,h1,h2⟩:=ae6; ⟨mc,IA h1,h2⟩⟩;have e0:xK P w K mg (rL s₁.heap H) callerA [] s₁ H:=⟨rfl,hM,fun b o e=>abL e,Nat.le_of_eq (afB _ _),trivial,fun b hb=>absurd (show b∈([]:List Addr)from hb) (by simp),aH,.of_eq hg⟩;refine rX ((F _ Iq (IA TV)).run callerA [] s₁ H ⟨[.ref a],[]⟩ [.ref a] [.ref a] _ _ hr e0 (afW s₁ (.ref a)) (.cons rfl .nil) (iH H hO hS)) fun r s' h=>?_;cases r with
  | error e=>exact(VC H e s' h).elim
  | ok fl =>
   cases fl with
   | next=>exact False.elim h
   | brk=>exact False.elim h
   | cont=>exact False.elim h
   | ret u =>
    obtain⟨v,H',os,bare,un,CY,r',q⟩:=h;have q':v = .bl true:=q;subst q';obtain rfl:u=Value.bool true:=r';refine⟨rfl,OldK.of_keep fun b o e=>?_,os,bare⟩;cases q:H b with
    | none=>exact un.keep b o e q (by intro z;exact absurd (show b∈([]:List Addr)from z) (by simp)) (by simp)
    | some u =>
     rcases hO b with z | ⟨ob,xs,z⟩
     ·rw [q]at z;cases z
     ·have z2:=un.iJ b ob _ z;obtain⟨e1,_⟩:=aH b _ z;obtain⟨e2,_⟩:=CY b _ z2;rw [e]at e1;cases e1;exact e2
 cases hk:K.lookup a with
 | some o =>
  have e:=KX a o hk;rw [ha]at e;cases e;refine core (fun _=>none) (fun _ => .inl rfl) (.inr ⟨_,vs.toArray,_,hk,rfl,rfl,rfl,by rw [hX,ac0];exact hl,by simpa using rv⟩) (fun b u z=>by have z':(none:Option HO)=some u:=z;cases z') (fun b z=>absurd rfl z) fun z=>absurd rfl z
 | none =>
  refine core (fun b=>if b=a then some (.bW { cls := .type "list",data := .seq vs.toArray } (.lst (ns.map V.int)))else none) (fun b=>?_) (.inl (.inr ⟨{ cls := .type "list",data := .seq vs.toArray },if_pos rfl⟩)) (fun b u z=>?_) (fun b z=>?_) fun _=>hk
  ·by_cases hb:b=a
   ·exact .inr ⟨_,_,if_pos hb⟩
   ·exact .inl (if_neg hb)
  ·by_cases hb:b=a
   ·have z':=(if_pos hb).symm.trans z;cases z';subst hb;exact⟨ha,by rw [dN];exact hl,vs,_,rv,ha⟩
   ·have z':=(if_neg hb).symm.trans z;cases z'
  ·by_cases hb:b=a
   ·exact hb
   ·exact absurd (if_neg hb) z
theorem Np{l:OpenLaw}{n k:Nat}{q:Program}{loose:List Str}{XP:(Str→Option Value)→Heap→Prop}{YP:World→Heap→Prop}{d:DefRec}{K:Params→Frag}{CX:World→mO}{sp:World→Sp}{x:Str}
  (hn:l.most=some n) (yT:n≤sizeLine) (DL:d.params.defaults=[]) (hr:bN k callerA)
  (hY:∀(w:World) (h:Heap),YP w h→(K w.params).In h)
  (F:∀(w:World) (mg:Str→Option Value) (fa:Addr) (h:Heap),(K w.params).In h→h.Ns mainGlobals mg→mg d.name=some (.ref fa) →
   ∃fd:FuncData,(∀(s:Shared) (u:Value),BindsTo s fd ⟨[u],[]⟩ [(x,u)]) ∧
    ∀base:Heap,(K w.params).In base→base.Ns mainGlobals mg→fQ l.prog w (K w.params) mg base (CX w) k fa fd [x] (sp w))
  (iH:∀(w:World) (H:Hp) (a:Addr) (ns:List Int),ns.length≤n→ZH H→eE (K w.params) H a (ns.map V.int)→sp w [.ref a] H (fun v _=>v = .bl true) fun _ _ _=>False)
  (VC:∀(w:World) (H:Hp) (s:Shared) (e:Value) (s':Shared),CX w [] H s (fun _ _ _=>False) e s'→False) :
  PySem.W.WalkO q loose XP YP l.row.toRowW d [] (fun f vs=>PySem.call f vs):=by
 refine Nf.aj9 hn DL fun w s₀ s₁ mg mb fa o pm cd doc a vs ns G Y ho hd jE DA TR hints hlen hg=>?_;have KX:=hY w _ Y;obtain⟨fd,hb,hF⟩:=F w mg fa _ KX G.T.g DA;exact ac6 KX G.T.g G.T.b G.T.builtins G.T.nolimit hg TR hints (qJ hlen yT) hr hF hb (fun H hO hS=>iH w H a ns hlen hO hS) fun H e s'=>VC w H s₁ e s'
def inClass(s:Stmt)(j:Nat):Stmt:=match s with
 | .ClassDef _ _ _ body _ _ _ _ _ _ _=>body.getD j (.Pass ⟨0,0,0,0⟩)
 | _ => .Pass ⟨0,0,0,0⟩
def iR(s:Stmt):Arguments:=match s with
 | .FunctionDef _ a _ _ _ _ _ _ _ _=>a
 | _=>{ posonlyargs:=[],args:=[],vararg:=none,kwonlyargs:=[],kw_defaults:=[],kwarg:=none,defaults:=[] }
def dW(s:Stmt):List Stmt:=match s with
 | .FunctionDef _ _ b _ _ _ _ _ _ _=>b
 | _=>[]
def aV(s:Stmt):Scope:=match s with
 | .FunctionDef _ _ _ _ _ _ sc _ _ _=>sc
 | _=>{ kind := .function,names:=[],isGenerator:=false,isCoroutine:=false }
abbrev qO:mO:=fun _ _ _ _ _ _=>False
abbrev E0:XK:=fun _ _ _=>False
theorem aaX{X:Cx}:Passes qO X E0:=fun _ _ _ _ _ _ _ h=>h.elim
structure mL(K:Frag)(x qual:Str)(st:Stmt)(f:Addr)(fd:FuncData):Prop where
 ex:∃(oc:Value) (od:Option Addr) (kV doc pm:Value) (an:Option Addr) (aR ct:Value) (gJ:Array (Option Value)),
  fd=fnOf x qual (iR st) (dW st) (aV st) .none kV doc pm an aR ct∧K.lookup f=some ⟨oc,od,.func fd,gJ⟩∧codeIn K aR qual=true
 kp:keepIn K (.ref f)=true
section
variable{P:Program}{w:World}{K:Frag}{mg:Str→Option Value}{base:Heap}
theorem mL.ok{x qual:Str}{st:Stmt}{f:Addr}{fd:FuncData}{N ps:List Str}{k:Nat}{sp:Sp}(F:mL K x qual st f fd)(S:cU N ps (aV st))(len:∀vs H Q E,sp vs H Q E→vs.length=ps.length)
  (iI:∀(aR:Value) (A:Around) (outer:List Env) (s:Shared) (H:Hp) (vs:List V) (Q:VK) (E:XK),bN k (A.deeper (envOfC qual (aV st) s.heap.objs.size f aR))→sp vs H Q E →
   ∃t,kH (pB qO P w K mg base N qual (aV st) f aR A outer s H E).mU (dW st) t∧t { nx:=fun _ H'=>Q .aZ H',rt:=Q } (start N vs) H):fQ P w K mg base qO (k+1) f fd ps sp:=by
 obtain⟨oc,od,kV,doc,pm,an,aR,ct,gJ,rfl,lk,jE⟩:=F.ex;refine EC lk jE S len fun A outer s H vs Q E hr iH=>?_;obtain⟨t,h,q⟩:=iI aR A outer s H vs Q E hr iH;exact⟨t,h.mU,q⟩
theorem mL.binds{x qual:Str}{st:Stmt}{f:Addr}{fd:FuncData}{ps:List Str}(F:mL K x qual st f fd)
  (h:∀(kV doc pm:Value) (an:Option Addr) (aR ct:Value) (us:List Value),us.length=ps.length→bindArgs (fnOf x qual (iR st) (dW st) (aV st) .none kV doc pm an aR ct) ⟨us,[]⟩=pure (ps.zip us)):Binds K fd ps []:=by
 obtain⟨oc,od,kV,doc,pm,an,aR,ct,gJ,rfl,lk,jE⟩:=F.ex;exact .all (h kV doc pm an aR ct)
theorem DZ{x qual:Str}{st:Stmt}{f:Addr}{oc:Value}{od an:Option Addr}{gJ:Array (Option Value)}{kV doc pm aR ct:Value}(l:K.lookup f=some ⟨oc,od,.func (fnOf x qual (iR st) (dW st) (aV st) .none kV doc pm an aR ct),gJ⟩)
  (c:codeIn K aR qual=true) (k:keepIn K (.ref f)=true):mL K x qual st f (fnOf x qual (iR st) (dW st) (aV st) .none kV doc pm an aR ct):=⟨⟨oc,od,kV,doc,pm,an,aR,ct,gJ,rfl,l,c⟩,k⟩
end
section
variable{X:Cx}
theorem ajR:iN X (.builtin "len") (fun xs H Q=>∃a kvs,xs=[V.ref a]∧H a=some (.dK kvs)∧Q (.int kvs.length) H):=by
 intro pins s σ H xs us Q I r h;obtain⟨a,kvs,rfl,ha,q⟩:=h;obtain⟨u,rfl,ru⟩:=vals1 r;cases ru;exact ah0 I (.inl ha) fun t s' I'=>⟨.int kvs.length,H,I',⟨t,rfl⟩,q⟩
end
def fA(H H':Hp):Prop:=∀b o,H b=some o→H' b=some o
theorem fA.refl(H:Hp):fA H H:=fun _ _ h=>h
theorem fA.trans{H H1 H2:Hp}(a:fA H H1)(b:fA H1 H2):fA H H2:=fun c o h=>b c o (a c o h)
theorem fA.free{H H':Hp}(e:fA H H'){l:Addr}(h:H' l=Option.none):H l=Option.none:=by
 cases q:H l with
 | none=>rfl
 | some o =>
  rw [e l o q]at h;cases h
theorem fA.seq{K:Frag}{H H':Hp}{a:Addr}{xs:List V}(e:fA H H')(h:eE K H a xs):eE K H' a xs:=by
 rcases h with(h | ⟨o,h⟩) | h
 ·exact .inl (.inl (e _ _ h))
 ·exact .inl (.inr ⟨o,e _ _ h⟩)
 ·exact .inr h
theorem XR(env:Env):∀(names:List (Str×NameKind)) (cs:List (Str×Addr)),(∀y∈names,y.2 = .free→∃c,env.cells.lookup y.1=some c) →
  ∃cl,(forIn names cs (fun(x:Str×NameKind) (cs:List (Str×Addr))=>(match x with | (name,kind)=>if(kind == NameKind.free)=true then(do let c ← cellOf env name;pure (ForInStep.yield ((name,c)::cs)))else pure (ForInStep.yield cs))):Sem (List (Str×Addr)))=pure cl ∧
   (∀x c,cl.lookup x=some c→cs.lookup x=some c∨env.cells.lookup x=some c)∧(∀y∈names,y.2 = .free→∃c,cl.lookup y.1=some c)∧(∀x c,cs.lookup x=some c→∃c',cl.lookup x=some c')
 | [],cs,_=>⟨cs,rfl,fun _ _ h => .inl h,fun _ h=>(nomatch h),fun _ c h=>⟨c,h⟩⟩
 | (n,k)::r,cs,h=>by
  by_cases hk:k = .free
  ·subst hk;obtain⟨c,hc⟩:=h (n,.free) nR rfl;obtain⟨cl,e,h1,h2,h3⟩:=XR env r ((n,c)::cs) fun y hy=>h y (fP _ hy);refine⟨cl,?_,fun x d hd=>?_,fun y hy hf=>?_,fun x d hd=>?_⟩
   ·rw [List.forIn_cons];simp only [beq_self_eq_true,kT,cellOf,hc,pure_bind];exact e
   ·rcases h1 x d hd with q | q
    ·rw [AB]at q;split at q
     ·rename_i hx;have pU:x=n:=by simpa using hx
      subst pU;exact .inr (hc.trans q)
     ·exact .inl q
    ·exact .inr q
   ·rcases dG.mp hy with e' | e'
    ·subst e';exact h3 n c (by simp)
    ·exact h2 y e' hf
   ·by_cases hx:x=n
    ·subst hx;exact h3 x c (by simp)
    ·have hb:(x == n)=false:=by simpa using hx
     exact h3 x d (by rw [AB,hb];exact hd)
  ·obtain⟨cl,e,h1,h2,h3⟩:=XR env r cs fun y hy=>h y (fP _ hy);have hb:(k == NameKind.free)=false:=by simpa using hk
   refine⟨cl,?_,h1,fun y hy hf=>?_,h3⟩
   ·rw [List.forIn_cons];simp only [hb,sN,jB,pure_bind];exact e
   ·rcases dG.mp hy with e' | e'
    ·subst e';exact absurd hf hk
    ·exact h2 y e' hf
theorem Kh{scope:Scope}{env:Env}(h:∀y∈scope.names,y.2 = .free→∃c,env.cells.lookup y.1=some c) :
  ∃cl,closureFor scope env=pure cl∧(∀x c,cl.lookup x=some c→env.cells.lookup x=some c)∧∀y∈scope.names,y.2 = .free→∃c,cl.lookup y.1=some c:=by
 obtain⟨cl,e,h1,h2,_⟩:=XR env scope.names [] h;refine⟨cl,?_,fun x c hc=>(h1 x c hc).resolve_left (by simp),h2⟩;unfold closureFor;refine Eq.trans (congrArg (fun m=>m >>= fun cs=>pure cs) e) ?_;rfl
section
variable{prog:Program}{w:World}{A:Around}{R:Result→Shared→Prop}{s:Shared}
theorem Ke{elt target iter:Expr}{ifs:List Expr}{scope:Scope}{pos:Pos}{it acc:Value}{env:Env}(I:Nat→Shared→Prop)
  (turn:∀n s,I n s→wpAny (model prog w) A (pyNext it) (fun r s₁=>match r with
   | none=>R (.ok .next) s₁
   | some v=>wpAny (model prog w) A (letOwnedTupleGo target it v) (fun _ Cy=>wpAny (model prog w) A (assign target env v) (fun _ s₂ =>
     wpAny (model prog w) A (forIn ifs true fun c r=>if r=true then do let ok ← isTrue c env (eval c env);pure (ForInStep.yield ok)else pure (ForInStep.yield r)) (fun ok s₃ =>
      if ok=true then wpAny (model prog w) A (eval elt env) (fun x s₄ =>
       wpAny (model prog w) A (call (.builtin "list.append") [acc,x]) (fun _ s₅=>∃m,m<n∧I m s₅) (fun _ _=>False) s₄) (fun _ _=>False) s₃
      else ∃m,m<n∧I m s₃) (fun _ _=>False) s₂) (fun _ _=>False) Cy) (fun _ _=>False) s₁) (fun _ _=>False) s)
  (n:Nat) (h:I n s) :
  codeAny (model prog w) A (.compLoop (.ListComp elt [⟨target,iter,ifs,0⟩] scope pos) 0 it acc env) R s:=by
 refine codeAny_loop rfl I (fun n s hI=>?_) n h;show wpAny _ A ((compTurn (.ListComp elt [⟨target,iter,ifs,0⟩] scope pos) 0 it acc env).onRaise (fun x=>do noteFrame x env;theTreesLotGoes x)) _ _ s;refine wpAny_noted ?_;rw [compTurn_list];refine aF (wpAny_standAt (aF (jM (turn n s hI) (fun r s₁ h₁=>?_) fun _ _ h'=>h'.elim)));cases r with
 | none=>exact aS h₁
 | some v =>
  refine aF (jM h₁ (fun _ Cy h₁'=>?_) fun _ _ h'=>h'.elim);refine aF (jM h₁' (fun _ s₂ h₂=>aF (jM h₂ (fun ok s₃ h₃=>?_) fun _ _ h'=>h'.elim)) fun _ _ h'=>h'.elim);cases ok with
  | false=>exact aS ⟨rfl,h₃⟩
  | true =>
   exact aF (aF (jM h₃ (fun x s₄ h₄=>aF (jM h₄ (fun _ s₅ h₅=>aS (aS ⟨rfl,h₅⟩)) fun _ _ h'=>h'.elim)) fun _ _ h'=>h'.elim))
end
def zU(X:Cx)(ifs:List Expr)(t:TT):Prop :=
 ∀(pins:List (Addr×Obj)) (s:Shared) (σ:St) (H:Hp) (Q:Bool→Hp→Prop),Inv X pins σ H s→t σ H Q →
  wpAny (model X.prog X.w) X.A (forIn ifs true fun c r=>if r=true then do let ok ← isTrue c X.env (eval c X.env);pure (ForInStep.yield ok)else pure (ForInStep.yield r)) (TP X pins σ Q) X.xe s
def Qa:TT:=fun _ H Q=>Q true H
theorem Zj{X:Cx}:zU X [] Qa:=fun _ _ _ H _ I h=>wpAny_tests_nil ⟨H,I,h⟩
theorem Zi{X:Cx}{c:Expr}{t:TT}(h:PT X c t):zU X [c] t:=fun pins s σ H Q I q=>wpAny_tests_one (h pins s σ H Q I q)
def dP(X:Cx)(scope:Scope)(ls:List Str)(js:List Nat)(cl:List (Str×Addr))(C:Addr)(s:Shared)(H:Hp)(fp:List Addr):Cx :=
 { X with N:=ls++js.map (fun j=>X.N.getD j Str.empty),s₀:=s,H₀:=H,env:=compEnvC scope cl C X.env,outer:=X.stack,ex:=fp,fn:=fun _=>false,xe:=fun _ _=>False }
def pS(ls:List Str)(js:List Nat)(σ:St):St:=ls.map (fun _=>none)++js.map (fun j=>(σ[j]?).join)
def gk(env:Env)(n:Str)(k:NameKind):NameKind:=if(k == NameKind.free&&env.scope.kind == .function&&env.kindOf n == some .cell)=true then .cell else k
theorem Ed(env:Env)(names:List (Str×NameKind)):(names.map fun(n,k)=>if(k == NameKind.free&&env.scope.kind == .function&&env.kindOf n == some .cell)then(n,NameKind.cell)else(n,k))=names.map fun p=>(p.1,gk env p.1 p.2):=by
 refine MA fun p _=>?_;obtain⟨n,k⟩:=p;show(if(k == NameKind.free&&env.scope.kind == .function&&env.kindOf n == some .cell)=true then(n,NameKind.cell)else(n,k))=(n,gk env n k);unfold gk;split <;> rfl
theorem RA(env:Env)(x:Str):∀names:List (Str×NameKind),(names.map fun p=>(p.1,gk env p.1 p.2)).lookup x=(names.lookup x).map (gk env x)
 | []=>rfl
 | (n,k)::r=>by
  rw [cF];cases hx:x == n with
  | true =>
   have e:x=n:=by simpa using hx
   subst e;rw [AB,AB];simp
  | false =>
   rw [AB,AB];simp only [hx];exact RA env x r
theorem lookup_mem{x:Str}{k:NameKind}:∀{names:List (Str×NameKind)},names.lookup x=some k→(x,k)∈names
 | [],h=>by simp at h
 | (n,k')::r,h=>by
  rw [AB]at h;cases hx:x == n with
  | true =>
   have e:x=n:=by simpa using hx
   subst e;simp only [beq_self_eq_true]at h;cases h;exact List.mem_cons_self ..
  | false =>
   simp only [hx]at h;exact fP _ (lookup_mem h)
theorem yL{env:Env}{names:List (Str×NameKind)}{x:Str}(h:names.lookup x=some .free) :
  (names.map fun(n,k)=>if(k == NameKind.free&&env.scope.kind == .function&&env.kindOf n == some .cell)then(n,NameKind.cell)else(n,k)).lookup x=some .cell ∨
  (names.map fun(n,k)=>if(k == NameKind.free&&env.scope.kind == .function&&env.kindOf n == some .cell)then(n,NameKind.cell)else(n,k)).lookup x=some .free:=by
 rw [Ed,RA,h];show some (gk env x .free)=some .cell∨some (gk env x .free)=some .free;unfold gk;split
 ·exact .inl rfl
 ·exact .inr rfl
theorem BV{env:Env}{names:List (Str×NameKind)}{x:Str}(hc:∀y∈names,y.2 ≠ .cell)
  (h:(names.map fun(n,k)=>if(k == NameKind.free&&env.scope.kind == .function&&env.kindOf n == some .cell)then(n,NameKind.cell)else(n,k)).lookup x=some .cell ∨
   (names.map fun(n,k)=>if(k == NameKind.free&&env.scope.kind == .function&&env.kindOf n == some .cell)then(n,NameKind.cell)else(n,k)).lookup x=some .free):(x,NameKind.free)∈names:=by
 rw [Ed,RA]at h;cases e:names.lookup x with
 | none=>rw [e]at h;rcases h with h | h <;> cases h
 | some k =>
  have hm:=lookup_mem e
  by_cases hk:k = .free
  ·rw [hk]at hm;exact hm
  ·rw [e]at h;have hg:gk env x k=k:=by
    unfold gk;have hb:(k == NameKind.free)=false:=by simpa using hk
    rw [hb];rfl
   have h':gk env x k = .cell∨gk env x k = .free:=h.imp (fun z=>lR z) fun z=>lR z;rw [hg]at h'
   rcases h' with z | z
   ·exact absurd z (hc _ hm)
   ·exact absurd z hk
structure uF(X:Cx)(scope:Scope)(ls:List Str)(js:List Nat):Prop where
 kind:scope.kind = .function
 cell:∀y∈scope.names,y.2 ≠ .cell
 names:∀y∈scope.names,y.2 = .local→scope.names.lookup y.1=some .local
 free:∀y∈scope.names,y.2 = .free→X.env.kindOf y.1=some .cell∨X.env.kindOf y.1=some .free
 XU:∀j∈js,∃x,X.N[j]? = some x∧scope.names.lookup x=some .free
section
variable{X:Cx}{pins:List (Addr×Obj)}{σ:St}{H:Hp}{s:Shared}
theorem Gp{scope:Scope}{ls:List Str}{js:List Nat}{cl:List (Str×Addr)}{C:Addr}{fp:List Addr}(L:uF X scope ls js)(I:Inv X pins σ H s)
  (h1:∀x c,cl.lookup x=some c→X.env.cells.lookup x=some c) (h2:∀y∈scope.names,y.2 = .free→∃c,cl.lookup y.1=some c)
  {s':Shared} {H':Hp} (hC:s'.heap.objs.size≤C) (bs:∀b o,X.base.get? b=some o→s'.heap.get? b=some o∧H' b=none) (mF:X.base.objs.size≤s'.heap.objs.size)
  (kY:s'.heap.FunFrames X.base X.stack) (oZ:∀b∈eR X.stack,H' b=none)
  (wJ:∀b∈fp,b≠C∧∀x c,X.env.cells.lookup x=some c→c≠b) (pO:∀b o,X.base.get? b=some o→b∉fp) (tU:∀b∈fp,b∉eR X.stack) :
  (dP X scope ls js cl C s' H' fp).Ok where
 mod:=I.ok.mod
 kind:=L.kind
 glob:=I.ok.glob
 blt:=I.ok.blt
 above:=hC
 inj:=fun x y c a b=>I.ok.inj x y c (h1 x c a) (h1 y c b)
 has:=fun x hx=>h2 (x,.free) (BV (env:=X.env) L.cell hx) rfl
 wU:=fun x c z=>by cases z
 hd:=I.ok.hd
 frames:=I.ok.frames
 nO := .inl rfl
 wJ:=fun b hb=>⟨(wJ b hb).1,fun x c e=>(wJ b hb).2 x c (h1 x c e)⟩
 bs:=bs
 mF:=mF
 pO:=pO
 tU:=tU
 kY:=kY
 oZ:=oZ
theorem Gn{ls:List Str}{js:List Nat}{i:Nat}{v:V}(h:(pS ls js σ)[i]? = some (some v)):∃k j,i=ls.length+k∧js[k]? = some j∧σ[j]? = some (some v):=by
 unfold pS at h
 by_cases hi:i<ls.length
 ·rw [fV (by simpa using hi),iM]at h;cases e:ls[i]? with
  | none=>rw [e]at h;cases h
  | some y=>rw [e]at h;cases h
 ·rw [sF (by simpa using ZM hi),iM,dN]at h;cases e:js[i - ls.length]? with
  | none=>rw [e]at h;cases h
  | some j =>
   rw [e]at h;refine⟨i - ls.length,j,by omega,e,?_⟩;have h':(σ[j]?).join=some v:=lR h;cases q:σ[j]? with
   | none=>rw [q]at h';cases h'
   | some o =>
    rw [q]at h';exact congrArg some h'
def LcR(ls:List Str)(js:List Nat)(g:TG)(tc:TT)(te:TE)(σ:St)(Q:VK)(J:It)(H1:Hp):Prop:=∀D,H1 D=none →
 ∃W:Nat→Nat→St→Hp→Prop,(∃m,W 0 m (pS ls js σ) (upd H1 D (.lst [])))∧∀i m σ' H',W i m σ' H' →
  (J.stop i H'∧Q (.ref D) H')∨(J.go i H'∧∃N:St→Hp→Prop,(∀σ2 H2,N σ2 H2→∃m',m'<m∧W (i+1) m' σ2 H2) ∧
   ∀x H2,J.qP i H' x H2→g x σ' H2 fun σ3 H3=>tc σ3 H3 fun c H4=>if c=true then te σ3 H4 fun y H5=>∃ys,H5 D=some (.lst ys)∧ys.length<sizeLine∧N σ3 (upd H5 D (.lst (ys++[y])))else N σ3 H4)
def OD(ls:List Str)(js:List Nat)(wi:TI)(g:TG)(tc:TT)(te:TE):TE:=fun σ H Q=>wi σ H (LcR ls js g tc te σ Q)
theorem aaG{elt tg iter:Expr}{ifs:List Expr}{scope:Scope}{pos:Pos}{ls:List Str}{js:List Nat}{wi:TI}{g:TG}{tc:TT}{te:TE}(hc:X.calm=true)(L:uF X scope ls js)(hi:PI X tg iter wi)
  (hb:∀cl C s H fp,PG (dP X scope ls js cl C s H fp) tg g∧zU (dP X scope ls js cl C s H fp) ifs tc∧PE (dP X scope ls js cl C s H fp) elt te)
  (hs:∀x,foldedSetIterable iter X.env x=pure x:=by intro _;rfl):PE X (.ListComp elt [⟨tg,iter,ifs,0⟩] scope pos) (OD ls js wi g tc te):=by
 intro pins s σ H Q I h;obtain⟨cl,fH,fT,eY⟩:=Kh (scope:=scope) (env:=X.env) fun y hy hf=>I.ok.has y.1 (L.free y hy hf);rw [eval_ListComp];refine wpAny_comprehension_free (use:=none) rfl hs fH L.kind L.names (aW (hi pins s σ H _ I h) fun v s1 h1=>aW h1 fun IS s2 h2=>?_);obtain⟨it,fp,tn,J,H1,e,I2,T,uQ,f2,h2⟩:=h2;subst e;refine nJ (wpAny_newFunctionEnv L.cell (by intro y hy;simp at hy) (fun h₁ vP vN=>?_) L.kind);dsimp only at vP vN ⊢;generalize vY:s2.heap.push { cls := .type "list",dict:=none,data := .seq ([]:List Value).toArray }=G2 at vP vN ⊢;have JP:G2.objs.size=s2.heap.objs.size+1:=by rw [← vY,xE]
 have DU:H1 s2.heap.objs.size=none:=I2.aH.fresh bG;have VD:H1 G2.objs.size=none:=I2.aH.fresh (by omega);have VB:s2.heap.objs.size≠G2.objs.size:=by omega
 have UZ:G2.get? s2.heap.objs.size=some { cls := .type "list",dict:=none,data := .seq ([]:List Value).toArray }:=by rw [← vY];exact dY _ rfl
 have vE:∀b o,s2.heap.get? b=some o→G2.get? b=some o:=fun b o e=>by rw [← vY];exact bP _ e
 have I3:Inv X pins σ (upd H1 s2.heap.objs.size (.lst [])) { s2 with heap:=G2,toks:=s2.toks } :=
  I2.laid (t':=s2.toks) vE bG (show eV X.prog X.w _ G2 _ (.lst [])from⟨by simp,[],0,.nil,UZ⟩)
 have vF:∀b o,G2.get? b=some o→h₁.get? b=some o:=fun b o e=>(vN.2 b (cK (bO e))).trans (bP _ e);have I4:Inv X pins σ (upd H1 s2.heap.objs.size (.lst [])) { s2 with heap:=h₁,toks:=s2.toks+0 }:=I3.kept (h':=h₁) (t':=s2.toks+0) vF;generalize hT:(H1,(⟨tg,iter,ifs,0⟩:Comprehension))=SS;clear hT SS;have wG:∀b∈fp,b<s2.heap.objs.size:=fun b hb=>by
  obtain⟨o,e,_⟩:=T.obj 0 _ uQ b hb;exact bO e
 have fpD:s2.heap.objs.size∉fp:=fun z=>Nat.lt_irrefl _ (wG _ z);have EB:∀b∈fp,b≠G2.objs.size:=fun b hb=>cK (by rw [JP];exact uA (wG b hb));have QT:(dP X scope ls js cl G2.objs.size { s2 with heap:=G2 } (upd H1 s2.heap.objs.size (.lst [])) fp).Ok:=by
  refine Gp L I3 fT eY bG I3.bs (qJ I3.ok.mF I3.sz) I3.stack I3.HA (fun b hb=>⟨EB b hb,(f2 b hb).2.2.2.2.1⟩) (fun b o e hb=>?_) (fun b hb z=>?_)
  ·rcases(f2 b hb).2.2.2.1 with q | q
   ·exact I2.ok.pO b o e q
   ·exact absurd (jJ (bO (I2.ok.bs b o e).1) q) (Nat.lt_irrefl _)
  ·rcases dG.mp (I3.sT b z)with q | q
   ·exact(f2 b hb).2.1 q
   ·exact(f2 b hb).2.2.1 q
 have IC:Inv (dP X scope ls js cl G2.objs.size { s2 with heap:=G2 } (upd H1 s2.heap.objs.size (.lst [])) fp) [] (pS ls js σ) (upd H1 s2.heap.objs.size (.lst [])) { s2 with heap:=h₁,toks:=s2.toks+0 }:=by
  refine⟨QT,rfl,I4.bare,Un.kept vF,⟨_,vP,fun i x v e1 e2 e3=>?_⟩,fun x c e=>I4.cell x c (fT x c e),?_,fun x c e=>I4.hU x c (fT x c e),fun p hp=>?_,I4.aH,?_⟩
  ·obtain⟨k,j,rM,hj,hσ⟩:=Gn e2;obtain⟨y,hy,vK⟩:=L.XU j (oA hj);have TB:x=y:=by
    have wK:(ls++js.map (fun j=>X.N.getD j Str.empty))[i]? = some x:=e1;rw [rM,sF (Nat.le_add_right ..),Nat.add_sub_cancel_left,iM,hj]at wK;have XF:X.N.getD j Str.empty=x:=lR wK;rw [← XF,Mp,hy];rfl
   subst TB;have DC:X.env.kindOf x=some .cell∨X.env.kindOf x=some .free:=by
    have hm:(x,NameKind.free)∈scope.names:=by
     have q:=BV (env:=X.env) L.cell (yL (env:=X.env) vK);exact q
    exact L.free _ hm rfl
   obtain⟨m,hn,hl⟩:=I4.loc;obtain⟨u,r,l⟩:=hl j x v hy hσ (DC.elim (fun z => .inr (.inl z)) fun z => .inr (.inr z));refine⟨u,r,.inr ⟨yL (env:=X.env) vK,?_⟩⟩
   rcases l with⟨kl,_⟩ | ⟨_,c,nV,z⟩
   ·rcases DC with q | q
    ·rw [q]at kl;cases kl
    ·rw [q]at kl;cases kl
   ·have hm:(x,NameKind.free)∈scope.names:=BV (env:=X.env) L.cell (yL (env:=X.env) vK);obtain⟨c',DQ⟩:=eY _ hm rfl;have:=fT _ _ DQ;rw [nV]at this;cases this;exact⟨c,DQ,z⟩
  ·show upd H1 s2.heap.objs.size (.lst []) G2.objs.size=none;rw [aT (bT VB)];exact VD
  ·have oU:p∈X.pn:=by simpa [dP]using hp
   obtain⟨e,n,ne,nf,d⟩:=I4.pin p (uE _ oU);obtain⟨e3,_⟩:=I3.pin p (uE _ oU);refine⟨e,n,?_,fun z=>?_,d⟩
   ·exact cK (bO e3)
   ·rcases dG.mp (I3.sT p.1 z)with q | q
    ·exact ne q
    ·exact nf q
  ·simp [pS,dP]
 obtain⟨UQ,UP,UR⟩:=hb cl G2.objs.size { s2 with heap:=G2 } (upd H1 s2.heap.objs.size (.lst [])) fp;obtain⟨W,⟨m0,w0⟩,turn⟩:=h2 s2.heap.objs.size DU;have BI:tn 0 h₁:=T.keep _ _ _ uQ fun b hb o e=>vF b o (vE b o e);have bW:∀{H':Hp},(∀b∈fp,H' b=none)→∀b∈fp,nI (dP X scope ls js cl G2.objs.size { s2 with heap:=G2 } (upd H1 s2.heap.objs.size (.lst [])) fp) [] H' b:=fun hn b hb=>by
  refine⟨hn b hb,EB b hb,fun z=>?_,.inl hb,fun x c e=>(f2 b hb).2.2.2.2.1 x c (fT x c e),fun p hp=>?_⟩
  ·rcases dG.mp (I3.sT b z)with q | q
   ·exact(f2 b hb).2.1 q
   ·exact(f2 b hb).2.2.1 q
  ·have oU:p∈X.pn:=by simpa [dP]using hp
   exact(f2 b hb).2.2.2.2.2 p (uE _ oU)
 have WS:∀b∈fp,(upd H1 s2.heap.objs.size (.lst [])) b=none:=fun b hb=>by
  rw [aT (show b≠s2.heap.objs.size from cK (wG b hb))];exact(f2 b hb).1
 have loop:∀s4:Shared,s4 = { s2 with heap:=h₁,toks:=s2.toks+0 } →
   codeAny (model X.prog X.w) X.A (.compLoop (.ListComp elt [⟨tg,iter,ifs,0⟩] scope pos) 0 (.ref it) (.ref s2.heap.objs.size) (compEnvC scope cl G2.objs.size X.env))
    (compPost (model X.prog X.w) X.A X.xe none (EP X pins σ Q) (.ref s2.heap.objs.size) G2.objs.size) s4:=by
  rintro s4 rfl;refine Ke (fun n s'=>∃i σ' H',Inv (dP X scope ls js cl G2.objs.size { s2 with heap:=G2 } (upd H1 s2.heap.objs.size (.lst [])) fp) [] σ' H' s'∧tn i s'.heap∧(∀b∈fp,H' b=none)∧W i n σ' H') ?_ m0 ⟨0,_,_,IC,BI,WS,w0⟩;rintro n s5 ⟨i,σ5,H5,I5,qX,wF,w5⟩
  rcases turn i n σ5 H5 w5 with⟨stop,qn⟩ | ⟨go,N,hN,step⟩
  ·refine aW (T.done (dP X scope ls js cl G2.objs.size { s2 with heap:=G2 } (upd H1 s2.heap.objs.size (.lst [])) fp) rfl rfl rfl hc i [] s5 σ5 H5 _ I5 (bW wF) qX stop) fun r s6 ⟨hr,I6⟩=>?_;subst hr;obtain⟨m6,TY,_⟩:=I6.loc;refine⟨m6,TY,fun h' jC=>⟨.ref s2.heap.objs.size,H5,?_,rfl,qn⟩⟩;have NP:Un (eR X.stack) fp (upd H1 s2.heap.objs.size (.lst [])) H5 G2 s6.heap:=I6.base;have NQ:Un (eR X.stack) fp H1 (upd H1 s2.heap.objs.size (.lst [])) s2.heap G2:=Un.laid vE bG DU;have un:=NQ.trans NP;have tJ:∀b o,s2.heap.get? b=some o→b≠G2.objs.size:=fun b o e=>cK (by rw [JP];exact uA (bO e));have NR:Un (eR X.stack) fp H1 H5 s2.heap h':=⟨fun b o e n a x=>(jC.2 b (tJ b o e)).trans (un.keep b o e n a x),fun b o e n a x=>by
    obtain⟨sl,q⟩:=un.slot b o e n a x;exact⟨sl,(jC.2 b (tJ b o e)).trans q⟩,un.free,fun b o e x=>by
    obtain⟨o',q⟩:=un.there b o e x;exact⟨o',(jC.2 b (tJ b o e)).trans q⟩,un.iW,un.iJ,un.iY⟩
   have CY:dO X.prog X.w H5 h':=fun b o e=>by
    refine(I6.aH b o e).lI (fun c u nV q=>(jC.2 c ?_).trans q) (fun _ q=>q) fun _ _ q=>q;have vS:H5 G2.objs.size=none:=I6.free;rintro rfl
    rcases nV with z | z
    ·subst z;rw [vS]at e;cases e
    ·rw [vS]at z;cases z
   refine I2.EM (s':={ s6 with heap:=h' }) (ch:=fp) ?_ NR CY I6.bare fun b hb=>⟨(f2 b hb).2.2.2.1,(f2 b hb).2.1,(f2 b hb).2.2.2.2.1,(f2 b hb).2.2.2.2.2⟩
   exact I6.os
  ·refine aW (T.item (dP X scope ls js cl G2.objs.size { s2 with heap:=G2 } (upd H1 s2.heap.objs.size (.lst [])) fp) rfl rfl rfl hc i [] s5 σ5 H5 _ I5 (bW wF) qX go) fun r s6 ⟨u,hr,h6⟩=>?_;subst hr;refine aW h6 fun _ s7 ⟨x,H7,I7,r7,y7,uP,WR⟩=>?_;have Am:=I7.pinned (bW WR) (T.obj _ _ uP);refine aW (UQ _ s7 σ5 H7 x u _ Am r7 (step x H7 y7)) fun _ s8 ⟨σ8,H8,I8,q8⟩=>?_;refine aW (UP _ s8 σ8 H8 _ I8 q8) fun ok s9 ⟨H9,I9,q9⟩=>?_;have again:∀{σa:St} {Ha:Hp} {sa:Shared},Inv (dP X scope ls js cl G2.objs.size { s2 with heap:=G2 } (upd H1 s2.heap.objs.size (.lst [])) fp) ([]++yG fp s7.heap) σa Ha sa→N σa Ha →
     ∃m,m<n∧∃i σ' H',Inv (dP X scope ls js cl G2.objs.size { s2 with heap:=G2 } (upd H1 s2.heap.objs.size (.lst [])) fp) [] σ' H' sa∧tn i sa.heap∧(∀b∈fp,H' b=none)∧W i m σ' H':=fun{σa Ha sa} Ia na=>by
    obtain⟨m',hm,wa⟩:=hN σa Ha na;refine⟨m',hm,i+1,σa,Ha,Ia.xR,T.keep _ _ _ uP fun b hb o e=>(Ia.pin (b,o) (lW _ (lW _ (vB hb e)))).1,fun b hb=>?_,wa⟩;obtain⟨o,e,d⟩:=T.obj _ _ uP b hb;exact(Ia.pin (b,o) (lW _ (lW _ (vB hb e)))).2.1
   cases ok with
   | false=>exact again I9 q9
   | true =>
    refine aW (UR _ s9 σ8 H9 _ I9 q9) fun y QB ⟨z,H10,FG,QJ,ys,hD,cP,nn⟩=>?_;obtain⟨zz,aN,k,r,hl,e⟩:=FG.CM hD;refine call_meets F.slot_list_append ⟨_,e,rfl⟩ F.entry_list_append (Mz _ _) (PySem.list_append s2.heap.objs.size aN.toArray k y (by rw [hX];omega)) ⟨e,?_⟩;refine again (FG.QZ (its':=aN++[y]) (t':=QB.toks) hD e ?_ (r.append (.cons QJ .nil)) ?_) nn
    ·simp
    ·simp;omega
 exact codeAny_compStart_list (loop _ rfl) (T.self _ 0 _ _ _ BI (loop _ rfl))
end
section
variable{X:Cx}
theorem ajH(hc:X.calm=true):iN X (.builtin "sum") (fun xs H Q=>∃(a:Addr) (ns:List Int),xs=[.ref a]∧eE X.K H a (ns.map V.int)∧Q (.int ns.sum) H):=by
 intro pins s σ H xs us Q I r h;obtain⟨a,ns,rfl,hq,q⟩:=h;obtain⟨u,rfl,ru⟩:=vals1 r;cases ru;obtain⟨aN,rv,pl,hz⟩:=I.list hq;have hi:IntsAre aN ns:=intsAre_of rv;obtain⟨xs,Gy⟩:=hi.allInts.items;have hl:s.heap.IsList a (intItems xs):=Gy ▸ pl.isList;refine sum_intListG (I.ok.hd hc) hl fun h' tk t' hk=>?_;have e:preSum (numAt xs) xs.size=ns.sum:=by
  rw [preSum_eq,List.take_of_length_le (by simp),← nums_intItems,← Gy,show aN.toArray.toList=aN from rfl,hi.numsOf]
 exact⟨.int ns.sum,H,I.kept (t':=tk) hk,⟨t',by rw [e]⟩,q⟩
theorem ajS:iN X (.builtin "isinstance") (fun xs H Q=>∃x n t b,xs=[x,.ty n]∧mG X.K H x t∧kitOne X.K t (.type n)=some b∧Q (.bl b) H):=by
 intro pins s σ H xs us Q I r h;obtain⟨x,n,t,b,rfl,ty,e,q⟩:=h;obtain⟨u,v,rfl,rx,ry⟩:=vals2 r;cases ry;exact adW I rx ty e fun tk=>⟨.bl b,H,I.tok tk,rfl,q⟩
end
inductive Dt where
 | int (i:Int) | bl (b:Bool) | str (x:Str) | aZ | tup (ds:List Dt) | lst (ds:List Dt)
def Den(K:Frag)(H:Hp):Nat→V→Dt→Prop
 | _,v,.int j=>v = .int j
 | _,v,.bl b=>v = .bl b
 | _,v,.str x=>v = .str x
 | _,v,.aZ=>v = .aZ
 | 0,_,.tup _=>False
 | 0,_,.lst _=>False
 | n+1,v,.tup ds=>∃a xs,v = .ref a∧eZ K H a xs∧Paired (Den K H n) xs ds
 | n+1,v,.lst ds=>∃a xs,v = .ref a∧eE K H a xs∧Paired (Den K H n) xs ds
theorem fA.HH{K:Frag}{H H':Hp}{a:Addr}{xs:List V}(e:fA H H')(h:eZ K H a xs):eZ K H' a xs:=by
 rcases h with(h | ⟨o,h⟩) | h
 ·exact .inl (.inl (e _ _ h))
 ·exact .inl (.inr ⟨o,e _ _ h⟩)
 ·exact .inr h
theorem Den.same{K:Frag}{H H':Hp}(e:fA H H'):∀{n:Nat} {v:V} {d:Dt},Den K H n v d→Den K H' n v d:=by
 intro n
 induction n with
 | zero=>intro v d h;cases d <;> first | exact h | exact h.elim
 | succ n ih =>
  intro v d h;cases d with
  | tup ds =>
   obtain⟨a,xs,h1,h2,h3⟩:=h;exact⟨a,xs,h1,e.HH h2,Paired.vC h3 fun _ _ q=>ih q⟩
  | lst ds =>
   obtain⟨a,xs,h1,h2,h3⟩:=h;exact⟨a,xs,h1,e.seq h2,Paired.vC h3 fun _ _ q=>ih q⟩
  | int i=>exact h
  | bl b=>exact h
  | str x=>exact h
  | aZ=>exact h
theorem Paired.get{α β:Type}{F:α→β→Prop}:∀{l₁:List α} {l₂:List β} {i:Nat} {a:α},Paired F l₁ l₂→l₁[i]? = some a→∃b,l₂[i]? = some b∧F a b
 | _,_,_,_,.nil,e=>by simp at e
 | _,_,0,_,.cons r _,e=>by simp at e;subst e;exact⟨_,rfl,r⟩
 | _,_,i+1,x,.cons _ t,e=>by
  obtain⟨u,h1,h2⟩:=Paired.get (i:=i) (a:=x) t (by simpa using e);exact⟨u,by simpa using h1,h2⟩
structure HasFn(K:Frag)(mg:Str→Option Value)(x:Str)(st:Stmt):Prop where
 ex:∃f fd,mg x=some (.ref f)∧mL K x x st f fd
theorem pX{K:Frag}{h:Heap}{mg:Str→Option Value}{x:Str}{st:Stmt}{f:Addr}{oc:Value}{od an:Option Addr}{gJ:Array (Option Value)}{kV doc pm aR ct:Value}(X:K.In h)(G:h.Ns mainGlobals mg)
  (a:nsIn K mainGlobals x=some (some (.ref f))) (l:K.lookup f=some ⟨oc,od,.func (fnOf x x (iR st) (dW st) (aV st) .none kV doc pm an aR ct),gJ⟩)
  (c:codeIn K aR x=true) (k:keepIn K (.ref f)=true):HasFn K mg x st:=⟨⟨f,_,mg_of X G a,DZ l c k⟩⟩
structure Def(P:Program)(w:World)(K:Frag)(mg:Str→Option Value)(base:Heap)(x:Str)(k:Nat)(ps:List Str)(sp:Sp):Prop where
 ex:∃f fd,fQ P w K mg base qO k f fd ps sp∧mg x=some (.ref f)∧keepIn K (.ref f)=true∧Binds K fd ps []
theorem Def.of{P:Program}{w:World}{K:Frag}{mg:Str→Option Value}{base:Heap}{x:Str}{st:Stmt}{N ps:List Str}{k:Nat}{sp:Sp}(h:HasFn K mg x st)(S:cU N ps (aV st))
  (bind:∀(kV doc pm:Value) (an:Option Addr) (aR ct:Value) (us:List Value),us.length=ps.length→bindArgs (fnOf x x (iR st) (dW st) (aV st) .none kV doc pm an aR ct) ⟨us,[]⟩=pure (ps.zip us))
  (len:∀vs H Q E,sp vs H Q E→vs.length=ps.length)
  (iI:∀(f:Addr) (aR:Value) (A:Around) (outer:List Env) (s:Shared) (H:Hp) (vs:List V) (Q:VK) (E:XK),bN k (A.deeper (envOfC x (aV st) s.heap.objs.size f aR))→sp vs H Q E →
   ∃t,kH (pB qO P w K mg base N x (aV st) f aR A outer s H E).mU (dW st) t∧t { nx:=fun _ H'=>Q .aZ H',rt:=Q } (start N vs) H):Def P w K mg base x (k+1) ps sp:=by
 obtain⟨f,fd,hm,F⟩:=h.ex;exact⟨f,fd,F.ok S len (iI f),hm,F.kp,F.binds bind⟩
theorem fA.new{H:Hp}{p:Addr}{o:HO}(h:H p=none):fA H (upd H p o):=fun b u e=>by rw [aT (gE e h)];exact e
def Kept(l:Addr)(H H':Hp):Prop:=∀b o,b≠l→H b=some o→H' b=some o
theorem Kept.upd(l:Addr)(H:Hp)(o:HO):Kept l H (upd H l o):=fun b u hb e=>by rw [aT hb];exact e
theorem fA.kept{l:Addr}{H H':Hp}(h:fA H H'):Kept l H H':=fun b o _ e=>h b o e
theorem Kept.trans{l:Addr}{H H1 H2:Hp}(a:Kept l H H1)(b:Kept l H1 H2):Kept l H H2:=fun c o hc e=>b c o hc (a c o hc e)
theorem Kept.HH{K:Frag}{l:Addr}{H H':Hp}{a:Addr}{xs ys:List V}(e:Kept l H H')(hl:H l=some (.lst ys))(h:eZ K H a xs):eZ K H' a xs:=by
 rcases h with(h | ⟨o,h⟩) | h
 ·exact .inl (.inl (e _ _ (pQ h hl (by intro z;cases z)) h))
 ·exact .inl (.inr ⟨o,e _ _ (pQ h hl (by intro z;cases z)) h⟩)
 ·exact .inr h
def uG(K:Frag)(H:Hp)(v:V)(ns:List Int):Prop:=∃p,v = .ref p∧eZ K H p (ns.map V.int)
theorem uG.same{K:Frag}{H H':Hp}{v:V}{ns:List Int}(e:fA H H')(h:uG K H v ns):uG K H' v ns:=let ⟨p,a,b⟩:=h; ⟨p,a,e.HH b⟩
theorem uG.kept{K:Frag}{l:Addr}{H H':Hp}{v:V}{ns:List Int}{ys:List V}(e:Kept l H H')(hl:H l=some (.lst ys))(h:uG K H v ns):uG K H' v ns:=let ⟨p,a,b⟩:=h; ⟨p,a,e.HH hl b⟩
def Rows(K:Frag)(H:Hp)(xs:List V)(rs:List (List Int)):Prop:=Paired (uG K H) xs rs
theorem Rows.same{K:Frag}{H H':Hp}{xs:List V}{rs:List (List Int)}(e:fA H H')(h:Rows K H xs rs):Rows K H' xs rs:=Paired.vC h fun _ _ q=>q.same e
theorem Rows.kept{K:Frag}{l:Addr}{H H':Hp}{xs ys:List V}{rs:List (List Int)}(e:Kept l H H')(hl:H l=some (.lst ys))(h:Rows K H xs rs):Rows K H' xs rs:=Paired.vC h fun _ _ q=>q.kept e hl
theorem Rows.snoc{K:Frag}{H:Hp}{xs:List V}{rs:List (List Int)}{v:V}{r:List Int}(h:Rows K H xs rs)(q:uG K H v r):Rows K H (xs++[v]) (rs++[r]):=Paired.snoc h q
theorem Rows.reverse{K:Frag}{H:Hp}:∀{xs:List V} {rs:List (List Int)},Rows K H xs rs→Rows K H xs.reverse rs.reverse
 | _,_,.nil => .nil
 | _,_,.cons q t=>by rw [EY,EY];exact(Rows.reverse t).snoc q
def akH(h₀ h:Heap)(H:Hp)(x:Addr)(vs:Array Value):Prop :=
 ∃T oT ts,vs[1]? = some (.ref T)∧T≠x∧h₀.get? T=none∧H T=none∧h.get? T=some oT∧oT.data = .fields ts∧3<ts.size
def iT(h₀ h:Heap)(H:Hp)(x:Addr)(cls:Value)(dx:Option Addr)(tb:Bool):Prop :=
 h₀.get? x=none∧H x=none∧∃oe vs,h.get? x=some oe∧oe.cls=cls∧oe.dict=dx∧oe.data = .fields vs∧1<vs.size∧((tb=false∧vs[1]? = some .none)∨akH h₀ h H x vs)
theorem iT.any{h₀ h:Heap}{H:Hp}{x:Addr}{cls:Value}{dx:Option Addr}{tb:Bool}(e:iT h₀ h H x cls dx tb):iT h₀ h H x cls dx false:=by
 obtain⟨a,b,oe,vs,c1,c2,c3,c4,c5,c6⟩:=e;exact⟨a,b,oe,vs,c1,c2,c3,c4,c5,c6.imp (fun z=>⟨rfl,z.2⟩) id⟩
structure mH(X:Cx):Prop where
 nO:X.stack=X.env::X.outer
 EA:X.env.frame=some X.env.locals
 pn:X.pn=[]
theorem mH.mem{X:Cx}(t:mH X){b:Addr}:b∈eR X.stack↔b=X.env.locals∨b∈X.fs:=by
 rw [t.nO];unfold eR;rw [Af,t.EA];exact dG
section
variable{X:Cx}{σ:St}{H:Hp}{s:Shared}
theorem Inv.QF{h':Heap}{ch:List Addr}(I:Inv X [] σ H s)(t:mH X)(lL:∀b∈ch,X.s₀.heap.get? b=none∧H b=none∧∃o vs,s.heap.get? b=some o∧o.data = .fields vs)
  (keep:∀b o,b∉eR X.stack→b∉ch→s.heap.get? b=some o→h'.get? b=some o) (slot:∀b o,b∈eR X.stack→s.heap.get? b=some o→∃sl,h'.get? b=some { o with slots:=sl }) :
  Inv X [] σ H { s with heap:=h' }:=by
 have acB:∀c v,s.heap.IsCell c v→c∉ch:=fun c v ⟨o,ho,hd⟩ hc=>by
  obtain⟨_,_,o',vs,e,d⟩:=lL c hc;rw [ho]at e;cases e;rw [hd]at d;cases d
 have any:∀b o,b∉ch→s.heap.get? b=some o→∃sl,h'.get? b=some { o with slots:=sl }:=fun b o hc e=>by
  by_cases hb:b∈eR X.stack
  ·exact slot b o hb e
  ·exact⟨o.slots,keep b o hb hc e⟩
 have cellK:∀c v,s.heap.IsCell c v→h'.IsCell c v:=fun c v z=>by
  obtain⟨o,ho,hd⟩:=id z;obtain⟨sl,e⟩:=any c o (acB c v z) ho;exact⟨_,e,hd⟩
 have old:∀b o,X.s₀.heap.get? b=some o→b≠X.env.locals∧b∉ch:=fun b o e =>
  ⟨cK (jJ (bO e) I.ok.above),fun hc=>by rw [(lL b hc).1]at e;cases e⟩
 have nfr:∀b,b≠X.env.locals→b∉X.fs→b∉eR X.stack:=fun b h1 h2 z=>(t.mem.mp z).elim h1 h2;refine⟨I.ok,I.os,I.bare,⟨fun b o e n hb hx=>?_,fun b o e n hb hx=>?_,I.base.free,fun b o e hx=>?_,I.base.iW,I.base.iJ,I.base.iY⟩,?_,fun x c e=>?_,I.free,I.hU,fun p hp=>?_,fun b u e=>?_,I.len⟩
 ·exact keep b o (nfr b (old b o e).1 hb) (old b o e).2 (I.base.keep b o e n hb hx)
 ·obtain⟨sl,e1⟩:=I.base.slot b o e n hb hx;obtain⟨BL,e2⟩:=any b _ (old b o e).2 e1;exact⟨BL,e2⟩
 ·obtain⟨o',e1⟩:=I.base.there b o e hx;obtain⟨sl,e2⟩:=any b o' (old b o e).2 e1;exact⟨_,e2⟩
 ·obtain⟨m,hn,hl⟩:=I.loc;obtain⟨o,es,ep,ho,hd,r⟩:=id hn;have hLc:X.env.locals∉ch:=fun hc=>by
   obtain⟨_,_,o',vs,e,d⟩:=lL _ hc;rw [ho]at e;cases e;rw [hd]at d;cases d
  obtain⟨sl,e⟩:=any _ o hLc ho;refine⟨m,⟨_,es,ep,e,hd,r⟩,fun i x v e1 e2 e3=>?_⟩;obtain⟨u,ru,l⟩:=hl i x v e1 e2 e3;refine⟨u,ru,?_⟩
  rcases l with l | ⟨k,c,ec,z⟩
  ·exact .inl l
  ·exact .inr ⟨k,c,ec,cellK c _ z⟩
 ·obtain⟨v,z⟩:=I.cell x c e;exact⟨v,cellK c v z⟩
 ·rw [t.pn]at hp;simp at hp
 ·refine(I.aH b u e).lI (fun c v hc q=>keep c v ?_ ?_ q) (fun _ q=>q) fun _ _ q=>q
  ·intro z;have f:=I.HA c z
   rcases hc with y | y
   ·rw [y,e]at f;cases f
   ·rw [y]at f;cases f
  ·intro z;have f:=(lL c z).2.1
   rcases hc with y | y
   ·rw [y,e]at f;cases f
   ·rw [y]at f;cases f
variable{M:Model}{E:Value→Shared→Prop}{x:Addr}{cls:Value}{dx:Option Addr}
theorem iT.IB(I:Inv X [] σ H s){b:Addr}{o:Obj}{vs:Array Value}(e:s.heap.get? b=some o)(d:o.data = .fields vs):b∉eR X.stack:=fun hm=>by
 obtain⟨_,o',ho,hnf⟩:=I.stack.mem hm;rw [e]at ho;cases ho;exact hnf vs d
theorem Jr(I:Inv X [] σ H s)(t:mH X){oe:Obj}{vs:Array Value}{head:Value}{had:Bool}{Q:Unit→Shared→Prop}(rH:X.s₀.heap.get? x=none)(oR:H x=none)(he:s.heap.get? x=some oe)(hd:oe.data = .fields vs)(hsz:1<vs.size)
  (q:∀h',Inv X [] σ H { s with heap:=h' }→iT X.s₀.heap h' H x oe.cls oe.dict true→Q () { s with heap:=h' }) :
  wpAny M X.A (do let a ← frameOf X.env;let pl ← entryPlaceOf X.env.locals had;let b ← EntryCells.newEntry head a .none (rawInt X.env.locals) .none pl;setField (.ref x) 1 b) Q E s:=by
 have DH:X.A.frames=some (X.env::X.outer):=by rw [← t.nO];exact I.ok.frames
 have hl:s.heap.FunFrames X.base (X.env::X.outer):=by rw [← t.nO];exact I.stack
 have cQ:x∉eR X.stack:=iT.IB I he hd;have efr:(X.env::X.outer).filterMap (·.frame)=eR X.stack:=by rw [t.nO];rfl
 refine aF (wpAny_frameOf_fun DH hl t.EA fun h1 s1=>aF (wpAny_entryPlaceOf fun pl dF=>?_));rw [efr]at s1;unfold EntryCells.newEntry;unfold newFields;refine aF (nJ ?_ (dF.sizeOk5 _ _ _ _ _));have Hy:h1.get? x=some oe:=(s1.2.1 x cQ).trans he;generalize Hc:({ cls := .type "traceback",dict:=none,data := .fields ([head,.ref X.env.locals,.none,rawInt X.env.locals,.none]++(if pl.isEmpty then List.replicate 6 Value.none else pl)).toArray }:Obj)=to;have hte:∃ts,to.data = .fields ts∧3<ts.size:=⟨_,by rw [← Hc],by simp only [hX,qK,nH,Ac];omega⟩;have htf:to.isFreed=false:=by rw [← Hc];rfl
 have Hx:(h1.push to).get? x=some oe:=bP _ Hy;have rQ:h1.objs.size≠x:=zW (bO Hy);refine wpAny_setField Hx hd hsz ?_;have DO:=Obj.data_mapFields hd (·.setIfInBounds 1 (Value.ref h1.objs.size));have he3:=MI (Obj.mapFields (·.setIfInBounds 1 (Value.ref h1.objs.size))) Hx (Obj.isFreed_of_fields DO);have hT3:=(oE (h1.push to) (Obj.mapFields (·.setIfInBounds 1 (Value.ref h1.objs.size))) (bT rQ)).trans (dY h1 htf);have kp:∀b o,b≠x→h1.get? b=some o→((h1.push to).update x (Obj.mapFields (·.setIfInBounds 1 (Value.ref h1.objs.size)))).get? b=some o:=fun b o hb e =>
  (oE _ _ (bT hb)).trans (bP _ e)
 have tQ:X.s₀.heap.get? h1.objs.size=none:=by
  cases e:X.s₀.heap.get? h1.objs.size with
  | none=>rfl
  | some o =>
   have h2:=jJ (bO e) I.sz;rw [s1.1]at h2;exact absurd h2 (Nat.lt_irrefl _)
 have tP:H h1.objs.size=none:=by rw [s1.1];exact I.aH.fresh bG
 refine q _ (I.QF t (ch:=[x]) (fun b hb=>?_) (fun b o hb hc e=>?_) fun b o hb e=>?_) ⟨rH,oR,_,_,he3,Obj.cls_mapFields _ _,?_,DO,by simpa using hsz,.inr ⟨h1.objs.size,to,?_⟩⟩
 ·rw [mK.mp hb];exact⟨rH,oR,oe,vs,he,hd⟩
 ·exact kp b o (fun z=>hc (by rw [z];exact mK.mpr rfl)) ((s1.2.1 b hb).trans e)
 ·obtain⟨sl,e1⟩:=s1.2.2 b o e;exact⟨sl,kp b _ (fun z=>cQ (z ▸ hb)) e1⟩
 ·obtain⟨c,d,dt,sl⟩:=oe;cases dt <;> rfl
 ·obtain⟨ts,d1,d2⟩:=hte;exact⟨ts,by simp [hsz],rQ,tQ,tP,hT3,d1,d2⟩
theorem Fp(I:Inv X [] σ H s)(t:mH X){tb:Bool}{Q:Unit→Shared→Prop}(e:iT X.s₀.heap s.heap H x cls dx tb)
  (q:∀h',Inv X [] σ H { s with heap:=h' }→iT X.s₀.heap h' H x cls dx true→Q () { s with heap:=h' }):wpAny M X.A (noteFrame (.ref x) X.env) Q E s:=by
 obtain⟨rH,oR,oe,vs,he,rfl,rfl,hd,hsz,BG⟩:=id e;unfold noteFrame;simp only [t.EA]
 rcases BG with⟨_,h1⟩ | ⟨T,oT,ts,h1,rQ,tQ,tP,hT,oX,h3⟩
 ·refine aF (GB he hd h1 ?_);rw [if_neg (by decide)];exact Jr I t rH oR he hd hsz q
 ·refine aF (GB he hd h1 ?_);rw [if_pos (show(Value.ref T != Value.none)=true from by simp)];obtain⟨v3,hv3⟩:∃v3,ts[3]? = some v3:=⟨ts[3],Ay h3⟩;refine aF (GB hT oX hv3 ?_)
  by_cases hb:(v3 == rawInt X.env.locals)=true
  ·rw [if_pos hb];exact aS (q s.heap I ⟨rH,oR,oe,vs,he,rfl,rfl,hd,hsz,.inr ⟨T,oT,ts,h1,rQ,tQ,tP,hT,oX,h3⟩⟩)
  ·rw [if_neg hb];refine aF (wpAny_setField hT oX h3 ?_);have uW:∀b,b≠T→(s.heap.update T (Obj.mapFields (·.setIfInBounds 3 Value.none))).get? b=s.heap.get? b:=fun b hb=>oE _ _ (bT hb);have UU:T∉eR X.stack:=iT.IB I hT oX;have I1:Inv X [] σ H { s with heap:=s.heap.update T (Obj.mapFields (·.setIfInBounds 3 Value.none)) }:=I.QF t (ch:=[T]) (fun b hb=>by
    rw [mK.mp hb];exact⟨tQ,tP,oT,ts,hT,oX⟩) (fun b o _ hc e=>(uW b (fun z=>hc (by rw [z];exact mK.mpr rfl))).trans e) fun b o hb e=>⟨o.slots,(uW b (fun z=>UU (z ▸ hb))).trans e⟩
   exact Jr I1 t rH oR ((uW x (bT rQ)).trans he) hd hsz q
theorem Jd{A:Around}(I:Inv X [] σ H s)(t:mH X){fo:Option Addr}{Q:Unit→Shared→Prop}(e:iT X.s₀.heap s.heap H x cls dx true)
  (q:∀h',Inv X [] σ H { s with heap:=h' }→iT X.s₀.heap h' H x cls dx true→Q () { s with heap:=h' }):wpAny M A (setFlight (.ref x) fo) Q E s:=by
 obtain⟨rH,oR,oe,vs,he,rfl,rfl,hd,hsz,BG⟩:=id e
 rcases BG with⟨z,_⟩ | ⟨T,oT,ts,h1,rQ,tQ,tP,hT,oX,h3⟩
 ·cases z
 unfold setFlight;refine aF (GB he hd h1 ?_);rw [if_pos (show(Value.ref T != Value.none)=true from by simp)];refine wpAny_setField hT oX h3 ?_;generalize (fo.elim Value.none fun f=>rawInt f)=fv;have uW:∀b,b≠T→(s.heap.update T (Obj.mapFields (·.setIfInBounds 3 fv))).get? b=s.heap.get? b:=fun b hb=>oE _ _ (bT hb);have UU:T∉eR X.stack:=iT.IB I hT oX;have DO:=Obj.data_mapFields oX (·.setIfInBounds 3 fv);refine q _ (I.QF t (ch:=[T]) (fun b hb=>?_) (fun b o _ hc e=>(uW b (fun z=>hc (by rw [z];exact mK.mpr rfl))).trans e) fun b o hb e=>⟨o.slots,(uW b (fun z=>UU (z ▸ hb))).trans e⟩)
  ⟨rH,oR,oe,vs,(uW x (bT rQ)).trans he,rfl,rfl,hd,hsz,.inr ⟨T,_,_,h1,rQ,tQ,tP,MI _ hT (Obj.isFreed_of_fields DO),DO,by simpa using h3⟩⟩
 rw [mK.mp hb];exact⟨tQ,tP,oT,ts,hT,oX⟩
end
abbrev WX:=St→Value→Option Addr→Hp→Prop
def XE(X:Cx)(W:WX):Value→Shared→Prop:=fun e s'=>∃σ H' x cls dx,e = .ref x∧Inv X [] σ H' s'∧iT X.s₀.heap s'.heap H' x cls dx false∧W σ cls dx H'
section
variable{X:Cx}
theorem aaW(t:mH X){W:WX}:PassesOwn (model X.prog X.w) X.A X.env (XE X W):=by
 rintro e s' ⟨σ,H',x,cls,dx,rfl,I,ex,w⟩;unfold notedBy;refine Fp I t ex fun h1 I1 e1=>?_;unfold cameBackBy;obtain⟨rH,oR,oe,vs,he,hc,JL,hd,hsz,BG⟩:=id e1
 rcases BG with⟨z,_⟩ | ⟨T,oT,ts,rR,rQ,tQ,tP,hT,oX,h3⟩
 ·cases z
 refine aF (GB he hd rR ?_);rw [if_neg (show ¬((Value.ref T == Value.none)=true)from by simp)];exact Jd I1 t e1 fun h2 I2 e2=>⟨σ,H',x,cls,dx,rfl,I2,e2.any,w⟩
def kJ(P:Program)(w:World):mO:=fun outer H s E e s'=>∃x cls dx H',e = .ref x∧s'.os=s.os∧AllBare s'.gens∧Un (eR outer) [] H H' s.heap s'.heap∧dO P w H' s'.heap∧iT s.heap s'.heap H' x cls dx true∧E cls dx H'
end
structure nG(X:Cx)(W:WX):Prop where
 top:mH X
 ex:X.ex=[]
 to:∀e s',XE X W e s'→X.xe e s'
 passes:PassesOwn (model X.prog X.w) X.A X.env X.xe
theorem nG.of{X:Cx}(t:mH X)(hx:X.ex=[])(W:WX):nG (X.kM (XE X W)) W where
 top:=⟨t.nO,t.EA,t.pn⟩
 ex:=hx
 to:=fun e s' ⟨σ,H',x,cls,dx,a,I,b,c⟩=>⟨σ,H',x,cls,dx,a,I.mR,b,c⟩
 passes:=aaW t
theorem Inv.Ey{X:Cx}{pins:List (Addr×Obj)}{σ:St}{H:Hp}{s:Shared}(I:Inv X pins σ H s):Inv X [] σ H s:=I.QP fun p hp=>absurd hp (by simp)
theorem Inv.first{X:Cx}{pins:List (Addr×Obj)}{σ:St}{H:Hp}{s:Shared}(I:Inv X pins σ H s)(hx:X.ex=[]){b:Addr}(h:s.heap.get? b=none):X.s₀.heap.get? b=none:=by
 cases e:X.s₀.heap.get? b with
 | none=>rfl
 | some o =>
  obtain⟨o',e'⟩:=I.base.there b o e (by rw [hx];simp);rw [h]at e';cases e'
theorem iT.first{X:Cx}{pins:List (Addr×Obj)}{σ:St}{H H':Hp}{s:Shared}{h':Heap}{x:Addr}{cls:Value}{dx:Option Addr}{tb:Bool}(I:Inv X pins σ H s)(hx:X.ex=[])(e:iT s.heap h' H' x cls dx tb) :
  iT X.s₀.heap h' H' x cls dx tb:=by
 obtain⟨a,b,oe,vs,c1,c2,c3,c4,c5,c6⟩:=e;refine⟨I.first hx a,b,oe,vs,c1,c2,c3,c4,c5,c6.imp id fun⟨T,oT,ts,d1,d2,d3,d4,d5,d6,d7⟩=>⟨T,oT,ts,d1,d2,I.first hx d3,d4,d5,d6,d7⟩⟩
theorem eV.at{P:Program}{w:World}{H:Hp}{h:Heap}{a:Addr}{o:HO}(x:eV P w H h a o):∃ob,h.get? a=some ob:=by
 cases o with
 | lst xs=>obtain⟨_,_,_,_,e⟩:=x;exact⟨_,e⟩
 | tup xs=>obtain⟨_,_,_,_,e,_⟩:=x;exact⟨_,e⟩
 | dK kvs=>obtain⟨_,_,_,_,o,_,_,e,_⟩:=x;exact⟨_,e⟩
 | dT kvs=>obtain⟨_,_,_,_,o,_,_,e,_⟩:=x;exact⟨_,e⟩
 | set S n=>obtain⟨o,_,_,_,e,_⟩:=x;exact⟨_,e⟩
 | ins C dx fs=>obtain⟨_,_,_,e,_⟩:=x;exact⟨_,e⟩
 | own y=>exact x
 | xd fs=>obtain⟨_,⟨_,_,_,e,_⟩,_⟩:=x;exact⟨_,e⟩
 | HL lo hi=>obtain⟨_,_,_,e⟩:=x;exact⟨_,e⟩
 | bW ob u=>obtain⟨e,_⟩:=x;exact⟨_,e⟩
 | qW ps=>exact⟨_,show h.get? a=some _ from x⟩
 | met f y=>exact⟨_,show h.get? a=some _ from x⟩
 | ext φ=>obtain⟨_,e,_⟩:=x;exact e
section
variable{P:Program}{w:World}{K:Frag}{mg:Str→Option Value}{base:Heap}
abbrev nE(P:Program)(w:World)(K:Frag)(mg:Str→Option Value)(base:Heap)(N:List Str)(qual:Str)(scope:Scope)(f:Addr)(cd:Value)(A:Around)(outer:List Env)(s:Shared)(H:Hp)(E:XK):Cx :=
 (pB (kJ P w) P w K mg base N qual scope f cd A outer s H E).kM (XE (pB (kJ P w) P w K mg base N qual scope f cd A outer s H E) fun _=>E)
theorem NZ{CX:mO}{N:List Str}{qual:Str}{scope:Scope}{f:Addr}{cd:Value}{A:Around}{outer:List Env}{s:Shared}{H:Hp}{E:XK}:mH (pB CX P w K mg base N qual scope f cd A outer s H E):=⟨rfl,rfl,rfl⟩
theorem cH{N:List Str}{qual:Str}{scope:Scope}{f:Addr}{cd:Value}{A:Around}{outer:List Env}{s:Shared}{H:Hp}{E:XK}:nG (nE P w K mg base N qual scope f cd A outer s H E) (fun _=>E):=nG.of NZ rfl _
theorem IM{N:List Str}{qual:Str}{scope:Scope}{f:Addr}{cd:Value}{A:Around}{outer:List Env}{s:Shared}{H:Hp}{E:XK}{st:List Stmt}{t:TS}(h:kH (nE P w K mg base N qual scope f cd A outer s H E) st t) :
  kH (pB (kJ P w) P w K mg base N qual scope f cd A outer s H E) st t:=by
 intro pins s1 σ H1 D I hw;refine jM (h pins s1 σ H1 D (I.kM _) hw) (fun _ _ q=>q.mR) fun e s' hx=>?_;obtain⟨σ',H',x,cls,dx,rfl,I',ex,q⟩:=hx;show wpAny _ _ (leaving _ _) _ _ _;unfold leaving;refine aF (Fp (E:=fun e' rA=>kJ P w outer H s E e' rA) I' NZ ex fun h1 I1 e1=>?_);refine Jd I1 NZ e1 fun h2 I2 e2=>?_;exact⟨x,cls,dx,H',rfl,I2.os,I2.bare,I2.base,I2.aH,e2,q⟩
structure MR(P:Program)(w:World)(K:Frag)(mg:Str→Option Value)(base:Heap)(x:Str)(k:Nat)(ps:List Str)(sp:Sp):Prop where
 ex:∃f fd,fQ P w K mg base (kJ P w) k f fd ps sp∧mg x=some (.ref f)∧keepIn K (.ref f)=true∧Binds K fd ps []
theorem MR.of{x:Str}{st:Stmt}{N ps:List Str}{k:Nat}{sp:Sp}(h:HasFn K mg x st)(S:cU N ps (aV st))
  (bind:∀(kV doc pm:Value) (an:Option Addr) (aR ct:Value) (us:List Value),us.length=ps.length→bindArgs (fnOf x x (iR st) (dW st) (aV st) .none kV doc pm an aR ct) ⟨us,[]⟩=pure (ps.zip us))
  (len:∀vs H Q E,sp vs H Q E→vs.length=ps.length)
  (iI:∀(f:Addr) (aR:Value) (A:Around) (outer:List Env) (s:Shared) (H:Hp) (vs:List V) (Q:VK) (E:XK),bN k (A.deeper (envOfC x (aV st) s.heap.objs.size f aR))→sp vs H Q E →
   ∃t,kH (nE P w K mg base N x (aV st) f aR A outer s H E) (dW st) t∧t { nx:=fun _ H'=>Q .aZ H',rt:=Q } (start N vs) H):MR P w K mg base x (k+1) ps sp:=by
 obtain⟨f,fd,hm,F⟩:=h.ex;refine⟨f,fd,?_,hm,F.kp,F.binds bind⟩;obtain⟨oc,od,kV,doc,pm,an,aR,ct,gJ,rfl,lk,jE⟩:=F.ex;refine EC lk jE S len fun A outer s H vs Q E hr iH=>?_;obtain⟨t,h,q⟩:=iI f aR A outer s H vs Q E hr iH;exact⟨t,IM h,q⟩
end
section
variable{X:Cx}{W:WX}{x:Str}{p pos np iK:Pos}{e:Expr}{es:List Expr}{t:TA}
def Cw(sp:Sp)(W:WX)(t:TA):TE:=fun σ H Q=>t σ H fun vs H1=>sp vs H1 Q fun cls dx H'=>W σ cls dx H'
theorem aaN{k:Nat}{ps:List Str}{sp:Sp}(T:nG X W)(D:MR X.prog X.w X.K X.mg X.base x k ps sp)(hr:bN k X.A)(hg:Gl X x)(ha:PA X (e::es) t)
  (jD:(x == ("__debug__" : Str))=false:=by decide) (he:starEach (e::es) X.env=(false,eval e X.env)::starEach es X.env:=by rfl) (dF:(backTo pos (starEach es X.env)).any (·.1)=false:=by rfl) :
  PE X (.Call (.Name x p) (e::es) [] pos) (Cw sp W t):=by
 obtain⟨f,fd,F,hm,hk,hb⟩:=D.ex;intro pins s σ H Q I h;refine sQ (IP I hg hm ?_ jD);refine callWith_K (h₀:=X.base) I.ok.mod.tL hk (aW (ha pos pins s σ H _ I h) fun us s1 ⟨vs,H1,I1,r,q⟩=>⟨I1.eQ,?_⟩) he dF;have hl:us.length=ps.length:=by rw [← r.length];exact F.len _ _ _ _ q
 have rO:=hb s1 us I1.eQ (by rw [FE];exact hl);rw [FE]at rO;refine wpAny_call (rX (F.run X.A X.stack s1 H1 ⟨us,[]⟩ us vs Q _ hr I1.KG rO r q) fun r s' hq=>?_);cases r with
 | error ev =>
  obtain⟨a,cls,dx,H',rfl,os,bare,un,aH,ex,q'⟩:=hq;have I2:=(I1.EM os un aH bare (fun b z=>absurd z (by simp))).Ey;exact T.to _ _ ⟨σ,H',a,cls,dx,rfl,I2,(ex.first I1 T.ex).any,q'⟩
 | ok fl =>
  cases fl with
  | ret u=>exact I1.after hq
  | next=>exact False.elim hq
  | brk=>exact False.elim hq
  | cont=>exact False.elim hq
abbrev KW:List Value:=[.type "ValueError",.type "Exception",.type "BaseException",.type "object"]
structure Mh(K:Frag)(C:Addr):Prop where
 SX:PySem.W.excIn K C KW "ValueError.__new__" = true
theorem Mh.obj{K:Frag}{C:Addr}(O:Mh K C){h:Heap}(X:K.In h):∃bm N nm q bs DN sn sub ab col dd k0 k1 k2 k3 k5 mN,h.get? C=some (excClassObj nm q C N bs bm DN sn sub ab col dd k0 k1 k2 k3 k5 "ValueError.__new__")∧h.Ns N mN∧mN "__init__" = none∧OwnTail h KW bm:=by
 have q:=O.SX;unfold PySem.W.excIn at q;split at q
 ·rename_i dd cd sl ho;split at q
  ·rename_i C' bm k0 k1 k2 k3 n k5 hm hs;simp only [jY,qE,Nd]at q;obtain⟨⟨⟨⟨⟨rfl,rfl⟩,DM⟩,ht⟩,aH⟩,CZ⟩:=q;obtain⟨nm,bs,mro,ns,qn,hd,sn,sub,ab,col,del⟩:=cd;dsimp only at hm DM aH CZ;subst hm DM;have jT:sl = #[k0,k1,k2,k3,some (.builtin "ValueError.__new__"),k5]:=by
    obtain⟨l⟩:=sl;simp only at hs;rw [hs]
   subst jT;exact⟨bm,ns,nm,qn,bs,hd,sn,sub,ab,col,dd,k0,k1,k2,k3,k5,_,X _ _ ho,.of_isNs (isNs_of_in X aH),PySem.W.nsMap_none_of_in X aH CZ,PySem.W.tail_of_in X ht⟩
  ·cases q
 ·cases q
end
structure XC(K:Frag)(C:Addr):Prop where
 ob:∃nm q N bs bm DN sn sub ab col dd k0 k1 k2 k3 k5,K.lookup C=some (excClassObj nm q C N bs bm DN sn sub ab col dd k0 k1 k2 k3 k5 "ValueError.__new__")
 ga:findIn K (.ref C) "__getattribute__" = some (some (.builtin "BaseException.__getattribute__"))
 gt:findIn K (.ref C) "__getattr__" = some none
 cl:findIn K (.ref C) "__class__" = some (some (.builtin "object.__class__"))
 be:subIn K (.ref C) (.type "BaseException")=some true
 oj:subIn K (.ref C) (.type "object")=some true
section
variable{K:Frag}{C D x:Addr}{oe:Obj}{b:Bool}
theorem XC.get(c:XC K C):∃cd,clsIn K C=some cd∧cd.mro.isEmpty=false∧cd.mro.contains (.ref C)=true∧typeIn K (.ref C)=some (.type "type"):=by
 obtain⟨nm,q,N,bs,bm,DN,sn,sub,ab,col,dd,k0,k1,k2,k3,k5,e⟩:=c.ob;refine⟨{ name:=nm,bases:=bs,mro := .ref C::bm,ns:=N,qualname:=q,hasDict:=DN,slotNames:=sn,subclasses:=sub,abstract:=ab,collection:=col,hasDel:=false },?_,rfl,?_,?_⟩
 ·unfold clsIn;rw [e]
 ·simp
 ·show(K.lookup C).map (·.cls)=_;rw [e];rfl
theorem adA(cD:XC K D)(cC:XC K C)(s:subIn K (.ref D) (.ref C)=some b):kitOne K (.ref D) (.ref C)=some b:=by
 unfold kitOne;split
 ·rename_i q;have e:D=C:=Value.ref.inj (qE.mp q);subst e;obtain⟨cd,h1,h2,h3,_⟩:=cD.get;change mroIn K D (.ref D)=some b at s;unfold mroIn at s;rw [h1]at s;simp only [ZG,h2,h3]at s;simpa using s
 ·obtain⟨cd,h1,_,_,h4⟩:=cC.get;unfold PySem.W.kitCls;simp only [h1,h4];exact s
end
def Cx.EL(X:Cx)(x:Addr)(oe:Obj):Cx:={ X with A:=X.A.mark (some (.ref x)),calm:=false,pn:=X.pn++[(x,oe)],xe:=fun _ _=>False }
theorem Cx.Ok.EL{X:Cx}(ok:X.Ok)(x:Addr)(oe:Obj):(X.EL x oe).Ok :=
 ⟨ok.mod,ok.kind,ok.glob,ok.blt,ok.above,ok.inj,ok.has,ok.wU,fun h=>Bool.noConfusion h,ok.frames,ok.nO,ok.wJ,ok.bs,ok.mF,ok.pO,ok.tU,ok.kY,ok.oZ⟩
section
variable{X:Cx}{σ:St}{H:Hp}{s:Shared}{x:Addr}{oe:Obj}
theorem Inv.EL(I:Inv X [] σ H s)(p:s.heap.get? x=some oe∧H x=none∧x≠X.env.locals∧x∉X.fs∧∀v,oe.data ≠ .cell v):Inv (X.EL x oe) [] σ H s :=
 ⟨I.ok.EL x oe,I.os,I.bare,I.base,I.loc,I.cell,I.free,I.hU,fun q hq=>by
  have hq:q∈(X.pn++[(x,oe)])++[]:=hq;rw [FE]at hq
  rcases LZ.mp hq with z | z
  ·exact I.pin q (uE _ z)
  ·rw [mK.mp z];exact p,I.aH,I.len⟩
theorem iT.pin{cls:Value}{dx:Option Addr}{tb:Bool}(I:Inv X [] σ H s)(t:mH X)(e:iT X.s₀.heap s.heap H x cls dx tb):∃oe vs,oe.cls=cls∧oe.dict=dx∧oe.data = .fields vs∧s.heap.get? x=some oe∧H x=none∧x≠X.env.locals∧x∉X.fs∧∀v,oe.data ≠ .cell v:=by
 obtain⟨_,oR,oe,vs,he,hc,JL,hd,_⟩:=e;have nf:=iT.IB I he hd;exact⟨oe,vs,hc,JL,hd,he,oR,fun z=>nf (t.mem.mpr (.inl z)),fun z=>nf (t.mem.mpr (.inr z)),fun v z=>by rw [hd]at z;cases z⟩
end
def ZF(X:Cx)(st:List Stmt)(t:TS):Prop:=∀(s:Shared) (σ:St) (H:Hp) (D:Ends),Inv X [] σ H s→t D σ H→wpAny (model X.prog X.w) X.A (execs st X.env) (SP X [] D) X.xe s
abbrev TH:=Addr→Value→Option Addr→TS
section
variable{P:Program}{w:World}{K:Frag}{mg:Str→Option Value}{base:Heap}
theorem ZF.mU{X:Cx}{st:List Stmt}{t:TS}(h:ZF X.mU st t):ZF X st t:=fun s σ H D I hw =>
 jM (h s σ H D (I.kM _) hw) (fun _ _ q=>q.mR) fun _ _ z=>False.elim z
end
def RF(scope sc:Scope)(N:List Str)(js:List Nat):Bool :=
 scope.kind == .function&&(scope.names.all fun y=>y.2 != .cell&&(y.2 != .local||scope.names.lookup y.1 == some .local)&&(y.2 != .free||(sc.names.lookup y.1 == some .cell||sc.names.lookup y.1 == some .free))) &&
 js.all fun j=>match N[j]? with
  | some x=>scope.names.lookup x == some .free
  | none=>false
theorem uF.of{X:Cx}{scope:Scope}{ls:List Str}{js:List Nat}(sc:Scope)(N:List Str)(vM:X.env.scope=sc)(hN:X.N=N)(ok:RF scope sc N js=true):uF X scope ls js:=by
 unfold RF at ok;rw [jY,jY]at ok;obtain⟨⟨h1,h2⟩,h3⟩:=ok;rw [FF]at h2 h3;refine⟨by simpa using h1,fun y hy=>?_,fun y hy hl=>?_,fun y hy hf=>?_,fun j hj=>?_⟩
 ·have q:=h2 y hy;rw [jY,jY]at q;simpa using q.1.1
 ·have q:=h2 y hy;rw [jY,jY]at q;simpa [hl]using q.1.2
 ·have q:=h2 y hy;rw [jY,jY]at q;have q2:=q.2;rw [hf]at q2;unfold Env.kindOf;rw [vM];simpa using q2
 ·have q:=h3 j hj;rw [hN];cases e:N[j]? with
  | none=>rw [e]at q;cases q
  | some x=>rw [e]at q;exact⟨x,rfl,by simpa using q⟩
theorem Kept.same{l:Addr}{H H':Hp}(e:Kept l H H')(hl:H l=none):fA H H':=fun b o h=>e b o (gE h hl) h
theorem Rows.take{K:Frag}{H:Hp}:∀{xs:List V} {rs:List (List Int)} (k:Nat),Rows K H xs rs→Rows K H (xs.take k) (rs.take k)
 | _,_,0,_ => .nil
 | _,_,_+1,.nil => .nil
 | _,_,k+1,.cons q t => .cons q (Rows.take k t)
theorem Rows.append{K:Frag}{H:Hp}:∀{xs ys:List V} {rs qs:List (List Int)},Rows K H xs rs→Rows K H ys qs→Rows K H (xs++ys) (rs++qs)
 | _,_,_,_,.nil,h=>h
 | _,_,_,_,.cons q t,h => .cons q (Rows.append t h)
end L2
namespace V2
open PySem PySem.Spec PyProof.Rows L2
inductive A where
 | int (i:Int) | bl (b:Bool) | str (x:Str) | aZ | ty (n:String) | adr (p:Addr) | zG (p d:Addr) (f:Str) (i:Int) | gl (x:Str) | bY (ns:List Int)
 | tup (ds:List A) | lst (ds:List A) | aE (k:Nat)
inductive Fd where
 | val (a:A) | lst (ds:List A) | aX (kvs:List (Key×A))
@[simp] def Fd.own:Fd→Bool
 | .val _=>false
 | _=>true
inductive Cell where
 | lst (ds:List A) | aX (kvs:List (Key×A)) | ins (cls:Str) (fs:List (Str×Fd)) | tab (x:Str) (pos:Pos) (qual:Str) | dead
@[simp] def Cell.noOwn:Cell→Bool
 | .ins _ fs=>fs.all fun p=>!p.2.own
 | _=>true
structure Exc where
 cls:Str
 fs:List (Str×A)
inductive Rs(α:Type)where
 | ok (a:α) | exc (x:Exc)
abbrev aI:=List Cell
abbrev Ev:=List (Option A)
abbrev Mo(α:Type):=aI→Option (Rs α×aI)
@[simp] def ret{α:Type}(a:α):Mo α:=fun Ω=>some (.ok a,Ω)
@[simp] def mb{α β:Type}(m:Mo α)(k:α→Mo β):Mo β:=fun Ω =>
 match m Ω with
 | some (.ok a,Ω1)=>k a Ω1
 | some (.exc x,Ω1)=>some (.exc x,Ω1)
 | none=>none
@[simp] def stuck{α:Type}:Mo α:=fun _=>none
@[simp] def need{α:Type}(o:Option α):Mo α:=fun Ω=>o.map fun a=>(.ok a,Ω)
@[simp] def lA(p:Prop) [Decidable p]:Mo Unit:=fun Ω=>if p then some (.ok (),Ω)else none
mutual
def Den(K:Frag)(G:Hp)(ι:List Addr):V→A→Prop
 | v,.int j=>v = .int j
 | v,.bl b=>v = .bl b
 | v,.str x=>v = .str x
 | v,.aZ=>v = .aZ
 | v,.ty n=>v = .ty n
 | v,.adr p=>v = .ref p
 | v,.zG p d f i=>v = .ref p∧G d=some (.xd [(f,.int i)])
 | v,.gl x=>∃C,nsIn K mainGlobals x=some (some (.ref C))∧v = .ref C
 | v,.bY ns=>∃a,v = .ref a∧eE K G a (ns.map V.int)
 | v,.tup ds=>∃a xs,v = .ref a∧G a=some (.tup xs)∧aK K G ι xs ds
 | v,.lst ds=>∃a xs,v = .ref a∧G a=some (.lst xs)∧aK K G ι xs ds
 | v,.aE k=>∃a,v = .ref a∧ι[k]? = some a
def aK(K:Frag)(G:Hp)(ι:List Addr):List V→List A→Prop
 | xs,[]=>xs=[]
 | xs,d::ds=>∃x r,xs=x::r∧Den K G ι x d∧aK K G ι r ds
end
structure Ext(G:Hp)(ι:List Addr)(G':Hp)(ι':List Addr):Prop where
 same:fA G G'
 pre:∀(k:Nat) (a:Addr),ι[k]? = some a→ι'[k]? = some a
theorem Ext.refl(G:Hp)(ι:List Addr):Ext G ι G ι:=⟨fA.refl _,fun _ _ h=>h⟩
theorem Ext.trans{G G1 G2:Hp}{ι ι1 ι2:List Addr}(a:Ext G ι G1 ι1)(b:Ext G1 ι1 G2 ι2):Ext G ι G2 ι2:=⟨a.same.trans b.same,fun k x h=>b.pre k x (a.pre k x h)⟩
section
variable{K:Frag}{G G':Hp}{ι ι':List Addr}
mutual
theorem Den.ext(e:Ext G ι G' ι'):∀{v:V} {d:A},Den K G ι v d→Den K G' ι' v d
 | _,.int _,h=>by simpa only [Den]using h
 | _,.bl _,h=>by simpa only [Den]using h
 | _,.str _,h=>by simpa only [Den]using h
 | _,.aZ,h=>by simpa only [Den]using h
 | _,.ty _,h=>by simpa only [Den]using h
 | _,.adr _,h=>by simpa only [Den]using h
 | _,.zG _ _ _ _,h=>by
  simp only [Den]at h ⊢;exact⟨h.1,e.same _ _ h.2⟩
 | _,.gl _,h=>by simpa only [Den]using h
 | _,.bY _,h=>by
  simp only [Den]at h ⊢;obtain⟨a,h1,h2⟩:=h;exact⟨a,h1,e.same.seq h2⟩
 | _,.tup ds,h=>by
  simp only [Den]at h ⊢;obtain⟨a,xs,h1,h2,h3⟩:=h;exact⟨a,xs,h1,e.same _ _ h2,aK.ext e h3⟩
 | _,.lst ds,h=>by
  simp only [Den]at h ⊢;obtain⟨a,xs,h1,h2,h3⟩:=h;exact⟨a,xs,h1,e.same _ _ h2,aK.ext e h3⟩
 | _,.aE k,h=>by
  simp only [Den]at h ⊢;obtain⟨a,h1,h2⟩:=h;exact⟨a,h1,e.pre _ _ h2⟩
theorem aK.ext(e:Ext G ι G' ι'):∀{xs:List V} {ds:List A},aK K G ι xs ds→aK K G' ι' xs ds
 | _,[],h=>by simpa only [aK]using h
 | _,d::ds,h=>by
  simp only [aK]at h ⊢;obtain⟨x,r,h1,h2,h3⟩:=h;exact⟨x,r,h1,Den.ext e h2,aK.ext e h3⟩
end
theorem kZ{xs:List V}:aK K G ι xs []↔xs=[]:=by simp only [aK]
theorem aK.length:∀{xs:List V} {ds:List A},aK K G ι xs ds→xs.length=ds.length
 | _,[],h=>by simp only [aK]at h;subst h;rfl
 | _,d::ds,h=>by
  simp only [aK]at h;obtain⟨x,r,rfl,h2,h3⟩:=h;simp only [nH,aK.length h3]
theorem aK.nil:aK K G ι [] []:=by simp only [aK]
theorem aK.cons{x:V}{xs:List V}{d:A}{ds:List A}(h:Den K G ι x d)(t:aK K G ι xs ds):aK K G ι (x::xs) (d::ds):=by
 simp only [aK];exact⟨x,xs,rfl,h,t⟩
theorem aK.gX{xs:List V}{d:A}{ds:List A}(h:aK K G ι xs (d::ds)):∃x r,xs=x::r∧Den K G ι x d∧aK K G ι r ds:=by simpa only [aK]using h
theorem aK.get:∀{xs:List V} {ds:List A} {i:Nat} {d:A},aK K G ι xs ds→ds[i]? = some d→∃x,xs[i]? = some x∧Den K G ι x d
 | _,[],_,_,_,e=>by simp at e
 | _,_::_,0,_,h,e=>by
  obtain⟨x,r,rfl,h2,h3⟩:=h.gX;simp at e;subst e;exact⟨x,rfl,h2⟩
 | _,_::_,i+1,_,h,e=>by
  obtain⟨x,r,rfl,h2,h3⟩:=h.gX;simp at e;obtain⟨y,q1,q2⟩:=aK.get h3 e;exact⟨y,by simpa using q1,q2⟩
theorem aK.append:∀{xs ys:List V} {ds es:List A},aK K G ι xs ds→aK K G ι ys es→aK K G ι (xs++ys) (ds++es)
 | _,_,[],_,h,t=>by rw [kZ]at h;subst h;exact t
 | _,_,d::ds,_,h,t=>by
  obtain⟨x,r,rfl,h2,h3⟩:=h.gX;exact .cons h2 (aK.append h3 t)
theorem aK.take:∀{xs:List V} {ds:List A} (n:Nat),aK K G ι xs ds→aK K G ι (xs.take n) (ds.take n)
 | _,_,0,_=>by simpa using aK.nil
 | _,[],n+1,h=>by rw [kZ]at h;subst h;exact aK.nil
 | _,d::ds,n+1,h=>by
  obtain⟨x,r,rfl,h2,h3⟩:=h.gX;exact .cons h2 (aK.take n h3)
theorem aK.reverse:∀{xs:List V} {ds:List A},aK K G ι xs ds→aK K G ι xs.reverse ds.reverse
 | _,[],h=>by rw [kZ]at h;subst h;exact aK.nil
 | _,d::ds,h=>by
  obtain⟨x,r,rfl,h2,h3⟩:=h.gX;rw [EY,EY];exact(aK.reverse h3).append (.cons h2 .nil)
theorem aK.set{x:V}{d:A}(hx:Den K G ι x d):∀{xs:List V} {ds:List A} (n:Nat),aK K G ι xs ds→aK K G ι (xs.set n x) (ds.set n d)
 | _,[],n,h=>by rw [kZ]at h;subst h;exact aK.nil
 | _,e::ds,0,h=>by
  obtain⟨y,r,rfl,h2,h3⟩:=h.gX;exact .cons hx h3
 | _,e::ds,n+1,h=>by
  obtain⟨y,r,rfl,h2,h3⟩:=h.gX;exact .cons h2 (aK.set hx n h3)
theorem EG:∀(ns:List Int),aK K G ι (ns.map V.int) (ns.map A.int)
 | [] => .nil
 | n::ns => .cons (by simp only [Den]) (EG ns)
end
def akI(K:Frag)(G H:Hp)(a:Addr)(x:Str)(pos:Pos)(qual:Str):Prop :=
 G a=none∧(∃c,PySem.W.tabIn K x=some (c,a))∧∃ps,H a=some (.qW ps)∧TriplesOk ps.toList ∧
  (codeAmong pos ps.toList=none∨∃c' oc vs t,codeAmong pos ps.toList=some (.ref c')∧G c'=some (.bW oc (.own 0))∧oc.data = .fields vs∧vs[1]? = some (.str qual t))
def fK(K:Frag)(G:Hp)(ι:List Addr)(H:Hp)(v:V):Fd→Prop
 | .val a=>Den K G ι v a
 | .lst ds=>∃b xs,v = .ref b∧G b=none∧b∉ι∧H b=some (.lst xs)∧aK K G ι xs ds
 | .aX kvs=>∃b,∃ws:List (Key×V),v = .ref b∧G b=none∧b∉ι∧H b=some (.dK ws)∧ws.map (·.1)=kvs.map (·.1)∧aK K G ι (ws.map (·.2)) (kvs.map (·.2))
def fW(K:Frag)(G:Hp)(ι:List Addr)(H:Hp):List (Str×V)→List (Str×Fd)→Prop
 | [],[]=>True
 | (f,v)::ws,(g,d)::fs=>f=g∧fK K G ι H v d∧fW K G ι H ws fs
 | _,_=>False
def lG(K:Frag)(G:Hp)(ι:List Addr)(H:Hp)(a:Addr):Cell→Prop
 | .lst ds=>G a=none∧∃xs,H a=some (.lst xs)∧aK K G ι xs ds
 | .aX kvs=>G a=none∧∃ws:List (Key×V),H a=some (.dK ws)∧ws.map (·.1)=kvs.map (·.1)∧aK K G ι (ws.map (·.2)) (kvs.map (·.2))
 | .ins cls fs=>G a=none∧∃C dx,∃ws:List (Str×V),nsIn K mainGlobals cls=some (some (.ref C))∧H a=some (.ins C dx ws)∧fW K G ι H ws fs
 | .tab x pos qual=>akI K G H a x pos qual
 | .dead=>True
def fJ(H:Hp)(ι:List Addr)(Ω:aI)(k i:Nat)(b:Addr):Prop:=∃a cls fs C dx ws g h fd,ι[k]? = some a∧Ω[k]? = some (.ins cls fs)∧H a=some (.ins C dx ws)∧fs[i]? = some (g,fd)∧fd.own=true∧ws[i]? = some (h,.ref b)
structure Wd(K:Frag)(G:Hp)(ι:List Addr)(Ω:aI)(H:Hp):Prop where
 sub:fA G H
 inj:ι.Nodup
 len:ι.length=Ω.length
 live:∀a∈ι,∃o,H a=some o
 aE:∀(k:Nat) (c:Cell) (a:Addr),Ω[k]? = some c→ι[k]? = some a→lG K G ι H a c
 sep:∀(b:Addr) (k i k' i':Nat),fJ H ι Ω k i b→fJ H ι Ω k' i' b→k=k'∧i=i'
section
variable{K:Frag}{G G' H H':Hp}{ι ι':List Addr}{Ω:aI}{a p:Addr}
theorem fK.mono{v:V}{fd:Fd}(h:fK K G ι H v fd)(e:Ext G ι G' ι')(ho:∀b o,b∉ι→G b=none→H b=some o→b∉ι'∧G' b=none∧H' b=some o):fK K G' ι' H' v fd:=by
 cases fd with
 | val a=>exact Den.ext e h
 | lst ds =>
  obtain⟨b,xs,h1,h2,h3,h4,h5⟩:=h;obtain⟨q1,q2,q3⟩:=ho b _ h3 h2 h4;exact⟨b,xs,h1,q2,q1,q3,h5.ext e⟩
 | aX kvs =>
  obtain⟨b,ws,h1,h2,h3,h4,h5,h6⟩:=h;obtain⟨q1,q2,q3⟩:=ho b _ h3 h2 h4;exact⟨b,ws,h1,q2,q1,q3,h5,h6.ext e⟩
theorem fW.map{K':Frag}{G' H':Hp}{ι':List Addr}(f:∀v fd,fK K G ι H v fd→fK K' G' ι' H' v fd):∀{ws:List (Str×V)} {fs:List (Str×Fd)},fW K G ι H ws fs→fW K' G' ι' H' ws fs
 | [],[],_=>trivial
 | (_,_)::_,(_,_)::_,h=>⟨h.1,f _ _ h.2.1,fW.map f h.2.2⟩
 | [],_::_,h=>h.elim
 | _::_,[],h=>h.elim
theorem lG.mono{c:Cell}(h:lG K G ι H a c)(e:Ext G ι G' ι')(hg:G' a=G a)(hh:H' a=H a)(ho:∀b o,b∉ι→G b=none→H b=some o→b∉ι'∧G' b=none∧H' b=some o):lG K G' ι' H' a c:=by
 cases c with
 | lst ds=>obtain⟨g,xs,h1,h2⟩:=h;exact⟨hg.trans g,xs,hh.trans h1,h2.ext e⟩
 | aX kvs=>obtain⟨g,ws,h1,h2,h3⟩:=h;exact⟨hg.trans g,ws,hh.trans h1,h2,h3.ext e⟩
 | ins cls fs=>obtain⟨g,C,dx,ws,h0,h1,h2⟩:=h;exact⟨hg.trans g,C,dx,ws,h0,hh.trans h1,h2.map fun _ _ q=>q.mono e ho⟩
 | tab x pos qual =>
  obtain⟨g,hc,ps,h1,h2,h3⟩:=h;exact⟨hg.trans g,hc,ps,hh.trans h1,h2,h3.imp id fun⟨c',oc,vs,t,q1,q2,q3⟩=>⟨c',oc,vs,t,q1,e.same _ _ q2,q3⟩⟩
 | dead=>trivial
theorem Wd.addr(w:Wd K G ι Ω H){k:Nat}{c:Cell}(h:Ω[k]? = some c):∃a,ι[k]? = some a:=by
 have hk:=(cL.mp h).1;exact⟨ι[k]'(by rw [w.len];exact hk),jK _⟩
theorem Wd.ne(w:Wd K G ι Ω H)(hp:H p=none)(ha:a∈ι):a≠p:=by
 obtain⟨o,ho⟩:=w.live a ha;exact gE ho hp
theorem Wd.mD(w:Wd K G ι Ω H)(hp:H p=none):G p=none:=by
 cases e:G p with
 | none=>rfl
 | some o=>rw [w.sub _ _ e]at hp;cases hp
theorem fJ.to{k i:Nat}{b:Addr}{ι':List Addr}{Ω Ω':aI}(h:fJ H ι Ω k i b)(h1:∀a,ι[k]? = some a→ι'[k]? = some a∧∀o,H a=some o→H' a=some o)(h2:∀cls fs,Ω[k]? = some (.ins cls fs)→Ω'[k]? = some (.ins cls fs)):fJ H' ι' Ω' k i b:=by
 obtain⟨a,cls,fs,C,dx,ws,g,h',fd,q1,q2,q3,q4,q5,q6⟩:=h;exact⟨a,cls,fs,C,dx,ws,g,h',fd,(h1 a q1).1,h2 _ _ q2,(h1 a q1).2 _ q3,q4,q5,q6⟩
theorem fJ.no{k i:Nat}{b:Addr}{c:Cell}(h:fJ H ι Ω k i b)(hc:Ω[k]? = some c)(hn:c.noOwn=true):False:=by
 obtain⟨a,cls,fs,C,dx,ws,g,h',fd,q1,q2,q3,q4,q5,q6⟩:=h;rw [hc]at q2;cases q2;simp only [Cell.noOwn,FF]at hn;have:=hn _ (oA q4);simp only []at this;rw [q5]at this;cases this
theorem Wd.grow(w:Wd K G ι Ω H)(s:fA H H'):Wd K G ι Ω H' where
 sub:=w.sub.trans s
 inj:=w.inj
 len:=w.len
 live:=fun a ha=>let ⟨o,ho⟩:=w.live a ha; ⟨o,s _ _ ho⟩
 aE:=fun k c a h1 h2=>by
  have q:=w.aE k c a h1 h2;cases c with
  | lst ds=>obtain⟨g,xs,h1,h2⟩:=q;exact⟨g,xs,s _ _ h1,h2⟩
  | aX kvs=>obtain⟨g,ws,h1,h2,h3⟩:=q;exact⟨g,ws,s _ _ h1,h2,h3⟩
  | ins cls fs=>obtain⟨g,C,dx,ws,h0,h1,h2⟩:=q;exact⟨g,C,dx,ws,h0,s _ _ h1,h2.map fun _ _ q=>q.mono (Ext.refl _ _) fun b o x y z=>⟨x,y,s _ _ z⟩⟩
  | tab x pos qual =>
   obtain⟨g,hc,ps,h1,h2⟩:=q;exact⟨g,hc,ps,s _ _ h1,h2⟩
  | dead=>trivial
 sep:=fun b k i k' i' h1 h2=>by
  have back:∀{k i},fJ H' ι Ω k i b→fJ H ι Ω k i b:=fun h=>h.to (fun a ha=>⟨ha,fun o ho=>by
   obtain⟨o',jU⟩:=w.live a (oA ha);have:=s _ _ jU;rw [ho]at this;cases this;exact jU⟩) fun _ _ q=>q
  exact w.sep b k i k' i' (back h1) (back h2)
theorem tI{α:Type}:∀{l:List α} {i j:Nat} {x:α},l.Nodup→l[i]? = some x→l[j]? = some x→i=j
 | [],_,_,_,_,h,_=>by simp at h
 | y::l,0,0,_,_,_,_=>rfl
 | y::l,0,j+1,x,n,h1,h2=>by
  simp at h1 h2;subst h1;exact absurd (oA h2) (lU.mp n).1
 | y::l,i+1,0,x,n,h1,h2=>by
  simp at h1 h2;subst h2;exact absurd (oA h1) (lU.mp n).1
 | y::l,i+1,j+1,x,n,h1,h2=>by
  simp at h1 h2;rw [tI (lU.mp n).2 h1 h2]
theorem yK{α:Type}{l:List α}{k:Nat}{x:α}(h:l[k]? = some x):x∈l:=oA h
theorem Ext.new(hp:G p=none)(o:HO):Ext G ι (upd G p o) ι:=⟨fA.new hp,fun _ _ h=>h⟩
theorem Wd.new(w:Wd K G ι Ω H)(hp:H p=none)(o:HO):Wd K (upd G p o) ι Ω (upd H p o)where
 sub:=fun b u h=>by
  by_cases e:b=p
  ·subst e;rw [cW]at h ⊢;exact h
  ·rw [aT e]at h ⊢;exact w.sub _ _ h
 inj:=w.inj
 len:=w.len
 live:=fun a ha=>by rw [aT (w.ne hp ha)];exact w.live a ha
 aE:=fun k c a h1 h2=>by
  have n:=w.ne hp (yK h2);exact(w.aE k c a h1 h2).mono (Ext.new (w.mD hp) o) (aT n) (aT n) fun b u x y z=>by
   have nb:b≠p:=gE z hp;exact⟨x,by rw [aT nb];exact y,by rw [aT nb];exact z⟩
 sep:=fun b k i k' i' h1 h2=>by
  have back:∀{k i},fJ (upd H p o) ι Ω k i b→fJ H ι Ω k i b:=fun h=>h.to (fun a ha=>⟨ha,fun u hu=>by rwa [aT (w.ne hp (oA ha))]at hu⟩) fun _ _ q=>q;exact w.sep b k i k' i' (back h1) (back h2)
theorem Ext.cell(x:Addr):Ext G ι G (ι++[x]):=⟨fA.refl _,fun k a h=>by
 rw [fV (cL.mp h).1];exact h⟩
theorem Wd.cell(w:Wd K G ι Ω H)(hp:H p=none){o:HO}{c:Cell}(hc:lG K G (ι++[p]) (upd H p o) p c)(vQ:c.noOwn=true:=by rfl):Wd K G (ι++[p]) (Ω++[c]) (upd H p o)where
 sub:=fun b u h=>by
  have e:b≠p:=fun e=>by subst e;rw [w.sub _ _ h]at hp;cases hp
  rw [aT e];exact w.sub _ _ h
 inj:=by
  rw [Aa];exact⟨w.inj,by simp,fun a ha b hb=>by simp at hb;subst hb;exact w.ne hp ha⟩
 len:=by simp [w.len]
 live:=fun a ha=>by
  rcases LZ.mp ha with h | h
  ·rw [aT (w.ne hp h)];exact w.live a h
  ·simp at h;subst h;exact⟨o,cW⟩
 aE:=fun k c' a h1 h2=>by
  by_cases hk:k<ι.length
  ·rw [fV hk]at h2;rw [fV (by rw [← w.len];exact hk)]at h1;exact(w.aE k c' a h1 h2).mono (Ext.cell p) rfl (aT (w.ne hp (yK h2))) fun b u x y z=>by
    have nb:b≠p:=gE z hp;exact⟨by simp [x,nb],y,by rw [aT nb];exact z⟩
  ·have eY:k=ι.length:=by
    have:=(cL.mp h2).1;simp at this;omega
   subst eY;simp at h2;subst h2;rw [w.len]at h1;simp at h1;subst h1;exact hc
 sep:=fun b k i k' i' h1 h2=>by
  have back:∀{k i},fJ (upd H p o) (ι++[p]) (Ω++[c]) k i b→fJ H ι Ω k i b:=fun{k i} h=>by
   have h0:=h;obtain⟨a,cls,fs,C,dx,ws,g,h',fd,q1,q2,q3,q4,q5,q6⟩:=h
   by_cases hk:k<Ω.length
   ·rw [fV hk]at q2;rw [fV (by rw [w.len];exact hk)]at q1;rw [aT (w.ne hp (yK q1))]at q3;exact⟨a,cls,fs,C,dx,ws,g,h',fd,q1,q2,q3,q4,q5,q6⟩
   ·have eY:k=Ω.length:=by
     have:=(cL.mp q2).1;simp at this;omega
    subst eY;exact(h0.no (by simp) vQ).elim
  exact w.sep b k i k' i' (back h1) (back h2)
theorem Wd.put(w:Wd K G ι Ω H){k:Nat}{c:Cell}{o:HO}(hk:ι[k]? = some a)(hg:G a=none)(hc:lG K G ι (upd H a o) a c)(vQ:c.noOwn=true:=by rfl):Wd K G ι (Ω.set k c) (upd H a o)where
 sub:=fun b u h=>by
  have e:b≠a:=fun e=>by subst e;rw [hg]at h;cases h
  rw [aT e];exact w.sub _ _ h
 inj:=w.inj
 len:=by rw [AD];exact w.len
 live:=fun b hb=>by
  by_cases e:b=a
  ·subst e;exact⟨o,cW⟩
  ·rw [aT e];exact w.live b hb
 aE:=fun j c' b h1 h2=>by
  by_cases hj:j=k
  ·subst hj;rw [hk]at h2;cases h2;have hl:j<Ω.length:=by rw [← w.len];exact(cL.mp hk).1
   rw [fU hl]at h1;cases h1;exact hc
  ·rw [iL (bT hj)]at h1;have cQ:b≠a:=fun e=>by
    subst e;exact hj (tI w.inj h2 hk)
   exact(w.aE j c' b h1 h2).mono (Ext.refl _ _) rfl (aT cQ) fun b u x y z=>by
    have nb:b≠a:=fun e=>by subst e;exact x (yK hk)
    exact⟨x,y,by rw [aT nb];exact z⟩
 sep:=fun b j i j' i' h1 h2=>by
  have back:∀{j i},fJ (upd H a o) ι (Ω.set k c) j i b→fJ H ι Ω j i b:=fun{j i} h=>by
   have h0:=h;obtain⟨a',cls,fs,C,dx,ws,g,h',fd,q1,q2,q3,q4,q5,q6⟩:=h
   by_cases hj:j=k
   ·subst hj;have hl:j<Ω.length:=by rw [← w.len];exact(cL.mp hk).1
    exact(h0.no (by rw [fU hl]) vQ).elim
   ·rw [iL (bT hj)]at q2;have cQ:a'≠a:=fun e=>by subst e;exact hj (tI w.inj q1 hk)
    rw [aT cQ]at q3;exact⟨a',cls,fs,C,dx,ws,g,h',fd,q1,q2,q3,q4,q5,q6⟩
  exact w.sep b j i j' i' (back h1) (back h2)
theorem Wd.freeze(w:Wd K G ι Ω H){k:Nat}{o:HO}(hk:ι[k]? = some a)(hg:G a=none)(ho:H a=some o):Wd K (upd G a o) ι (Ω.set k .dead) H where
 sub:=fun b u h=>by
  by_cases e:b=a
  ·subst e;rw [cW]at h;cases h;exact ho
  ·rw [aT e]at h;exact w.sub _ _ h
 inj:=w.inj
 len:=by rw [AD];exact w.len
 live:=w.live
 aE:=fun j c' b h1 h2=>by
  by_cases hj:j=k
  ·subst hj;have hl:j<Ω.length:=by rw [← w.len];exact(cL.mp hk).1
   rw [fU hl]at h1;cases h1;trivial
  ·rw [iL (bT hj)]at h1;have cQ:b≠a:=fun e=>by
    subst e;exact hj (tI w.inj h2 hk)
   exact(w.aE j c' b h1 h2).mono (Ext.new hg o) (aT cQ) rfl fun b u x y z=>by
    have nb:b≠a:=fun e=>by subst e;exact x (yK hk)
    exact⟨x,by rw [aT nb];exact y,z⟩
 sep:=fun b j i j' i' h1 h2=>by
  have back:∀{j i},fJ H ι (Ω.set k .dead) j i b→fJ H ι Ω j i b:=fun{j i} h=>by
   have h0:=h;obtain⟨a',cls,fs,C,dx,ws,g,h',fd,q1,q2,q3,q4,q5,q6⟩:=h
   by_cases hj:j=k
   ·subst hj;have hl:j<Ω.length:=by rw [← w.len];exact(cL.mp hk).1
    exact(h0.no (by rw [fU hl]) rfl).elim
   ·rw [iL (bT hj)]at q2;exact⟨a',cls,fs,C,dx,ws,g,h',fd,q1,q2,q3,q4,q5,q6⟩
  exact w.sep b j i j' i' (back h1) (back h2)
end
def eW(K:Frag)(G:Hp)(ι:List Addr)(σ:L2.St)(ρ:Ev):Prop:=σ.length=ρ.length∧∀(i:Nat) (d:A),ρ[i]? = some (some d)→∃v,σ[i]? = some (some v)∧Den K G ι v d
theorem eW.ext{K:Frag}{G G':Hp}{ι ι':List Addr}{σ:L2.St}{ρ:Ev}(r:eW K G ι σ ρ)(e:Ext G ι G' ι'):eW K G' ι' σ ρ:=⟨r.1,fun i d h=>let ⟨v,h1,h2⟩:=r.2 i d h; ⟨v,h1,h2.ext e⟩⟩
theorem eW.set{K:Frag}{G:Hp}{ι:List Addr}{σ:L2.St}{ρ:Ev}(r:eW K G ι σ ρ)(j:Nat){v:V}{d:A}(h:Den K G ι v d):eW K G ι (σ.set j (some v)) (ρ.set j (some d)):=by
 refine⟨by rw [AD,AD];exact r.1,fun i e he=>?_⟩
 by_cases nA:i=j
 ·subst nA;have hl:i<ρ.length:=by
   have:=(cL.mp he).1;rwa [AD]at this
  rw [fU hl]at he;cases he;exact⟨v,fU (by rw [r.1];exact hl),h⟩
 ·rw [iL (bT nA)]at he ⊢;exact r.2 i e he
def Na(K:Frag)(G:Hp)(ι:List Addr)(H:Hp)(x:Exc)(cls:Value)(dx:Option Addr):Prop :=
 (∃C,nsIn K mainGlobals x.cls=some (some (.ref C))∧cls = .ref C)∧((x.fs=[]∧dx=none)∨∃d f i,dx=some d∧x.fs=[(f,.int i)]∧G d=some (.xd [(f,.int i)]))
abbrev Rl(α β:Type):=Hp→List Addr→β→α→Prop
def aY{α β:Type}(K:Frag)(rel:Rl α β)(W:WX)(G:Hp)(ι:List Addr)(σ:L2.St)(Q:β→Hp→Prop):Option (Rs α×aI)→Prop
 | some (.ok a,Ω')=>∀v H' G' ι',Ext G ι G' ι'→Wd K G' ι' Ω' H'→rel G' ι' v a→Q v H'
 | some (.exc x,Ω')=>∀cls dx H' G' ι',Ext G ι G' ι'→Wd K G' ι' Ω' H'→Na K G' ι' H' x cls dx→W σ cls dx H'
 | none=>False
theorem aY.ext{α β:Type}{K:Frag}{rel:Rl α β}{W:WX}{G G1:Hp}{ι ι1:List Addr}{σ:L2.St}{Q:β→Hp→Prop}{r:Option (Rs α×aI)}(h:aY K rel W G ι σ Q r)(e:Ext G ι G1 ι1):aY K rel W G1 ι1 σ Q r:=by
 match r,h with
 | some (.ok a,Ω'),h=>exact fun v H' G' ι' x w d=>h v H' G' ι' (e.trans x) w d
 | some (.exc x,Ω'),h=>exact fun cls dx H' G' ι' x w d=>h cls dx H' G' ι' (e.trans x) w d
theorem aY.mb{α β γ δ:Type}{K:Frag}{rel:Rl α β}{sY:Rl γ δ}{W:WX}{G:Hp}{ι:List Addr}{σ:L2.St}{Q:δ→Hp→Prop}{Q1:β→Hp→Prop}{m:Mo α}{k:α→Mo γ}{Ω:aI}(h:aY K sY W G ι σ Q (mb m k Ω))
  (hk:∀a Ω1 v H1 G1 ι1,Ext G ι G1 ι1→Wd K G1 ι1 Ω1 H1→rel G1 ι1 v a→aY K sY W G1 ι1 σ Q (k a Ω1)→Q1 v H1):aY K rel W G ι σ Q1 (m Ω):=by
 unfold V2.mb at h
 revert h
 generalize m Ω=r;intro h
 match r,h with
 | some (.ok a,Ω1),h=>exact fun v H1 G1 ι1 x w d=>hk a Ω1 v H1 G1 ι1 x w d (aY.ext h x)
 | some (.exc x,Ω1),h=>exact h
theorem aY.need{α β γ:Type}{K:Frag}{sY:Rl α β}{W:WX}{G:Hp}{ι:List Addr}{σ:L2.St}{Q:β→Hp→Prop}{o:Option γ}{k:γ→Mo α}{Ω:aI}(h:aY K sY W G ι σ Q (V2.mb (need o) k Ω)):∃a,o=some a∧aY K sY W G ι σ Q (k a Ω):=by
 cases o with
 | none=>exact False.elim h
 | some a=>exact⟨a,rfl,h⟩
theorem aY.lA{α β:Type}{K:Frag}{sY:Rl α β}{W:WX}{G:Hp}{ι:List Addr}{σ:L2.St}{Q:β→Hp→Prop}{p:Prop} [Decidable p]{k:Unit→Mo α}{Ω:aI}(h:aY K sY W G ι σ Q (V2.mb (lA p) k Ω)):p∧aY K sY W G ι σ Q (k () Ω):=by
 unfold V2.mb V2.lA at h
 by_cases hp:p
 ·rw [if_pos hp]at h;exact⟨hp,h⟩
 ·rw [if_neg hp]at h;exact False.elim h
def dX{α β:Type}(K:Frag)(rel:Rl α β)(W:WX)(t:L2.St→Hp→(β→Hp→Prop)→Prop)(f:Ev→Mo α):Prop :=
 ∀G ι Ω H σ ρ Q,Wd K G ι Ω H→eW K G ι σ ρ→aY K rel W G ι σ Q (f ρ Ω)→t σ H Q
def yB:Rl Bool Bool:=fun _ _ b c=>b=c
def VE(X:Cx)(W:WX)(e:Expr)(f:Ev→Mo A):Prop:=∃t,PE X e t∧dX X.K (Den X.K) W t f
def VT(X:Cx)(W:WX)(e:Expr)(f:Ev→Mo Bool):Prop:=∃t,PT X e t∧dX X.K yB W t f
def VW(X:Cx)(W:WX)(e:Expr)(f:Ev→Mo Bool):Prop:=∃t,PW X e t∧dX X.K yB W t f
def VA(X:Cx)(W:WX)(es:List Expr)(f:Ev→Mo (List A)):Prop:=∃t,PA X es t∧dX X.K (aK X.K) W t f
end V2
namespace V2
open PySem PySem.Spec PyProof.Rows L2
section
variable{K:Frag}{G H:Hp}{ι:List Addr}{Ω:aI}{v:V}{a:A}
def cX(Ω:aI):A→Option (List A)
 | .lst ds=>some ds
 | .bY ns=>some (ns.map A.int)
 | .aE k=>match Ω[k]? with
  | some (.lst ds)=>some ds
  | _=>none
 | _=>none
def gY(Ω:aI):A→Option (List A)
 | .tup ds=>some ds
 | a=>cX Ω a
theorem oQ(w:Wd K G ι Ω H)(d:Den K G ι v a){ds:List A}(h:cX Ω a=some ds):∃p xs,v = .ref p∧eE K H p xs∧aK K G ι xs ds:=by
 cases a with
 | lst es =>
  simp only [cX,gW]at h;subst h;simp only [Den]at d;obtain⟨p,xs,h1,h2,h3⟩:=d;exact⟨p,xs,h1,eE.of (w.sub _ _ h2),h3⟩
 | bY ns =>
  simp only [cX,gW]at h;subst h;simp only [Den]at d;obtain⟨p,h1,h2⟩:=d;exact⟨p,_,h1,w.sub.seq h2,EG ns⟩
 | aE k =>
  simp only [cX]at h;cases e:Ω[k]? with
  | none=>rw [e]at h;cases h
  | some c =>
   rw [e]at h;cases c with
   | lst es =>
    simp only [gW]at h;subst h;simp only [Den]at d;obtain⟨p,h1,h2⟩:=d;obtain⟨g,xs,h3,h4⟩:=w.aE k _ p e h2;exact⟨p,xs,h1,eE.of h3,h4⟩
   | _=>cases h
 | _=>simp [cX]at h
theorem OP(w:Wd K G ι Ω H)(d:Den K G ι v a){ds:List A}(h:gY Ω a=some ds):∃p xs,v = .ref p∧(eE K H p xs∨eZ K H p xs)∧aK K G ι xs ds:=by
 cases a with
 | tup es =>
  simp only [gY,gW]at h;subst h;simp only [Den]at d;obtain⟨p,xs,h1,h2,h3⟩:=d;exact⟨p,xs,h1,.inr (eZ.of (w.sub _ _ h2)),h3⟩
 | _ =>
  obtain⟨p,xs,h1,h2,h3⟩:=oQ w d h;exact⟨p,xs,h1,.inl h2,h3⟩
theorem Ex(w:Wd K G ι Ω H)(d:Den K G ι v a){ds:List A}(h:cX Ω a=some ds)(hs:∀ns,a ≠ .bY ns):∃p xs,v = .ref p∧H p=some (.lst xs)∧aK K G ι xs ds:=by
 cases a with
 | lst es =>
  simp only [cX,gW]at h;subst h;simp only [Den]at d;obtain⟨p,xs,h1,h2,h3⟩:=d;exact⟨p,xs,h1,w.sub _ _ h2,h3⟩
 | bY ns=>exact absurd rfl (hs ns)
 | aE k =>
  simp only [cX]at h;cases e:Ω[k]? with
  | none=>rw [e]at h;cases h
  | some c =>
   rw [e]at h;cases c with
   | lst es =>
    simp only [gW]at h;subst h;simp only [Den]at d;obtain⟨p,h1,h2⟩:=d;obtain⟨g,xs,h3,h4⟩:=w.aE k _ p e h2;exact⟨p,xs,h1,h3,h4⟩
   | _=>cases h
 | _=>simp [cX]at h
end
@[simp] def jS(c:Bool)(ds:List A):Mo A:=fun Ω=>if c then some (.ok (.aE Ω.length),Ω++[.lst ds])else some (.ok (.lst ds),Ω)
section
variable{K:Frag}{G H:Hp}{ι:List Addr}{Ω:aI}{W:WX}{σ:L2.St}{Q:VK}
theorem oO{c:Bool}{ds:List A}{xs:List V}{p:Addr}(w:Wd K G ι Ω H)(hp:H p=none)(d:aK K G ι xs ds)(h:aY K (Den K) W G ι σ Q (jS c ds Ω)):Q (.ref p) (upd H p (.lst xs)):=by
 cases c with
 | true =>
  refine h _ _ G (ι++[p]) (Ext.cell p) (w.cell hp ⟨w.mD hp,xs,cW,d.ext (Ext.cell p)⟩) ?_;simp only [Den];exact⟨p,rfl,by rw [← w.len];simp⟩
 | false =>
  refine h _ _ _ _ (Ext.new (w.mD hp) (.lst xs)) (w.new hp _) ?_;simp only [Den];exact⟨p,xs,rfl,cW,d.ext (Ext.new (w.mD hp) _)⟩
@[simp] def QW(ds:List A):Mo A:=ret (.tup ds)
theorem Fx{ds:List A}{xs:List V}{p:Addr}(w:Wd K G ι Ω H)(hp:H p=none)(d:aK K G ι xs ds)(h:aY K (Den K) W G ι σ Q (QW ds Ω)):Q (.ref p) (upd H p (.tup xs)):=by
 refine h _ _ _ _ (Ext.new (w.mD hp) (.tup xs)) (w.new hp _) ?_;simp only [Den];exact⟨p,xs,rfl,cW,d.ext (Ext.new (w.mD hp) _)⟩
theorem iE{α β:Type}{rel:Rl α β}{Q:β→Hp→Prop}{a:α}{b:β}(w:Wd K G ι Ω H)(d:rel G ι b a)(h:aY K rel W G ι σ Q (ret a Ω)):Q b H:=h b H G ι (Ext.refl _ _) w d
end
section
variable{X:Cx}{W:WX}{e a b:Expr}{es:List Expr}{pos:Pos}{fa fb:Ev→Mo A}{fs:Ev→Mo (List A)}
@[simp] def dB(i:Nat):Ev→Mo A:=fun ρ=>need (ρ[i]?).join
theorem join_some{α:Type}{o:Option (Option α)}{x:α}(h:o.join=some x):o=some (some x):=by
 cases o with
 | none=>cases h
 | some y=>cases y with
  | none=>cases h
  | some z=>cases h;rfl
theorem Vx{K:Frag}{i:Nat}:dX K (Den K) W (Co i) (dB i):=by
 intro G ι Ω H σ ρ Q w r h;unfold dB need at h;cases e:(ρ[i]?).join with
 | none=>rw [e]at h;exact False.elim h
 | some d =>
  rw [e]at h;obtain⟨v,h1,h2⟩:=r.2 i d (join_some e);exact⟨v,h1,h v H G ι (Ext.refl _ _) w h2⟩
theorem vv(i:Nat){x:Str}(hN:X.N[i]? = some x:=by rfl)(hv:YX X.env.scope x:=by first | exact Or.inl rfl | exact Or.inr (Or.inl rfl) | exact Or.inr (Or.inr rfl))(hd:(x == ("__debug__" : Str))=false:=by decide)
  (jE:(x == ("__classdict__" : Str))=false:=by decide):VE X W (.Name x pos) (dB i):=⟨_,Zq hN hv hd jE,Vx⟩
theorem BN{K:Frag}{v:V}{d:A}(h:∀G ι,Den K G ι v d):dX K (Den K) W (tC v) (fun _=>ret d):=fun G ι _ _ _ _ _ w _ q=>iE w (h G ι) q
theorem aP{i:Int}{j}:VE X W (.Constant (.int i) j pos) (fun _=>ret (.int i)):=⟨_,aaI,BN fun _ _=>by simp only [Den]⟩
theorem mQ{i:Bool}{j}:VE X W (.Constant (.bool i) j pos) (fun _=>ret (.bl i)):=⟨_,aaS,BN fun _ _=>by simp only [Den]⟩
theorem uN{j}:VE X W (.Constant .none j pos) (fun _=>ret .aZ):=⟨_,Zx,BN fun _ _=>by simp only [Den]⟩
theorem Of{x:Str}{i:Int}(hg:Gl X x)(hm:∃t,X.mg x=some (.int i t))(hd:(x == ("__debug__" : Str))=false:=by decide):VE X W (.Name x pos) (fun _=>ret (.int i)):=by
 obtain⟨t,hm⟩:=hm;exact⟨_,aaJ (v := .int i) hg hm ⟨t,rfl⟩ hd,BN fun _ _=>by simp only [Den]⟩
theorem AX{x:Str}{n:String}(hg:Gl X x)(hm:X.mg x=none)(hv:bootBuiltins x=some (.type n))(hn:x ≠ "__name__":=by decide)(hd:(x == ("__debug__" : Str))=false:=by decide):VE X W (.Name x pos) (fun _=>ret (.ty n)) :=
 ⟨_,aaR (v := .ty n) hg hm hv rfl hn hd,BN fun _ _=>by simp only [Den]⟩
theorem bC:VA X W [] (fun _=>ret []):=⟨_,tD,fun _ _ _ _ _ _ _ w _ q=>iE w .nil q⟩
@[simp] def aG(f:Ev→Mo A)(g:Ev→Mo (List A)):Ev→Mo (List A):=fun ρ=>mb (f ρ) fun x=>mb (g ρ) fun xs=>ret (x::xs)
theorem aL(h1:VE X W e fa)(h2:VA X W es fs)(hs:starEach (e::es) X.env=(false,eval e X.env)::starEach es X.env:=by rfl):VA X W (e::es) (aG fa fs):=by
 obtain⟨t,p1,s1⟩:=h1;obtain⟨u,p2,s2⟩:=h2;refine⟨_,tE p1 p2 hs,fun G ι Ω H σ ρ Q w r h=>?_⟩;refine s1 G ι Ω H σ ρ _ w r (aY.mb h fun x Ω1 v H1 G1 ι1 x1 w1 d1 h1=>?_);refine s2 G1 ι1 Ω1 H1 σ ρ _ w1 (r.ext x1) (aY.mb h1 fun xs Ω2 vs H2 G2 ι2 x2 w2 d2 h2=>?_);exact iE w2 (.cons (d1.ext x2) d2) h2
@[simp] def pG(g:Ev→Mo (List A)):Ev→Mo A:=fun ρ=>mb (g ρ) fun xs=>mb (lA (xs.length≤sizeLine)) fun _=>QW xs
theorem AY{k}(h:VA X W es fs):VE X W (.Tuple es k pos) (pG fs):=by
 obtain⟨t,p,s⟩:=h;refine⟨_,Zr p,fun G ι Ω H σ ρ Q w r h=>?_⟩;refine s G ι Ω H σ ρ _ w r (aY.mb h fun xs Ω1 vs H1 G1 ι1 x1 w1 d1 h1=>?_);obtain⟨hl,h2⟩:=aY.lA h1;exact⟨by rw [d1.length];exact hl,fun p hp=>Fx w1 hp d1 h2⟩
@[simp] def qU(c:Bool)(g:Ev→Mo (List A)):Ev→Mo A:=fun ρ=>mb (g ρ) fun xs=>mb (lA (xs.length≤sizeLine)) fun _=>jS c xs
theorem GK(c:Bool)(h:VA X W es fs):VE X W (.List es pos) (qU c fs):=by
 obtain⟨t,p,s⟩:=h;refine⟨_,aaC p,fun G ι Ω H σ ρ Q w r h=>?_⟩;refine s G ι Ω H σ ρ _ w r (aY.mb h fun xs Ω1 vs H1 G1 ι1 x1 w1 d1 h1=>?_);obtain⟨hl,h2⟩:=aY.lA h1;exact⟨by rw [d1.length];exact hl,fun p hp=>oO w1 hp d1 h2⟩
def sC(K:Frag)(W:WX)(r:R2)(g:A→A→Mo A):Prop :=
 ∀G ι Ω H σ x y a b Q,Wd K G ι Ω H→Den K G ι x a→Den K G ι y b→aY K (Den K) W G ι σ Q (g a b Ω)→r x y H Q
def jI(X:Cx)(W:WX)(f:Value→Value→Sem Value)(g:A→A→Mo A):Prop:=∃r,fB X f r∧sC X.K W r g
@[simp] def aC(g:A→A→Mo A)(f h:Ev→Mo A):Ev→Mo A:=fun ρ=>mb (f ρ) fun x=>mb (h ρ) fun y=>g x y
theorem HE{K:Frag}{r:R2}{g:A→A→Mo A}{ta tb:TE}(ho:sC K W r g)(h1:dX K (Den K) W ta fa)(h2:dX K (Den K) W tb fb):dX K (Den K) W (BH r ta tb) (aC g fa fb):=by
 intro G ι Ω H σ ρ Q w q h;refine h1 G ι Ω H σ ρ _ w q (aY.mb h fun x Ω1 v H1 G1 ι1 x1 w1 d1 h1=>?_);refine h2 G1 ι1 Ω1 H1 σ ρ _ w1 (q.ext x1) (aY.mb h1 fun y Ω2 u H2 G2 ι2 x2 w2 d2 h2=>?_);exact ho G2 ι2 Ω2 H2 σ v u x y Q w2 (d1.ext x2) d2 h2
theorem bA{op:Operator}{g:A→A→Mo A}(ho:jI X W (binaryOp op) g)(ha:VE X W a fa)(hb:VE X W b fb):VE X W (.BinOp a op b pos) (aC g fa fb):=by
 obtain⟨r,o1,o2⟩:=ho;obtain⟨t,p1,s1⟩:=ha;obtain⟨u,p2,s2⟩:=hb;exact⟨_,Zu o1 p1 p2,HE o2 s1 s2⟩
@[simp] def gI(C:Int→Int→Prop) [∀i j,Decidable (C i j)](g:Int→Int→A):A→A→Mo A
 | .int i,.int j=>mb (lA (C i j)) fun _=>ret (g i j)
 | _,_=>stuck
theorem HW{K:Frag}{C:Int→Int→Prop} [∀i j,Decidable (C i j)]{g:Int→Int→V}{g':Int→Int→A}(hg:∀G ι i j,Den K G ι (g i j) (g' i j)):sC K W (rI C g) (gI C g'):=by
 intro G ι Ω H σ x y a b Q w d1 d2 h;cases a with
 | int i =>
  cases b with
  | int j =>
   simp only [Den]at d1 d2;obtain⟨hc,h2⟩:=aY.lA h;exact⟨i,j,d1,d2,hc,iE w (hg _ _ _ _) h2⟩
  | _=>exact False.elim h
 | _=>exact False.elim h
@[simp] def zC(g:Int→Int→A):A→A→Mo A
 | .int i,.int j=>ret (g i j)
 | _,_=>stuck
theorem CD{K:Frag}{g:Int→Int→V}{g':Int→Int→A}(hg:∀G ι i j,Den K G ι (g i j) (g' i j)):sC K W (rB g) (zC g'):=by
 intro G ι Ω H σ x y a b Q w d1 d2 h;cases a with
 | int i =>
  cases b with
  | int j =>
   simp only [Den]at d1 d2;exact⟨i,j,d1,d2,iE w (hg _ _ _ _) h⟩
  | _=>exact False.elim h
 | _=>exact False.elim h
instance:∀i j,Decidable (kK i j):=fun i j=>by unfold kK;infer_instance
instance:∀i j,Decidable (oG i j):=fun i j=>by unfold oG;infer_instance
instance:∀i j,Decidable (FX i j):=fun i j=>by unfold FX;infer_instance
@[simp] def qA:=zC fun i j => .int (i - j)
@[simp] def nW:=gI kK fun i j => .int (i*j)
@[simp] def jV:=gI oG fun i j => .int (i/j)
@[simp] def eG:=gI (fun _ j=>0<j) fun i j => .int (i%j)
@[simp] def Iv:=gI FX fun i j => .int (i ^ j.toNat)
theorem CF:jI X W (binaryOp .Sub) qA:=⟨_,aa3,CD fun _ _ _ _=>by simp only [Den]⟩
theorem rC:jI X W (binaryOp .Mult) nW:=⟨_,aa7,HW fun _ _ _ _=>by simp only [Den]⟩
theorem oN:jI X W (binaryOp .FloorDiv) jV:=⟨_,abE,HW fun _ _ _ _=>by simp only [Den]⟩
theorem gZ:jI X W (binaryOp .Mod) eG:=⟨_,aa8,HW fun _ _ _ _=>by simp only [Den]⟩
theorem abP:jI X W (binaryOp .Pow) Iv:=⟨_,aa4,HW fun _ _ _ _=>by simp only [Den]⟩
@[simp] def yQ:A→Bool
 | .bY _=>true
 | _=>false
theorem Fq{a:A}(h:yQ a=false):∀ns,a ≠ .bY ns:=fun ns e=>by subst e;cases h
@[simp] def JV(c:Bool)(a b:A):Mo A:=fun Ω=>match cX Ω a,cX Ω b with
  | some xs,some ys=>if yQ a||yQ b||decide (sizeLine<xs.length+ys.length)then none else jS c (xs++ys) Ω
  | _,_=>none
@[simp] def WO(c:Bool):A→A→Mo A
 | .int i,.int j=>ret (.int (i+j))
 | .tup xs,.tup ys=>mb (lA (0<xs.length∧xs.length+ys.length≤sizeLine)) fun _=>QW (xs++ys)
 | a,b=>JV c a b
theorem aa2{K:Frag}{c:Bool}:sC K W Eo (JV c):=by
 intro G ι Ω H σ x y a b Q w d1 d2 h;unfold JV at h
 match e1:cX Ω a,e2:cX Ω b with
 | none,_=>rw [e1]at h;exact False.elim h
 | some xs,none=>rw [e1,e2]at h;exact False.elim h
 | some xs,some ys =>
  rw [e1,e2]at h;simp only at h
  by_cases hb:(yQ a||yQ b||decide (sizeLine<xs.length+ys.length))=true
  ·rw [if_pos hb]at h;exact False.elim h
  ·rw [if_neg hb]at h;simp only [Bool.or_eq_true,zL,not_or,Bool.not_eq_true]at hb;obtain⟨p,us,rfl,h2,h3⟩:=Ex w d1 e1 (Fq hb.1.1);obtain⟨q,ws,rfl,h5,h6⟩:=Ex w d2 e2 (Fq hb.1.2);exact⟨p,q,us,ws,rfl,rfl,h2,h5,by rw [h3.length,h6.length];omega,fun r hr=>oO w hr (h3.append h6) h⟩
theorem fG(c:Bool):jI X W (binaryOp .Add) (WO c):=by
 refine⟨_,abI.or (abH.or abG),?_⟩;intro G ι Ω H σ x y a b Q w d1 d2 h;unfold WO at h;split at h
 ·simp only [Den]at d1 d2;exact .inl ⟨_,_,d1,d2,iE w (by simp only [Den]) h⟩
 ·rename_i xs ys;simp only [Den]at d1 d2;obtain⟨p,us,rfl,h2,h3⟩:=d1;obtain⟨q,ws,rfl,h5,h6⟩:=d2;obtain⟨⟨c1,c2⟩,h⟩:=aY.lA h;refine .inr (.inr ⟨p,q,us,ws,rfl,rfl,eZ.of (w.sub _ _ h2),eZ.of (w.sub _ _ h5),?_,by rw [h3.length,h6.length];exact c2,fun e=>?_,fun _ r hr=>Fx w hr (h3.append h6) h⟩)
  ·intro e;subst e;have:=h3.length;simp at this;omega
  ·subst e;refine iE w ?_ h;simp only [Den];exact⟨p,us,rfl,h2,by simpa using h3.append h6⟩
 ·exact .inr (.inl (aa2 G ι Ω H σ x y _ _ Q w d1 d2 h))
end
def bX:Nat→A→Bool
 | _,.int _=>true
 | _,.bl _=>true
 | _,.aZ=>true
 | _,.str x=>PyData.canLay0 (.str x)
 | n+1,.tup ds=>ds.all (bX n)
 | n+1,.lst ds=>ds.all (bX n)
 | _,_=>false
def tV(f:A→A→Bool):List A→List A→Bool
 | [],[]=>true
 | x::xs,y::ys=>f x y&&tV f xs ys
 | _,_=>false
def eT:Nat→A→A→Bool
 | _,.int i,.int j=>i == j
 | _,.bl i,.bl j=>i == j
 | _,.bl i,.int j=>(if i then 1 else 0) == j
 | _,.int i,.bl j=>i == (if j then 1 else 0)
 | _,.aZ,.aZ=>true
 | _,.str x,.str y=>x == y
 | n+1,.tup xs,.tup ys=>tV (eT n) xs ys
 | n+1,.lst xs,.lst ys=>tV (eT n) xs ys
 | _,_,_=>false
def toPy:Nat→A→PyData
 | _,.int i => .int i
 | _,.bl i => .bool i
 | _,.str x => .str x
 | n+1,.tup ds => .tuple (ds.map (toPy n))
 | n+1,.lst ds => .list (ds.map (toPy n))
 | _,_ => .none
theorem KO:∀(ds:List A) (n:Nat),(∀d∈ds,bX n d=true→PyData.canLay0 (toPy n d)=true)→ds.all (bX n)=true→PyData.canLayAll0 (ds.map (toPy n))=true
 | [],_,_,_=>rfl
 | d::ds,n,ih,h=>by
  simp only [Ag,jY]at h;simp only [cF,PyData.canLayAll0,jY];exact⟨ih d nR h.1,KO ds n (fun e he=>ih e (fP _ he)) h.2⟩
theorem xU:∀(n:Nat) (a:A),bX n a=true→PyData.canLay0 (toPy n a)=true:=by
 intro n
 induction n with
 | zero=>intro a h;cases a <;> first | rfl | exact h | cases h
 | succ n ih =>
  intro a h;cases a with
  | tup ds=>exact KO ds n (fun d _=>ih d) h
  | lst ds=>exact KO ds n (fun d _=>ih d) h
  | str x=>exact h
  | int i=>rfl
  | bl b=>rfl
  | aZ=>rfl
  | _=>cases h
theorem XG:∀(ds:List A) (n:Nat),(∀d∈ds,(toPy n d).depth≤n)→PyData.depthAll (ds.map (toPy n))≤n
 | [],_,_=>zV _
 | d::ds,n,ih=>by
  simp only [cF,PyData.depthAll];exact Nat.max_le.mpr ⟨ih d nR,XG ds n fun e he=>ih e (fP _ he)⟩
theorem OB:∀(n:Nat) (a:A),(toPy n a).depth≤n:=by
 intro n
 induction n with
 | zero=>intro a;cases a <;> exact mJ _
 | succ n ih =>
  intro a;cases a with
  | tup ds=>exact Nat.succ_le_succ (XG ds n fun d _=>ih d)
  | lst ds=>exact Nat.succ_le_succ (XG ds n fun d _=>ih d)
  | _=>exact zV _
theorem Jp:∀(xs ys:List A) (n:Nat),(∀x∈xs,∀y∈ys,PyData.eqv (toPy n x) (toPy n y)=eT n x y)→PyData.eqvAll (xs.map (toPy n)) (ys.map (toPy n))=tV (eT n) xs ys
 | [],[],_,_=>rfl
 | [],_::_,_,_=>rfl
 | _::_,[],_,_=>rfl
 | x::xs,y::ys,n,ih=>by
  simp only [cF,PyData.eqvAll,tV];rw [ih x nR y nR,Jp xs ys n fun a ha b hb=>ih a (fP _ ha) b (fP _ hb)]
theorem OA:∀(n:Nat) (a b:A),bX n a=true→bX n b=true→PyData.eqv (toPy n a) (toPy n b)=eT n a b:=by
 intro n
 induction n with
 | zero=>intro a b ha hb;cases a <;> cases b <;> first | rfl | (simp [bX]at ha;done) | (simp [bX]at hb;done)
 | succ n ih =>
  intro a b ha hb;have lst:∀xs ys:List A,xs.all (bX n)=true→ys.all (bX n)=true→PyData.eqvAll (xs.map (toPy n)) (ys.map (toPy n))=tV (eT n) xs ys:=fun xs ys h1 h2 =>
   Jp xs ys n fun x hx y hy=>ih x y (FF.mp h1 x hx) (FF.mp h2 y hy)
  cases a <;> cases b <;> first | rfl | (simp [bX]at ha;done) | (simp [bX]at hb;done) | exact lst _ _ ha hb
section
variable{X:Cx}{pins:List (Addr×Obj)}{σ:L2.St}{H:Hp}{s:Shared}{ι:List Addr}
theorem readsAll(n:Nat)(ih:∀(v:V) (u:Value) (a:A),bX n a=true→Den X.K H ι v a→RelV v u→∃as,Reads s.heap u (toPy n a) as) :
  ∀(ds:List A) (xs:List V) (us:List Value),ds.all (bX n)=true→aK X.K H ι xs ds→Vals xs us→∃as,ReadsAll s.heap us (ds.map (toPy n)) as
 | [],xs,us,_,d,r=>by
  rw [kZ]at d;subst d;cases r;exact⟨_,.nil⟩
 | a::ds,xs,us,h,d,r=>by
  obtain⟨x,t,rfl,d1,d2⟩:=d.gX;simp only [Ag,jY]at h;cases r with
  | cons r1 r2 =>
   obtain⟨as,q1⟩:=ih _ _ _ h.1 d1 r1;obtain⟨bs,q2⟩:=readsAll n ih ds _ _ h.2 d2 r2;exact⟨_,.cons q1 q2⟩
theorem yC(I:Inv X pins σ H s):∀(n:Nat) (v:V) (u:Value) (a:A),bX n a=true→Den X.K H ι v a→RelV v u→∃as,Reads s.heap u (toPy n a) as:=by
 intro n
 induction n with
 | zero =>
  intro v u a h d r;cases a with
  | int i=>simp only [Den]at d;subst d;obtain⟨t,rfl⟩:=r;exact⟨_,.int i t⟩
  | bl b=>simp only [Den]at d;subst d;cases r;exact⟨_,.bool b⟩
  | str x=>simp only [Den]at d;subst d;obtain⟨t,rfl⟩:=r;exact⟨_,.str x t⟩
  | aZ=>simp only [Den]at d;subst d;cases r;exact⟨_,.none⟩
  | _=>cases h
 | succ n ih =>
  intro v u a h d r;cases a with
  | int i=>simp only [Den]at d;subst d;obtain⟨t,rfl⟩:=r;exact⟨_,.int i t⟩
  | bl b=>simp only [Den]at d;subst d;cases r;exact⟨_,.bool b⟩
  | str x=>simp only [Den]at d;subst d;obtain⟨t,rfl⟩:=r;exact⟨_,.str x t⟩
  | aZ=>simp only [Den]at d;subst d;cases r;exact⟨_,.none⟩
  | tup ds =>
   simp only [Den]at d;obtain⟨p,xs,rfl,h2,h3⟩:=d;cases r;obtain⟨aN,rv,pl,hz⟩:=I.tuple (eZ.of h2);obtain⟨as,q⟩:=readsAll n ih ds xs aN h h3 rv;obtain⟨o,ho,hc,m,hd⟩:=(show s.heap.IsTuple p aN.toArray from pl);exact⟨_,.tuple ho hc hd (by simpa using q)⟩
  | lst ds =>
   simp only [Den]at d;obtain⟨p,xs,rfl,h2,h3⟩:=d;cases r;obtain⟨aN,rv,pl,hz⟩:=I.list (eE.of h2);obtain⟨as,q⟩:=readsAll n ih ds xs aN h h3 rv;obtain⟨o,ho,hc,m,hd⟩:=pl.isList;exact⟨_,.list ho hc hd (by simpa using q)⟩
  | _=>cases h
end
def QI(K:Frag)(neg:Bool):R2:=fun x y H Q=>∃ι a b,bX 8 a=true∧bX 8 b=true∧Den K H ι x a∧Den K H ι y b∧Q (.bl (if neg then !eT 8 a b else eT 8 a b)) H
theorem abF{X:Cx}(hu:X.A.units+64<cLine):fB X (compareOp .Eq) (QI X.K false):=by
 intro pins s σ H x y v u Q I rx ry h;obtain⟨ι,a,b,h1,h2,d1,d2,q⟩:=h;obtain⟨as,q1⟩:=yC I 8 x v a h1 d1 rx;obtain⟨bs,q2⟩:=yC I 8 y u b h2 d2 ry;have e1:=OB 8 a;refine SeqAt.compareEq_reads q1 q2 (xU 8 a h1) (xU 8 b h2) (by omega) ?_;rw [OA 8 a b h1 h2];exact⟨.bl (eT 8 a b),H,I,rfl,q⟩
theorem aa6{X:Cx}(hu:X.A.units+64<cLine):fB X (compareOp .NotEq) (QI X.K true):=by
 intro pins s σ H x y v u Q I rx ry h;obtain⟨ι,a,b,h1,h2,d1,d2,q⟩:=h;obtain⟨as,q1⟩:=yC I 8 x v a h1 d1 rx;obtain⟨bs,q2⟩:=yC I 8 y u b h2 d2 ry;have e1:=OB 8 a;refine SeqAt.compareNe_reads q1 q2 (xU 8 a h1) (xU 8 b h2) (by omega) ?_;rw [OA 8 a b h1 h2];exact⟨.bl (!eT 8 a b),H,I,rfl,q⟩
def pR(f:A→Option A):List A→Option (List A)
 | []=>some []
 | x::xs=>match f x,pR f xs with
  | some y,some ys=>some (y::ys)
  | _,_=>none
def res(Ω:aI):Nat→A→Option A
 | 0,a=>if bX 8 a=true then some a else none
 | n+1,a=>if bX 8 a=true then some a else match a with
  | .tup ds=>(pR (res Ω n) ds).map .tup
  | .lst ds=>(pR (res Ω n) ds).map .lst
  | .aE k=>match Ω[k]? with
   | some (.lst ds)=>(pR (res Ω n) ds).map .lst
   | _=>none
  | _=>none
section
variable{K:Frag}{G H:Hp}{ι:List Addr}{Ω:aI}
theorem Wd.Jm(w:Wd K G ι Ω H):Ext G ι H ι:=⟨w.sub,fun _ _ h=>h⟩
theorem IH{f:A→Option A}(ih:∀v a b,Den K G ι v a→f a=some b→Den K H ι v b):∀(ds es:List A) (xs:List V),aK K G ι xs ds→pR f ds=some es→aK K H ι xs es
 | [],es,xs,d,h=>by
  simp only [pR,gW]at h;subst h;rw [kZ]at d ⊢;exact d
 | a::ds,es,xs,d,h=>by
  obtain⟨x,t,rfl,d1,d2⟩:=d.gX;simp only [pR]at h;split at h
  ·rename_i y ys e1 e2;cases h;exact .cons (ih _ _ _ d1 e1) (IH ih ds ys t d2 e2)
  ·cases h
theorem HN(w:Wd K G ι Ω H):∀(n:Nat) (v:V) (a b:A),Den K G ι v a→res Ω n a=some b→Den K H ι v b:=by
 intro n
 induction n with
 | zero =>
  intro v a b d h;simp only [res]at h;split at h
  ·cases h;exact d.ext w.Jm
  ·cases h
 | succ n ih =>
  intro v a b d h;simp only [res]at h;split at h
  ·cases h;exact d.ext w.Jm
  ·split at h
   ·rename_i ds _;simp only [sA]at h;obtain⟨es,h1,rfl⟩:=h;simp only [Den]at d ⊢;obtain⟨p,xs,q1,q2,q3⟩:=d;exact⟨p,xs,q1,w.sub _ _ q2,IH ih ds es xs q3 h1⟩
   ·rename_i ds _;simp only [sA]at h;obtain⟨es,h1,rfl⟩:=h;simp only [Den]at d ⊢;obtain⟨p,xs,q1,q2,q3⟩:=d;exact⟨p,xs,q1,w.sub _ _ q2,IH ih ds es xs q3 h1⟩
   ·rename_i k _;split at h
    ·rename_i ds e;simp only [sA]at h;obtain⟨es,h1,rfl⟩:=h;simp only [Den]at d ⊢;obtain⟨p,q1,q2⟩:=d;obtain⟨g,xs,q3,q4⟩:=w.aE k _ p e q2;exact⟨p,xs,q1,q3,IH ih ds es xs q4 h1⟩
    ·cases h
   ·cases h
end
def wD(neg:Bool)(a b:A):Mo A:=fun Ω=>match res Ω 6 a,res Ω 6 b with
 | some x,some y=>if(bX 8 x&&bX 8 y)=true then some (.ok (.bl (if neg then !eT 8 x y else eT 8 x y)),Ω)else none
 | _,_=>none
def lN:=wD false
def gT:=wD true
section
variable{X:Cx}{W:WX}{e a b c:Expr}{pos:Pos}{fa fb fc:Ev→Mo A}{ta tb:Ev→Mo Bool}
theorem Fi{K:Frag}{neg:Bool}:sC K W (QI K neg) (wD neg):=by
 intro G ι Ω H σ x y a b Q w d1 d2 h;unfold wD at h;split at h
 ·rename_i a' b' e1 e2;split at h
  ·rename_i hp;rw [jY]at hp;exact⟨ι,a',b',hp.1,hp.2,HN w 6 x a a' d1 e1,HN w 6 y b b' d2 e2,h _ H G ι (Ext.refl _ _) w (by simp only [Den])⟩
  ·exact False.elim h
 ·exact False.elim h
theorem tH(hu:X.A.units+64<cLine):jI X W (compareOp .Eq) lN:=⟨_,abF hu,Fi⟩
theorem pM(hu:X.A.units+64<cLine):jI X W (compareOp .NotEq) gT:=⟨_,aa6 hu,Fi⟩
@[simp] def zB:=zC fun i j => .bl (decide (i<j))
@[simp] def DY:=zC fun i j => .bl (decide (i≤j))
@[simp] def nB:=zC fun i j => .bl (decide (j<i))
@[simp] def zD:=zC fun i j => .bl (decide (j≤i))
theorem HZ:jI X W (compareOp .Lt) zB:=⟨_,aa9,CD fun _ _ _ _=>by simp only [Den]⟩
theorem Fn:jI X W (compareOp .LtE) DY:=⟨_,abA,CD fun _ _ _ _=>by simp only [Den]⟩
theorem tG:jI X W (compareOp .Gt) nB:=⟨_,abC,CD fun _ _ _ _=>by simp only [Den]⟩
theorem QU:jI X W (compareOp .GtE) zD:=⟨_,abD,CD fun _ _ _ _=>by simp only [Den]⟩
def vG:A→Option Bool
 | .aZ=>some true
 | _=>some false
theorem adZ{K:Frag}{G:Hp}{ι:List Addr}{v:V}{a:A}(d:Den K G ι v a):vG a=some (decide (v = .aZ)):=by
 cases a with
 | aZ=>simp only [Den]at d;subst d;rfl
 | tup ds=>simp only [Den]at d;obtain⟨p,xs,rfl,_⟩:=d;rfl
 | lst ds=>simp only [Den]at d;obtain⟨p,xs,rfl,_⟩:=d;rfl
 | bY ds=>simp only [Den]at d;obtain⟨p,rfl,_⟩:=d;rfl
 | aE ds=>simp only [Den]at d;obtain⟨p,rfl,_⟩:=d;rfl
 | gl x=>simp only [Den]at d;obtain⟨p,_,rfl⟩:=d;rfl
 | zG p d' f i=>simp only [Den]at d;obtain⟨rfl,_⟩:=d;rfl
 | _=>simp only [Den]at d;subst d;rfl
@[simp] def Iy(neg:Bool):A→A→Mo A
 | a,.aZ=>mb (need (vG a)) fun k=>ret (.bl (if neg then !k else k))
 | _,_=>stuck
theorem abR:jI X W (compareOp .Is) (Iy false):=by
 refine⟨_,abB,?_⟩;intro G ι Ω H σ x y a b Q w d1 d2 h;cases b with
 | aZ =>
  simp only [Den]at d2;obtain⟨k,e,h⟩:=aY.need h;rw [adZ d1]at e;cases e;exact⟨d2,iE w (by simp only [Den];rfl) h⟩
 | _=>exact False.elim h
@[simp] def JW:A→Mo Bool
 | .bl b=>ret b
 | _=>stuck
@[simp] def bB(f:Ev→Mo A):Ev→Mo Bool:=fun ρ=>mb (f ρ) JW
theorem OQ{K:Frag}{t:TE}(h:dX K (Den K) W t fa):dX K yB W (Cp t) (bB fa):=by
 intro G ι Ω H σ ρ Q w r q;refine h G ι Ω H σ ρ _ w r (aY.mb q fun x Ω1 v H1 G1 ι1 x1 w1 d1 h1=>?_);cases x with
 | bl b=>simp only [Den]at d1;exact⟨b,d1,iE w1 rfl h1⟩
 | _=>exact False.elim h1
theorem Om{op:CmpOp}{g:A→A→Mo A}(ho:jI X W (compareOp op) g)(ha:VE X W a fa)(hb:VE X W b fb)(hm:behindInMarks op b=false):VE X W (.Compare a [op] [b] pos) (aC g fa fb):=by
 obtain⟨r,o1,o2⟩:=ho;obtain⟨t,p1,s1⟩:=ha;obtain⟨u,p2,s2⟩:=hb;exact⟨_,aaO o1 p1 p2 hm,HE o2 s1 s2⟩
theorem dR{op:CmpOp}{g:A→A→Mo A}(ho:jI X W (compareOp op) g)(ha:VE X W a fa)(hb:VE X W b fb)(hm:behindInMarks op b=false):VT X W (.Compare a [op] [b] pos) (bB (aC g fa fb)):=by
 obtain⟨r,o1,o2⟩:=ho;obtain⟨t,p1,s1⟩:=ha;obtain⟨u,p2,s2⟩:=hb;exact⟨_,Ys o1 p1 p2 hm,OQ (HE o2 s1 s2)⟩
@[simp] def BD(g g':A→A→Mo A)(f1 f2 f3:Ev→Mo A):Ev→Mo A:=fun ρ=>mb (f1 ρ) fun x=>mb (f2 ρ) fun y=>mb (g x y) fun z=>mb (JW z) fun k=>if k then mb (f3 ρ) fun u=>g' y u else ret (.bl false)
theorem Wc{K:Frag}{r r':R2}{g g':A→A→Mo A}{t1 t2 t3:TE}(ho:sC K W r g)(jU:sC K W r' g')(h1:dX K (Den K) W t1 fa)(h2:dX K (Den K) W t2 fb)(h3:dX K (Den K) W t3 fc):dX K (Den K) W (Cu r r' t1 t2 t3) (BD g g' fa fb fc):=by
 intro G ι Ω H σ ρ Q w q h;refine h1 G ι Ω H σ ρ _ w q (aY.mb h fun x Ω1 v H1 G1 ι1 x1 w1 d1 h1=>?_);refine h2 G1 ι1 Ω1 H1 σ ρ _ w1 (q.ext x1) (aY.mb h1 fun y Ω2 u H2 G2 ι2 x2 w2 d2 h2=>?_);refine ho G2 ι2 Ω2 H2 σ v u x y _ w2 (d1.ext x2) d2 (aY.mb h2 fun z Ω3 z' H3 G3 ι3 x3 w3 d3 JQ=>?_);cases z with
 | bl k =>
  simp only [Den]at d3;refine⟨k,d3,?_⟩;cases k with
  | true=>exact h3 G3 ι3 Ω3 H3 σ ρ _ w3 (q.ext ((x1.trans x2).trans x3)) (aY.mb JQ fun m Ω4 m' H4 G4 ι4 x4 w4 d4 h4=>jU G4 ι4 Ω4 H4 σ u m' y m Q w4 (d2.ext (x3.trans x4)) d4 h4)
  | false=>exact iE w3 (by simp only [Den]) JQ
 | _=>exact False.elim JQ
theorem Oo{op uY:CmpOp}{g g':A→A→Mo A}(ho:jI X W (compareOp op) g)(jU:jI X W (compareOp uY) g')(ha:VE X W a fa)(hb:VE X W b fb)(hc:VE X W c fc)
  (hm:lastMarks [op,uY] [b,c]=false:=by with_unfolding_all rfl):VE X W (.Compare a [op,uY] [b,c] pos) (BD g g' fa fb fc):=by
 obtain⟨r,o1,o2⟩:=ho;obtain⟨r',o1',o2'⟩:=jU;obtain⟨t,p1,s1⟩:=ha;obtain⟨u,p2,s2⟩:=hb;obtain⟨u',p3,s3⟩:=hc;exact⟨_,aaP o1 o1' p1 p2 p3 hm,Wc o2 o2' s1 s2 s3⟩
theorem nL(h:VE X W e fa)(he:∀whole,isTrue e X.env whole=(do let v ← whole;standAt e.pos;holding [v] (truthy v)):=by intro _;rfl):VT X W e (bB fa):=by
 obtain⟨t,p,s⟩:=h;exact⟨_,Yq p he,OQ s⟩
@[simp] def qV(f g:Ev→Mo Bool):Ev→Mo Bool:=fun ρ=>mb (f ρ) fun c=>if c then g ρ else ret false
@[simp] def iU(f g:Ev→Mo Bool):Ev→Mo Bool:=fun ρ=>mb (f ρ) fun c=>if c then ret true else g ρ
@[simp] def kB(f:Ev→Mo Bool):Ev→Mo Bool:=fun ρ=>mb (f ρ) fun c=>ret (!c)
variable{rest:List Expr}
theorem NA(h:VT X W a ta):VW X W (.BoolOp .And [a] pos) ta:=let ⟨t,p,s⟩:=h; ⟨t,pw_and1 p,s⟩
theorem AW(h:VT X W a ta):VW X W (.BoolOp .Or [a] pos) ta:=let ⟨t,p,s⟩:=h; ⟨t,pw_or1 p,s⟩
theorem GH(h1:VT X W a ta)(h2:VW X W (.BoolOp .And (b::rest) pos) tb):VW X W (.BoolOp .And (a::b::rest) pos) (qV ta tb):=by
 obtain⟨t,p1,s1⟩:=h1;obtain⟨u,p2,s2⟩:=h2;refine⟨_,pw_and p1 p2,fun G ι Ω H σ ρ Q w r h=>?_⟩;refine s1 G ι Ω H σ ρ _ w r (aY.mb h fun c Ω1 c' H1 G1 ι1 x1 w1 d1 h1=>?_);cases(show c'=c from d1);cases c with
 | true=>exact s2 G1 ι1 Ω1 H1 σ ρ Q w1 (r.ext x1) h1
 | false=>exact iE w1 rfl h1
theorem nK(h1:VT X W a ta)(h2:VW X W (.BoolOp .Or (b::rest) pos) tb):VW X W (.BoolOp .Or (a::b::rest) pos) (iU ta tb):=by
 obtain⟨t,p1,s1⟩:=h1;obtain⟨u,p2,s2⟩:=h2;refine⟨_,pw_or p1 p2,fun G ι Ω H σ ρ Q w r h=>?_⟩;refine s1 G ι Ω H σ ρ _ w r (aY.mb h fun c Ω1 c' H1 G1 ι1 x1 w1 d1 h1=>?_);cases(show c'=c from d1);cases c with
 | false=>exact s2 G1 ι1 Ω1 H1 σ ρ Q w1 (r.ext x1) h1
 | true=>exact iE w1 rfl h1
theorem VW.vt(h:VW X W e ta):VT X W e ta:=let ⟨t,p,s⟩:=h; ⟨t,p.pt,s⟩
theorem nM(h:VT X W a ta):VT X W (.UnaryOp .Not a pos) (kB ta):=by
 obtain⟨t,p,s⟩:=h;refine⟨_,Yr p,fun G ι Ω H σ ρ Q w r h=>?_⟩;refine s G ι Ω H σ ρ _ w r (aY.mb h fun c Ω1 c' H1 G1 ι1 x1 w1 d1 h1=>?_);cases(show c'=c from d1);exact iE w1 rfl h1
@[simp] def Bz(f g:Ev→Mo A):Ev→Mo A:=fun ρ=>mb (f ρ) fun x=>mb (JW x) fun c=>if c then g ρ else ret (.bl false)
@[simp] def By(f:Ev→Mo A):Ev→Mo A:=fun ρ=>mb (f ρ) fun x=>mb (JW x) fun c=>ret (.bl (!c))
theorem Nz{op}(h:VE X W a fa):VE X W (.BoolOp op [a] pos) fa:=let ⟨t,p,s⟩:=h; ⟨t,Zv p,s⟩
theorem Ot(h1:VE X W a fa)(h2:VE X W (.BoolOp .And (b::rest) pos) fb):VE X W (.BoolOp .And (a::b::rest) pos) (Bz fa fb):=by
 obtain⟨t,p1,s1⟩:=h1;obtain⟨u,p2,s2⟩:=h2;refine⟨_,aaU p1 p2,fun G ι Ω H σ ρ Q w r h=>?_⟩;refine s1 G ι Ω H σ ρ _ w r (aY.mb h fun x Ω1 v H1 G1 ι1 x1 w1 d1 h1=>?_);cases x with
 | bl c =>
  simp only [Den]at d1;refine⟨c,d1,?_⟩;cases c with
  | true=>exact s2 G1 ι1 Ω1 H1 σ ρ Q w1 (r.ext x1) h1
  | false=>exact iE w1 (by simp only [Den]) h1
 | _=>exact False.elim h1
theorem Oa(h:VE X W a fa):VE X W (.UnaryOp .Not a pos) (By fa):=by
 obtain⟨t,p,s⟩:=h;refine⟨_,Zw p,fun G ι Ω H σ ρ Q w r h=>?_⟩;refine s G ι Ω H σ ρ _ w r (aY.mb h fun x Ω1 v H1 G1 ι1 x1 w1 d1 h1=>?_);cases x with
 | bl c =>
  simp only [Den]at d1;exact⟨c,d1,iE w1 (by simp only [Den]) h1⟩
 | _=>exact False.elim h1
end
inductive Out where
 | nx | bk | ct | ret (a:A) | exc (x:Exc)
abbrev OS:=Option (Out×Ev×aI)
abbrev MS:=Ev→aI→OS
def Mi(K:Frag)(W:WX)(G:Hp)(ι:List Addr)(D:Ends)(σ:L2.St)(H:Hp):Out→Prop
 | .nx=>D.nx σ H
 | .bk=>D.bk σ H
 | .ct=>D.ct σ H
 | .ret a=>∀v,Den K G ι v a→D.rt v H
 | .exc x=>∀cls dx,Na K G ι H x cls dx→W σ cls dx H
def dA(K:Frag)(W:WX)(G:Hp)(ι:List Addr)(D:Ends):OS→Prop
 | some (o,ρ',Ω')=>∀σ' H' G' ι',Ext G ι G' ι'→Wd K G' ι' Ω' H'→eW K G' ι' σ' ρ'→Mi K W G' ι' D σ' H' o
 | none=>False
@[simp] def sM{α:Type}(m:Mo α)(ρ:Ev)(k:α→aI→OS):aI→OS:=fun Ω=>match m Ω with
 | some (.ok a,Ω1)=>k a Ω1
 | some (.exc x,Ω1)=>some (.exc x,ρ,Ω1)
 | none=>none
section
variable{K:Frag}{W:WX}{G:Hp}{ι:List Addr}{Ω:aI}{σ:L2.St}{ρ:Ev}{D:Ends}
theorem dA.ext{G1:Hp}{ι1:List Addr}{r:OS}(h:dA K W G ι D r)(e:Ext G ι G1 ι1):dA K W G1 ι1 D r:=by
 match r,h with
 | some (o,ρ',Ω'),h=>exact fun σ' H' G' ι' x w d=>h σ' H' G' ι' (e.trans x) w d
theorem dA.sM{α β:Type}{rel:Rl α β}{m:Mo α}{k:α→aI→OS}{Q1:β→Hp→Prop}(h:dA K W G ι D (V2.sM m ρ k Ω))(r:eW K G ι σ ρ)
  (hk:∀a Ω1 v H1 G1 ι1,Ext G ι G1 ι1→Wd K G1 ι1 Ω1 H1→rel G1 ι1 v a→dA K W G1 ι1 D (k a Ω1)→Q1 v H1):aY K rel W G ι σ Q1 (m Ω):=by
 unfold V2.sM at h
 revert h
 generalize m Ω=q;intro h
 match q,h with
 | some (.ok a,Ω1),h=>exact fun v H1 G1 ι1 x w d=>hk a Ω1 v H1 G1 ι1 x w d (dA.ext h x)
 | some (.exc x,Ω1),h=>exact fun cls dx H' G' ι' e w d=>h σ H' G' ι' e w (r.ext e) cls dx d
end
def qG(K:Frag)(W:WX)(t:TS)(f:MS):Prop:=∀G ι Ω H σ ρ D,Wd K G ι Ω H→eW K G ι σ ρ→dA K W G ι D (f ρ Ω)→t D σ H
def VS(X:Cx)(W:WX)(st:Stmt)(f:MS):Prop:=∃t,PS X st t∧qG X.K W t f
def jW(X:Cx)(W:WX)(st:List Stmt)(f:MS):Prop:=∃t,kH X st t∧qG X.K W t f
def zT(K:Frag)(W:WX)(t:TG)(g:A→MS):Prop:=∀G ι Ω H σ ρ v a D,Wd K G ι Ω H→eW K G ι σ ρ→Den K G ι v a→dA K W G ι D (g a ρ Ω)→t v σ H D.nx
def akJ(K:Frag)(W:WX)(t:tY)(g:List A→MS):Prop:=∀G ι Ω H σ ρ vs as D,Wd K G ι Ω H→eW K G ι σ ρ→aK K G ι vs as→dA K W G ι D (g as ρ Ω)→t vs σ H D.nx
def VG(X:Cx)(W:WX)(tg:Expr)(g:A→MS):Prop:=∃t,PG X tg t∧zT X.K W t g
def LQ(X:Cx)(W:WX)(Pw:List Expr)(g:List A→MS):Prop:=∃t,EU X Pw t∧akJ X.K W t g
@[simp] def eN:MS:=fun ρ Ω=>some (.nx,ρ,Ω)
@[simp] def bD(f g:MS):MS:=fun ρ Ω=>match f ρ Ω with
 | some (.nx,ρ1,Ω1)=>g ρ1 Ω1
 | r=>r
section
variable{X:Cx}{W:WX}{st:Stmt}{rest:List Stmt}{f g:MS}{e:Expr}{fe:Ev→Mo A}{pos:Pos}
theorem pN{K:Frag}{G H:Hp}{ι:List Addr}{Ω:aI}{σ:L2.St}{ρ:Ev}{D:Ends}(w:Wd K G ι Ω H)(r:eW K G ι σ ρ)(h:dA K W G ι D (some (.nx,ρ,Ω))):D.nx σ H:=h σ H G ι (Ext.refl _ _) w r
theorem fL:jW X W [] eN:=⟨_,Yv,fun _ _ _ _ _ _ _ w r h=>pN w r h⟩
theorem Vy{K:Frag}{t u:TS}(h1:qG K W t f)(h2:qG K W u g):qG K W (Cq t u) (bD f g):=by
 intro G ι Ω H σ ρ D w r h;refine h1 G ι Ω H σ ρ _ w r ?_;unfold bD at h
 revert h
 generalize f ρ Ω=q;intro h
 match q,h with
 | some (.nx,ρ1,Ω1),h=>exact fun σ' H' G' ι' x w' r'=>h2 G' ι' Ω1 H' σ' ρ1 D w' r' (dA.ext h x)
 | some (.bk,ρ1,Ω1),h=>exact h
 | some (.ct,ρ1,Ω1),h=>exact h
 | some (.ret a,ρ1,Ω1),h=>exact h
 | some (.exc a,ρ1,Ω1),h=>exact h
theorem bI(h1:VS X W st f)(h2:jW X W rest g):jW X W (st::rest) (bD f g):=by
 obtain⟨t,p1,s1⟩:=h1;obtain⟨u,p2,s2⟩:=h2;exact⟨_,Yw p1 p2,Vy s1 s2⟩
theorem bH(h1:VS X W st f):jW X W [st] f:=let ⟨t,p,s⟩:=h1; ⟨t,Yu p,s⟩
@[simp] def mB(fe:Ev→Mo A):MS:=fun ρ=>sM (fe ρ) ρ fun _ Ω=>some (.nx,ρ,Ω)
theorem qS(h:VE X W e fe)(hs:swapsWith e none pos.line X.env=pure false:=by rfl):VS X W (.Expr e pos) (mB fe):=by
 obtain⟨t,p,s⟩:=h;refine⟨_,Ze p hs,fun G ι Ω H σ ρ D w r h=>?_⟩;exact s G ι Ω H σ ρ _ w r (dA.sM h r fun a Ω1 v H1 G1 ι1 x1 w1 d1 h1=>pN w1 (r.ext x1) h1)
@[simp] def cJ(fe:Ev→Mo A):MS:=fun ρ=>sM (fe ρ) ρ fun a Ω=>some (.ret a,ρ,Ω)
theorem cV(h:VE X W e fe):VS X W (.Return (some e) pos) (cJ fe):=by
 obtain⟨t,p,s⟩:=h;refine⟨_,Za p,fun G ι Ω H σ ρ D w r h=>?_⟩;exact s G ι Ω H σ ρ _ w r (dA.sM h r fun a Ω1 v H1 G1 ι1 x1 w1 d1 h1=>h1 σ H1 G1 ι1 (Ext.refl _ _) w1 (r.ext x1) v d1)
@[simp] def dD(c:Ev→Mo Bool)(f g:MS):MS:=fun ρ=>sM (c ρ) ρ fun b Ω=>if b then f ρ Ω else g ρ Ω
theorem fE{c:Expr}{a b:List Stmt}{fc:Ev→Mo Bool}(hc:VT X W c fc)(h1:jW X W a f)(h2:jW X W b g):VS X W (.If c a b pos) (dD fc f g):=by
 obtain⟨t0,p0,s0⟩:=hc;obtain⟨t,p1,s1⟩:=h1;obtain⟨u,p2,s2⟩:=h2;refine⟨_,Zc p0 p1 p2,fun G ι Ω H σ ρ D w r h=>?_⟩;refine s0 G ι Ω H σ ρ _ w r (dA.sM h r fun c Ω1 c' H1 G1 ι1 x1 w1 d1 h1=>?_);cases(show c'=c from d1);cases c with
 | true=>exact s1 G1 ι1 Ω1 H1 σ ρ D w1 (r.ext x1) h1
 | false=>exact s2 G1 ι1 Ω1 H1 σ ρ D w1 (r.ext x1) h1
@[simp] def gN(i:Nat):A→MS:=fun a ρ Ω=>some (.nx,ρ.set i (some a),Ω)
theorem lY{i:Nat}{x:Str}(hN:X.N.Nodup)(hi:X.N[i]? = some x)(hx:Loc X.env.scope x)(hf:X.fn x=true∨X.env.scope.names.lookup x=some .local:=by first | exact .inl rfl | exact .inr rfl | assumption):VG X W (.Name x pos) (gN i) :=
 ⟨_,Fc hN hi hx hf,fun _ _ _ _ _ _ _ _ _ w r d h=>pN w (r.set i d) h⟩
@[simp] def tS:List A→MS:=fun as ρ Ω=>match as with
 | []=>some (.nx,ρ,Ω)
 | _=>none
@[simp] def kX(g:A→MS)(gs:List A→MS):List A→MS:=fun as=>match as with
 | a::r=>bD (g a) (gs r)
 | []=>fun _ _=>none
theorem ND:LQ X W [] tS:=⟨_,Zn,fun G ι Ω H σ ρ vs as D w r d h=>by
 cases as with
 | nil=>rw [kZ]at d;exact⟨d,pN w r h⟩
 | cons=>exact False.elim h⟩
theorem xO{es:List Expr}{g:A→MS}{gs:List A→MS}(h1:VG X W e g)(h2:LQ X W es gs)
  (hs:(assignEach (e::es) X.env).map (·.2)=assign e X.env::(assignEach es X.env).map (·.2):=by rfl):LQ X W (e::es) (kX g gs):=by
 obtain⟨t,p1,s1⟩:=h1;obtain⟨u,p2,s2⟩:=h2;refine⟨_,Zo p1 p2 hs,fun G ι Ω H σ ρ vs as D w r d h=>?_⟩;cases as with
 | nil=>exact False.elim h
 | cons a as =>
  obtain⟨x,xs,rfl,d1,d2⟩:=d.gX;refine⟨x,xs,rfl,s1 G ι Ω H σ ρ x a { D with nx:=fun σ' H'=>u xs σ' H' D.nx } w r d1 ?_⟩;simp only [kX,bD]at h
  revert h
  generalize g a ρ Ω=q;intro h
  match q,h with
  | some (.nx,ρ1,Ω1),h=>exact fun σ' H' G' ι' x w' r'=>s2 G' ι' Ω1 H' σ' ρ1 xs as D w' r' (d2.ext x) (dA.ext h x)
  | some (.bk,ρ1,Ω1),h=>exact h
  | some (.ct,ρ1,Ω1),h=>exact h
  | some (.ret a,ρ1,Ω1),h=>exact h
  | some (.exc a,ρ1,Ω1),h=>exact h
@[simp] def rS(n:Nat)(gs:List A→MS):A→MS:=fun a ρ Ω=>match a with
 | .tup ds=>if ds.length=n then gs ds ρ Ω else none
 | _=>none
theorem NF{es:List Expr}{k:Nat}{n:Nat}{gs:List A→MS}(hc:X.calm=true)(h:LQ X W es gs)
  (hn:(assignEach es X.env).length=n:=by rfl) (gF:(assignEach es X.env).findIdx? (·.1)=none:=by rfl):VG X W (.Tuple es k pos) (rS n gs):=by
 obtain⟨t,p,s⟩:=h;refine⟨_,Zp hc p hn gF,fun G ι Ω H σ ρ v a D w r d h=>?_⟩;unfold rS at h;cases a with
 | tup ds =>
  simp only at h
  by_cases hl:ds.length=n
  ·rw [if_pos hl]at h;simp only [Den]at d;obtain⟨p,xs,rfl,h2,h3⟩:=d;exact⟨p,xs,rfl,eZ.of (w.sub _ _ h2),by rw [h3.length];exact hl,s G ι Ω H σ ρ xs ds D w r h3 h⟩
  ·rw [if_neg hl]at h;exact False.elim h
 | _=>exact False.elim h
@[simp] def dE(fe:Ev→Mo A)(g:A→MS):MS:=fun ρ=>sM (fe ρ) ρ fun a Ω=>g a ρ Ω
theorem Ds{K:Frag}{te:TE}{t:TG}{g:A→MS}(h1:dX K (Den K) W te fe)(h2:zT K W t g):qG K W (OH te t) (dE fe g):=by
 intro G ι Ω H σ ρ D w r h;exact h1 G ι Ω H σ ρ _ w r (dA.sM h r fun a Ω1 v H1 G1 ι1 x1 w1 d1 h1=>h2 G1 ι1 Ω1 H1 σ ρ v a D w1 (r.ext x1) d1 h1)
theorem fZ{i:Nat}{x:Str}{pos':Pos}(hN:X.N.Nodup)(hi:X.N[i]? = some x)(hx:Loc X.env.scope x)(he:VE X W e fe)(hs:swapsWith e (some (.Name x pos')) pos.line X.env=pure false:=by rfl)(hf:X.fn x=true∨X.env.scope.names.lookup x=some .local:=by first | exact .inl rfl | exact .inr rfl | assumption) :
  VS X W (.Assign [.Name x pos'] e pos) (dE fe (gN i)):=by
 obtain⟨t,p1,s1⟩:=he;exact⟨_,Yz hN hi hx p1 hs hf,Ds s1 fun _ _ _ _ _ _ _ _ _ w r d h=>pN w (r.set i d) h⟩
structure Src where
 ds:List A
 ok:aI→Prop
structure sH(K:Frag)(G:Hp)(ι:List Addr)(J:It)(S:Src):Prop where
 go:∀G' ι' Ω' H',Ext G ι G' ι'→Wd K G' ι' Ω' H'→S.ok Ω'→∀i,i<S.ds.length→J.go i H'
 stop:∀G' ι' Ω' H',Ext G ι G' ι'→Wd K G' ι' Ω' H'→S.ok Ω'→∀i,S.ds.length≤i→J.stop i H'
 qP:∀G' ι' Ω' H',Ext G ι G' ι'→Wd K G' ι' Ω' H'→S.ok Ω'→∀i x H2 d,S.ds[i]? = some d→J.qP i H' x H2→∃G2,Ext G' ι' G2 ι'∧Wd K G2 ι' Ω' H2∧Den K G2 ι' x d
def QE(K:Frag):Rl Src It:=fun G ι J S=>sH K G ι J S
theorem sH.ext{K:Frag}{G G1:Hp}{ι ι1:List Addr}{J:It}{S:Src}(h:sH K G ι J S)(e:Ext G ι G1 ι1):sH K G1 ι1 J S :=
 ⟨fun G' ι' Ω' H' x=>h.go G' ι' Ω' H' (e.trans x),fun G' ι' Ω' H' x=>h.stop G' ι' Ω' H' (e.trans x),fun G' ι' Ω' H' x=>h.qP G' ι' Ω' H' (e.trans x)⟩
def VI(X:Cx)(W:WX)(tg iter:Expr)(f:Ev→Mo Src):Prop:=∃t,PI X tg iter t∧dX X.K (QE X.K) W t f
open Classical in
noncomputable def dU(ok:aI→Prop)(g:A→MS)(b:MS):List A→MS
 | [],ρ,Ω=>if ok Ω then some (.nx,ρ,Ω)else none
 | x::xs,ρ,Ω=>if ok Ω then(match g x ρ Ω with
  | some (.nx,ρ0,Ω0)=>(match b ρ0 Ω0 with
   | some (.nx,ρ1,Ω1)=>dU ok g b xs ρ1 Ω1
   | some (.ct,ρ1,Ω1)=>dU ok g b xs ρ1 Ω1
   | some (.bk,ρ1,Ω1)=>some (.nx,ρ1,Ω1)
   | r=>r)
  | some (.exc e,ρ0,Ω0)=>some (.exc e,ρ0,Ω0)
  | _=>none)else none
@[simp] noncomputable def sW(fi:Ev→Mo Src)(g:A→MS)(b:MS):MS:=fun ρ=>sM (fi ρ) ρ fun S Ω=>dU S.ok g b S.ds ρ Ω
theorem Jk{K:Frag}{G:Hp}{ι:List Addr}{D:Ends}{ok:aI→Prop}{g:A→MS}{b:MS}{xs:List A}{ρ:Ev}{Ω:aI}(h:dA K W G ι D (dU ok g b xs ρ Ω)):ok Ω:=by
 cases xs with
 | nil =>
  unfold dU at h
  by_cases hp:ok Ω
  ·exact hp
  ·rw [if_neg hp]at h;exact False.elim h
 | cons =>
  unfold dU at h
  by_cases hp:ok Ω
  ·exact hp
  ·rw [if_neg hp]at h;exact False.elim h
theorem Wa{K:Frag}{wi:TI}{tg:TG}{tb:TS}{fi:Ev→Mo Src}{g:A→MS}{b:MS}(hi:dX K (QE K) W wi fi)(hg:zT K W tg g)(hb:qG K W tb b):qG K W (OE wi tg tb) (sW fi g b):=by
 intro G ι Ω H σ ρ D w r h;refine hi G ι Ω H σ ρ _ w r (dA.sM h r fun S Ω1 J H1 G1 ι1 x1 w1 j1 h1=>?_);refine⟨fun i m σ' H'=>m=S.ds.length - i∧i≤S.ds.length∧∃G' ι' Ω' ρ',Ext G1 ι1 G' ι'∧Wd K G' ι' Ω' H'∧eW K G' ι' σ' ρ'∧dA K W G' ι' D (dU S.ok g b (S.ds.drop i) ρ' Ω'),
  ⟨_,rfl,zV _,G1,ι1,Ω1,ρ,Ext.refl _ _,w1,r.ext x1,by simpa using h1⟩,?_⟩
 rintro i m σ' H' ⟨rfl,Ht,G',ι',Ω',ρ',e',w',r',h'⟩;have aH:=Jk h'
 by_cases cP:i<S.ds.length
 ·right
  refine⟨j1.go G' ι' Ω' H' e' w' aH i cP,fun σ2 H2=>∃G2 ι2 Ω2 ρ2,Ext G1 ι1 G2 ι2∧Wd K G2 ι2 Ω2 H2∧eW K G2 ι2 σ2 ρ2∧dA K W G2 ι2 D (dU S.ok g b (S.ds.drop (i+1)) ρ2 Ω2),fun σ2 H2 n=>?_,fun x H2 y=>?_⟩
  ·exact⟨S.ds.length - (i+1),by omega,rfl,cP,n⟩
  ·obtain⟨G2,e2,w2,d2⟩:=j1.qP G' ι' Ω' H' e' w' aH i x H2 S.ds[i] (jK cP) y;rw [Ms cP]at h';unfold dU at h';rw [if_pos aH]at h';refine hg G2 ι' Ω' H2 σ' ρ' x S.ds[i] { D with nx:=fun σ3 H3=>tb _ σ3 H3 } w2 (r'.ext e2) d2 ?_
   revert h'
   generalize g S.ds[i] ρ' Ω'=q;intro h'
   match q,h' with
   | some (.nx,ρ3,Ω3),h' =>
    intro σ3 H3 G3 ι3 x3 w3 r3;refine hb G3 ι3 Ω3 H3 σ3 ρ3 _ w3 r3 ?_;simp only at h'
    revert h'
    generalize b ρ3 Ω3=q2;intro h'
    match q2,h' with
    | some (.nx,ρ4,Ω4),h'=>exact fun σ4 H4 G4 ι4 x4 w4 r4=>⟨G4,ι4,Ω4,ρ4,(e'.trans (e2.trans x3)).trans x4,w4,r4,dA.ext h' ((e2.trans x3).trans x4)⟩
    | some (.ct,ρ4,Ω4),h'=>exact fun σ4 H4 G4 ι4 x4 w4 r4=>⟨G4,ι4,Ω4,ρ4,(e'.trans (e2.trans x3)).trans x4,w4,r4,dA.ext h' ((e2.trans x3).trans x4)⟩
    | some (.bk,ρ4,Ω4),h'=>exact fun σ4 H4 G4 ι4 x4 w4 r4=>h' σ4 H4 G4 ι4 ((e2.trans x3).trans x4) w4 r4
    | some (.ret a,ρ4,Ω4),h'=>exact fun σ4 H4 G4 ι4 x4 w4 r4=>h' σ4 H4 G4 ι4 ((e2.trans x3).trans x4) w4 r4
    | some (.exc a,ρ4,Ω4),h'=>exact fun σ4 H4 G4 ι4 x4 w4 r4=>h' σ4 H4 G4 ι4 ((e2.trans x3).trans x4) w4 r4
   | some (.exc a,ρ3,Ω3),h'=>exact fun σ4 H4 G4 ι4 x4 w4 r4=>h' σ4 H4 G4 ι4 (e2.trans x4) w4 r4
 ·have DE:i=S.ds.length:=by omega
  subst DE
  left
  rw [List.drop_length]at h';unfold dU at h';rw [if_pos aH]at h';exact⟨j1.stop G' ι' Ω' H' e' w' aH _ bG,pN w' r' h'⟩
theorem GI{tg iter:Expr}{body:List Stmt}{fi:Ev→Mo Src}{g:A→MS}{b:MS}(hp:PassesOwn (model X.prog X.w) X.A X.env X.xe)(hc:X.calm=true)(hi:VI X W tg iter fi)(hg:VG X W tg g)(hb:jW X W body b)
  (hs:∀x,foldedSetIterable iter X.env x=pure x:=by intro _;rfl):VS X W (.For tg iter body [] pos) (sW fi g b):=by
 obtain⟨t1,p1,s1⟩:=hi;obtain⟨t2,p2,s2⟩:=hg;obtain⟨t3,p3,s3⟩:=hb;exact⟨_,Ew hp hc p1 p2 p3 hs,Wa s1 s2 s3⟩
@[simp] def srcOf(a:A)(ds:List A):Src:=⟨ds,fun Ω=>gY Ω a=some ds⟩
theorem Gd{Ω:aI}{a:A}{ds:List A}(h:gY Ω a=some ds)(ha:∀es,a ≠ .tup es):cX Ω a=some ds:=by
 cases a with
 | tup es=>exact absurd rfl (ha es)
 | _=>exact h
theorem Zk{tg l:Expr}{tl:TE}(hl:PE X l tl):PI X tg l (fun σ H R=>tl σ H fun x H1=>∃a,x = .ref a∧(((∃xs,eE X.K H1 a xs)∧R (Ak X.K a) H1)∨((∃xs,eZ X.K H1 a xs)∧R (Aj X.K a) H1))):=by
 intro pins s σ H R I h;refine aW (hl pins s σ H _ I h) fun v s1 ⟨x,H1,I1,r1,q1⟩=>?_;obtain⟨a,e,q⟩:=q1;subst e;cases r1
 rcases q with⟨⟨xs,hq⟩,q⟩ | ⟨⟨xs,hq⟩,q⟩
 ·obtain⟨aN,rv,p,hz⟩:=I1.list hq;refine wpAny_pyIter_list p.isList ?_;refine⟨s1.heap.objs.size,[s1.heap.objs.size],_,_,H1,rfl,I1.kept (t':=s1.toks) fun b o e=>bP _ e,Pf a _,⟨_,dY _ rfl,rfl,rfl⟩,fun b hb=>?_,q⟩;have e:b=s1.heap.objs.size:=by simpa using hb
  subst e;exact I1.wH bG (I1.aH.fresh bG)
 ·obtain⟨aN,rv,p,hz⟩:=I1.tuple hq;refine wpAny_pyIter_tuple (show s1.heap.IsTuple a aN.toArray from p) ?_;refine⟨s1.heap.objs.size,[s1.heap.objs.size],_,_,H1,rfl,I1.kept (t':=s1.toks) fun b o e=>bP _ e,Pd a _,⟨_,dY _ rfl,rfl,rfl⟩,fun b hb=>?_,q⟩;have e:b=s1.heap.objs.size:=by simpa using hb
  subst e;exact I1.wH bG (I1.aH.fresh bG)
@[simp] def iD(f:Ev→Mo A):Ev→Mo Src:=fun ρ=>mb (f ρ) fun a Ω=>match gY Ω a with
 | some ds=>some (.ok (srcOf a ds),Ω)
 | none=>none
theorem adR{K:Frag}{G:Hp}{ι:List Addr}{p:Addr}{a:A}{ds:List A}(d:Den K G ι (.ref p) a)(ha:∀es,a ≠ .tup es):sH K G ι (Ak K p) (srcOf a ds):=by
 have key:∀G' ι' Ω' H',Ext G ι G' ι'→Wd K G' ι' Ω' H'→gY Ω' a=some ds→∃xs,eE K H' p xs∧aK K G' ι' xs ds:=fun G' ι' Ω' H' e w h=>by
  obtain⟨q,xs,h1,h2,h3⟩:=oQ w (d.ext e) (Gd h ha);cases h1;exact⟨xs,h2,h3⟩
 refine⟨fun G' ι' Ω' H' e w h i hi=>?_,fun G' ι' Ω' H' e w h i hi=>?_,fun G' ι' Ω' H' e w h i x H2 y hy hd=>?_⟩
 ·obtain⟨xs,h2,h3⟩:=key G' ι' Ω' H' e w h;have hl:i<xs.length:=by rw [h3.length];exact hi
  exact⟨xs,xs[i],h2,jK hl⟩
 ·obtain⟨xs,h2,h3⟩:=key G' ι' Ω' H' e w h;exact⟨xs,h2,by rw [h3.length];exact hi⟩
 ·obtain⟨xs,h2,h3⟩:=key G' ι' Ω' H' e w h;obtain⟨e1,e2⟩:=hd;subst e1;obtain⟨z,q1,q2⟩:=h3.get hy;rw [e2 xs h2]at q1;cases q1;exact⟨G',Ext.refl _ _,w,q2⟩
theorem adQ{K:Frag}{G:Hp}{ι:List Addr}{p:Addr}{ds es:List A}(d:Den K G ι (.ref p) (.tup es)):sH K G ι (Aj K p) (srcOf (.tup es) ds):=by
 have key:∀G' ι' Ω' H',Ext G ι G' ι'→Wd K G' ι' Ω' H'→gY Ω' (.tup es)=some ds→∃xs,eZ K H' p xs∧aK K G' ι' xs ds:=fun G' ι' Ω' H' e w h=>by
  simp only [gY,gW]at h;subst h;have d':=d.ext e;simp only [Den]at d';obtain⟨q,xs,h1,h2,h3⟩:=d';cases h1;exact⟨xs,eZ.of (w.sub _ _ h2),h3⟩
 refine⟨fun G' ι' Ω' H' e w h i hi=>?_,fun G' ι' Ω' H' e w h i hi=>?_,fun G' ι' Ω' H' e w h i x H2 y hy hd=>?_⟩
 ·obtain⟨xs,h2,h3⟩:=key G' ι' Ω' H' e w h;have hl:i<xs.length:=by rw [h3.length];exact hi
  exact⟨xs,xs[i],h2,jK hl⟩
 ·obtain⟨xs,h2,h3⟩:=key G' ι' Ω' H' e w h;exact⟨xs,h2,by rw [h3.length];exact hi⟩
 ·obtain⟨xs,h2,h3⟩:=key G' ι' Ω' H' e w h;obtain⟨e1,e2⟩:=hd;subst e1;obtain⟨z,q1,q2⟩:=h3.get hy;rw [e2 xs h2]at q1;cases q1;exact⟨G',Ext.refl _ _,w,q2⟩
theorem qT{tg l:Expr}{fe:Ev→Mo A}(h:VE X W l fe):VI X W tg l (iD fe):=by
 obtain⟨t,p,s⟩:=h;refine⟨_,Zk p,fun G ι Ω H σ ρ R w r h=>?_⟩;refine s G ι Ω H σ ρ _ w r (aY.mb h fun a Ω1 v H1 G1 ι1 x1 w1 d1 h1=>?_);cases e:gY Ω1 a with
 | none=>simp only [e]at h1;exact False.elim h1
 | some ds =>
  simp only [e]at h1;obtain⟨q,xs,h2,h3,h4⟩:=OP w1 d1 e;subst h2;refine⟨q,rfl,?_⟩;cases a with
  | tup es =>
   right
   simp only [Den]at d1;obtain⟨q',Nh,e1,e2,e3⟩:=id d1;cases e1;exact⟨⟨_,eZ.of (w1.sub _ _ e2)⟩,h1 _ H1 G1 ι1 (Ext.refl _ _) w1 (adQ (by simpa only [Den]using d1))⟩
  | _ =>
   left
   obtain⟨q',Nh,e1,e2,e3⟩:=oQ w1 d1 (Gd e (by intro _ z;cases z));cases e1;exact⟨⟨_,e2⟩,h1 _ H1 G1 ι1 (Ext.refl _ _) w1 (adR d1 (by intro _ z;cases z))⟩
@[simp] def yA(lo:Int)(n:Nat):Src:=⟨(List.range n).map fun(i:Nat)=>A.int (lo+(i:Int)),fun _=>True⟩
def qY(i:Int):Prop:=-(2 ^ 62)≤i∧i<2 ^ 62
instance (i:Int):Decidable (qY i):=by unfold qY;infer_instance
theorem adS{K:Frag}{G:Hp}{ι:List Addr}{lo:Int}{n:Nat}:sH K G ι (MF lo n) (yA lo n):=by
 refine⟨fun _ _ _ _ _ _ _ i hi=>show i<n by simpa [yA]using hi,fun _ _ _ _ _ _ _ i hi=>show n≤i by simpa [yA]using hi,fun G' ι' Ω' H' e w h i x H2 y hy hd=>?_⟩;obtain⟨e1,e2⟩:=hd;subst e1 e2;refine⟨G',Ext.refl _ _,w,?_⟩;simp only [yA,iM]at hy;cases e:(List.range n)[i]? with
 | none=>rw [e]at hy;cases hy
 | some j =>
  rw [e]at hy;cases hy;have:=(cL.mp e).2;simp at this;subst this;simp only [Den]
@[simp] def GP(f:Ev→Mo (List A)):Ev→Mo Src:=fun ρ=>mb (f ρ) fun as=>match as with
 | [.int i,.int j]=>mb (lA (qY i∧qY j)) fun _=>ret (yA i (j - i).toNat)
 | _=>stuck
theorem Nw{tg a b:Expr}{fs:Ev→Mo (List A)}{p:Pos}(hg:Gl X "range")(hm:X.mg "range" = none)(ha:VA X W [a,b] fs)(hs:starEach [a,b] X.env=[(false,eval a X.env),(false,eval b X.env)]:=by rfl)(iP:starEach [b] X.env=[(false,eval b X.env)]:=by rfl):VI X W tg (.Call (.Name "range" p) [a,b] [] pos) (GP fs):=by
 obtain⟨t,p,s⟩:=ha;refine⟨_,Zl hg hm p hs iP,fun G ι Ω H σ ρ R w r h=>?_⟩;refine s G ι Ω H σ ρ _ w r (aY.mb h fun as Ω1 vs H1 G1 ι1 x1 w1 d1 h1=>?_);split at h1
 ·rename_i i j;obtain⟨v,t,rfl,q1,q2⟩:=d1.gX;obtain⟨v',t',rfl,q3,q4⟩:=q2.gX;rw [kZ]at q4;subst q4;simp only [Den]at q1 q3;subst q1 q3;obtain⟨hc,h2⟩:=aY.lA h1;exact⟨i,j,rfl,⟨hc.1.1,hc.1.2,hc.2.1,hc.2.2⟩,iE w1 adS h2⟩
 ·exact False.elim h1
end
section
variable{X:Cx}{W:WX}{e a b:Expr}{es:List Expr}{pos:Pos}{fa fb:Ev→Mo A}{fs:Ev→Mo (List A)}
@[simp] def eI(a i:A):Mo A:=fun Ω=>match gY Ω a,i with
 | some ds,.int n=>match hV ds n with
  | some d=>some (.ok d,Ω)
  | none=>none
 | _,_=>none
theorem akC{K:Frag}{G:Hp}{ι:List Addr}{xs:List V}{ds:List A}{n:Int}{d:A}(h:aK K G ι xs ds)(e:hV ds n=some d):∃x,hV xs n=some x∧Den K G ι x d:=by
 unfold hV at e ⊢;rw [h.length];cases q:yP ds.length n with
 | none=>rw [q]at e;cases e
 | some j=>rw [q]at e;exact h.get e
theorem jN(ha:VE X W a fa)(hb:VE X W b fb)(hs:Me b):VE X W (.Subscript a b pos) (aC eI fa fb):=by
 obtain⟨t,p1,s1⟩:=ha;obtain⟨u,p2,s2⟩:=hb;refine⟨_,aaH adN p1 p2 hs,HE ?_ s1 s2⟩;intro G ι Ω H σ x y a i Q w d1 d2 h;unfold eI at h;split at h
 ·rename_i ds n e1;split at h
  ·rename_i d e;simp only [Den]at d2;have fin:∀v,Den X.K G ι v d→Q v H:=fun v hv=>h v H G ι (Ext.refl _ _) w hv;obtain⟨p,xs,rfl,hq,hd⟩:=OP w d1 e1;obtain⟨v,q1,q2⟩:=akC hd e
   rcases hq with hq | hq
   ·exact .inl ⟨p,xs,n,v,rfl,d2,hq,q1,fin v q2⟩
   ·exact .inr (.inl ⟨p,xs,n,v,rfl,d2,hq,q1,fin v q2⟩)
  ·exact False.elim h
 ·exact False.elim h
def Nc(K:Frag)(W:WX)(r:List V→Hp→VK→Prop)(g:List A→Mo A):Prop :=
 ∀G ι Ω H σ xs as Q,Wd K G ι Ω H→aK K G ι xs as→aY K (Den K) W G ι σ Q (g as Ω)→r xs H Q
def pC(X:Cx)(W:WX)(f:Value)(g:List A→Mo A):Prop:=∃r,iN X f r∧Nc X.K W r g
@[simp] def aU(g:List A→Mo A)(f:Ev→Mo (List A)):Ev→Mo A:=fun ρ=>mb (f ρ) g
theorem Dr{K:Frag}{r:List V→Hp→VK→Prop}{g:List A→Mo A}{t:TA}(hg:Nc K W r g)(h:dX K (aK K) W t fs):dX K (Den K) W (OG r t) (aU g fs):=by
 intro G ι Ω H σ ρ Q w q h2;exact h G ι Ω H σ ρ _ w q (aY.mb h2 fun as Ω1 vs H1 G1 ι1 x1 w1 d1 h1=>hg G1 ι1 Ω1 H1 σ vs as Q w1 d1 h1)
theorem gA{id:String}{x:Str}{g:List A→Mo A}{p:Pos}(hc:pC X W (.builtin id) g)(hg:Gl X x)(hm:X.mg x=none)(hv:bootBuiltins x=some (.builtin id))(ha:VA X W (e::es) fs)(hn:x ≠ "__name__":=by decide)(jD:(x == ("__debug__" : Str))=false:=by decide)
  (he:starEach (e::es) X.env=(false,eval e X.env)::starEach es X.env:=by rfl) (dF:(backTo pos (starEach es X.env)).any (·.1)=false:=by rfl):VE X W (.Call (.Name x p) (e::es) [] pos) (aU g fs):=by
 obtain⟨r,c1,c2⟩:=hc;obtain⟨t,p1,s1⟩:=ha;exact⟨_,HU c1 hg hm hv p1 hn jD he dF,Dr c2 s1⟩
theorem NG{T:String}{x:Str}{g:List A→Mo A}{p:Pos}(hc:pC X W (.type T) g)(hg:Gl X x)(hm:X.mg x=none)(hv:bootBuiltins x=some (.type T))(ha:VA X W (e::es) fs)(hn:x ≠ "__name__":=by decide)(jD:(x == ("__debug__" : Str))=false:=by decide)
  (he:starEach (e::es) X.env=(false,eval e X.env)::starEach es X.env:=by rfl) (dF:(backTo pos (starEach es X.env)).any (·.1)=false:=by rfl):VE X W (.Call (.Name x p) (e::es) [] pos) (aU g fs):=by
 obtain⟨r,c1,c2⟩:=hc;obtain⟨t,p1,s1⟩:=ha;exact⟨_,HS c1 hg hm hv p1 hn jD he dF,Dr c2 s1⟩
theorem rW{K:Frag}{G:Hp}{ι:List Addr}{xs:List V}{d:A}(h:aK K G ι xs [d]):∃x,xs=[x]∧Den K G ι x d:=by
 obtain⟨x,r,rfl,h1,h2⟩:=h.gX;rw [kZ]at h2;subst h2;exact⟨x,rfl,h1⟩
theorem KI{K:Frag}{G:Hp}{ι:List Addr}{xs:List V}{d d':A}(h:aK K G ι xs [d,d']):∃x y,xs=[x,y]∧Den K G ι x d∧Den K G ι y d':=by
 obtain⟨x,r,rfl,h1,h2⟩:=h.gX;obtain⟨y,rfl,h3⟩:=rW h2;exact⟨x,y,rfl,h1,h3⟩
@[simp] def kF(as:List A):Mo A:=fun Ω=>match as with
 | [a]=>(match gY Ω a with
  | some ds=>some (.ok (.int ds.length),Ω)
  | none=>none)
 | _=>none
theorem qD:pC X W (.builtin "len") kF:=by
 refine⟨_,ajP,?_⟩;intro G ι Ω H σ xs as Q w d h;unfold kF at h;split at h
 ·rename_i a;split at h
  ·rename_i ds e;obtain⟨x,rfl,d1⟩:=rW d;obtain⟨p,ys,rfl,h2,h3⟩:=OP w d1 e;exact⟨p,ys,rfl,h2,h _ H G ι (Ext.refl _ _) w (by simp only [Den,h3.length])⟩
  ·exact False.elim h
 ·exact False.elim h
@[simp] def JT(as:List A):Mo A:=match as with
 | [.int i,.int j]=>ret (.int (max i j))
 | _=>stuck
@[simp] def lM(as:List A):Mo A:=match as with
 | [.int i,.int j]=>ret (.int (min i j))
 | _=>stuck
theorem ajX(hc:X.calm=true):pC X W (.builtin "max") JT:=by
 refine⟨_,ajN hc,?_⟩;intro G ι Ω H σ xs as Q w d h;unfold JT at h;split at h
 ·rename_i i j;obtain⟨x,y,rfl,d1,d2⟩:=KI d;simp only [Den]at d1 d2;subst d1 d2;refine⟨i,j,rfl,?_⟩;have e:(if j>i then j else i)=max i j:=by split <;> omega
  rw [e];exact iE w (by simp only [Den]) h
 ·exact False.elim h
theorem KP(hc:X.calm=true):pC X W (.builtin "min") lM:=by
 refine⟨_,ajM hc,?_⟩;intro G ι Ω H σ xs as Q w d h;unfold lM at h;split at h
 ·rename_i i j;obtain⟨x,y,rfl,d1,d2⟩:=KI d;simp only [Den]at d1 d2;subst d1 d2;refine⟨i,j,rfl,?_⟩;have e:(if j<i then j else i)=min i j:=by split <;> omega
  rw [e];exact iE w (by simp only [Den]) h
 ·exact False.elim h
def intsOf:List A→Option (List Int)
 | []=>some []
 | .int i::r=>(intsOf r).map (i :: ·)
 | _=>none
theorem vI{K:Frag}{G:Hp}{ι:List Addr}:∀{ds:List A} {xs:List V} {ns:List Int},intsOf ds=some ns→aK K G ι xs ds→xs=ns.map V.int
 | [],xs,ns,h,d=>by
  simp only [intsOf,gW]at h;subst h;rw [kZ]at d;subst d;rfl
 | a::ds,xs,ns,h,d=>by
  obtain⟨x,t,rfl,d1,d2⟩:=d.gX;cases a with
  | int i =>
   simp only [intsOf,sA]at h;obtain⟨ms,h1,rfl⟩:=h;simp only [Den]at d1;subst d1;rw [vI h1 d2];rfl
  | _=>simp [intsOf]at h
theorem vJ(ns:List Int):intsOf (ns.map A.int)=some ns:=by
 induction ns with
 | nil=>rfl
 | cons n ns ih=>simp [intsOf,ih]
@[simp] def rT(as:List A):Mo A:=fun Ω=>match as with
 | [a]=>(match (cX Ω a).bind intsOf with
  | some ns=>some (.ok (.int ns.sum),Ω)
  | none=>none)
 | _=>none
theorem Kq(hc:X.calm=true):pC X W (.builtin "sum") rT:=by
 refine⟨_,ajH hc,?_⟩;intro G ι Ω H σ xs as Q w d h;unfold rT at h;split at h
 ·rename_i a;split at h
  ·rename_i ns e;obtain⟨x,rfl,d1⟩:=rW d;rw [qI]at e;obtain⟨ds,e1,e2⟩:=e;obtain⟨p,ys,rfl,h2,h3⟩:=oQ w d1 e1;rw [vI e2 h3]at h2;exact⟨p,ns,rfl,h2,h _ H G ι (Ext.refl _ _) w (by simp only [Den])⟩
  ·exact False.elim h
 ·exact False.elim h
def jP(Ω:aI):A→Option String
 | .int _=>some "int"
 | .bl _=>some "bool"
 | .str _=>some "str"
 | .aZ=>some "NoneType"
 | .tup _=>some "tuple"
 | .lst _=>some "list"
 | .aE k=>match Ω[k]? with
  | some (.lst _)=>some "list"
  | some (.aX _)=>some "dict"
  | _=>none
 | _=>none
theorem Pb{K:Frag}{G H:Hp}{ι:List Addr}{Ω:aI}{v:V}{a:A}{t:String}(w:Wd K G ι Ω H)(d:Den K G ι v a)(h:jP Ω a=some t):mG K H v (.type t):=by
 cases a with
 | int i=>simp only [jP,gW]at h;subst h;simp only [Den]at d;subst d;exact .int i
 | bl i=>simp only [jP,gW]at h;subst h;simp only [Den]at d;subst d;exact .bl i
 | str i=>simp only [jP,gW]at h;subst h;simp only [Den]at d;subst d;exact .str i
 | aZ=>simp only [jP,gW]at h;subst h;simp only [Den]at d;subst d;exact .aZ
 | tup ds=>simp only [jP,gW]at h;subst h;simp only [Den]at d;obtain⟨p,xs,rfl,h2,_⟩:=d;exact .tup (w.sub _ _ h2)
 | lst ds=>simp only [jP,gW]at h;subst h;simp only [Den]at d;obtain⟨p,xs,rfl,h2,_⟩:=d;exact .lst (w.sub _ _ h2)
 | aE k =>
  simp only [Den]at d;obtain⟨p,rfl,hk⟩:=d;simp only [jP]at h;split at h
  ·rename_i ds e;cases h;obtain⟨g,xs,h3,_⟩:=w.aE k _ p e hk;exact .lst h3
  ·rename_i ds e;cases h;obtain⟨g,xs,h3,_⟩:=w.aE k _ p e hk;exact .dK h3
  ·cases h
 | _=>simp [jP]at h
theorem SA(K:Frag):kitOne K (.type "int") (.type "int")=some true:=by unfold kitOne;rw [if_pos (beq_self_eq_true _)]
theorem SH(K:Frag):kitOne K (.type "bool") (.type "int")=some true:=by kernel_rfl
theorem RQ(K:Frag):kitOne K (.type "str") (.type "int")=some false:=by kernel_rfl
theorem SN(K:Frag):kitOne K (.type "NoneType") (.type "int")=some false:=by kernel_rfl
theorem RL(K:Frag):kitOne K (.type "tuple") (.type "int")=some false:=by kernel_rfl
theorem RV(K:Frag):kitOne K (.type "list") (.type "int")=some false:=by kernel_rfl
theorem SD(K:Frag):kitOne K (.type "int") (.type "bool")=some false:=by kernel_rfl
theorem SI(K:Frag):kitOne K (.type "bool") (.type "bool")=some true:=by unfold kitOne;rw [if_pos (beq_self_eq_true _)]
theorem RR(K:Frag):kitOne K (.type "str") (.type "bool")=some false:=by kernel_rfl
theorem SO(K:Frag):kitOne K (.type "NoneType") (.type "bool")=some false:=by kernel_rfl
theorem RM(K:Frag):kitOne K (.type "tuple") (.type "bool")=some false:=by kernel_rfl
theorem RW(K:Frag):kitOne K (.type "list") (.type "bool")=some false:=by kernel_rfl
theorem RX(K:Frag):kitOne K (.type "int") (.type "tuple")=some false:=by kernel_rfl
theorem SE(K:Frag):kitOne K (.type "bool") (.type "tuple")=some false:=by kernel_rfl
theorem RN(K:Frag):kitOne K (.type "str") (.type "tuple")=some false:=by kernel_rfl
theorem SJ(K:Frag):kitOne K (.type "NoneType") (.type "tuple")=some false:=by kernel_rfl
theorem RI(K:Frag):kitOne K (.type "tuple") (.type "tuple")=some true:=by unfold kitOne;rw [if_pos (beq_self_eq_true _)]
theorem RS(K:Frag):kitOne K (.type "list") (.type "tuple")=some false:=by kernel_rfl
theorem RZ(K:Frag):kitOne K (.type "int") (.type "list")=some false:=by kernel_rfl
theorem SG(K:Frag):kitOne K (.type "bool") (.type "list")=some false:=by kernel_rfl
theorem RP(K:Frag):kitOne K (.type "str") (.type "list")=some false:=by kernel_rfl
theorem SM(K:Frag):kitOne K (.type "NoneType") (.type "list")=some false:=by kernel_rfl
theorem RK(K:Frag):kitOne K (.type "tuple") (.type "list")=some false:=by kernel_rfl
theorem RU(K:Frag):kitOne K (.type "list") (.type "list")=some true:=by unfold kitOne;rw [if_pos (beq_self_eq_true _)]
theorem RY(K:Frag):kitOne K (.type "int") (.type "str")=some false:=by kernel_rfl
theorem SF(K:Frag):kitOne K (.type "bool") (.type "str")=some false:=by kernel_rfl
theorem RO(K:Frag):kitOne K (.type "str") (.type "str")=some true:=by unfold kitOne;rw [if_pos (beq_self_eq_true _)]
theorem SK(K:Frag):kitOne K (.type "NoneType") (.type "str")=some false:=by kernel_rfl
theorem RJ(K:Frag):kitOne K (.type "tuple") (.type "str")=some false:=by kernel_rfl
theorem RT(K:Frag):kitOne K (.type "list") (.type "str")=some false:=by kernel_rfl
inductive eB:String→String→Bool→Prop where
 | SA:eB "int" "int" true
 | SH:eB "bool" "int" true
 | RQ:eB "str" "int" false
 | SN:eB "NoneType" "int" false
 | RL:eB "tuple" "int" false
 | RV:eB "list" "int" false
 | SD:eB "int" "bool" false
 | SI:eB "bool" "bool" true
 | RR:eB "str" "bool" false
 | SO:eB "NoneType" "bool" false
 | RM:eB "tuple" "bool" false
 | RW:eB "list" "bool" false
 | RX:eB "int" "tuple" false
 | SE:eB "bool" "tuple" false
 | RN:eB "str" "tuple" false
 | SJ:eB "NoneType" "tuple" false
 | RI:eB "tuple" "tuple" true
 | RS:eB "list" "tuple" false
 | RZ:eB "int" "list" false
 | SG:eB "bool" "list" false
 | RP:eB "str" "list" false
 | SM:eB "NoneType" "list" false
 | RK:eB "tuple" "list" false
 | RU:eB "list" "list" true
 | RY:eB "int" "str" false
 | SF:eB "bool" "str" false
 | RO:eB "str" "str" true
 | SK:eB "NoneType" "str" false
 | RJ:eB "tuple" "str" false
 | RT:eB "list" "str" false
theorem eB.ok(K:Frag){t n:String}{b:Bool}(h:eB t n b):kitOne K (.type t) (.type n)=some b:=by
 cases h
 ·exact V2.SA K
 ·exact V2.SH K
 ·exact V2.RQ K
 ·exact V2.SN K
 ·exact V2.RL K
 ·exact V2.RV K
 ·exact V2.SD K
 ·exact V2.SI K
 ·exact V2.RR K
 ·exact V2.SO K
 ·exact V2.RM K
 ·exact V2.RW K
 ·exact V2.RX K
 ·exact V2.SE K
 ·exact V2.RN K
 ·exact V2.SJ K
 ·exact V2.RI K
 ·exact V2.RS K
 ·exact V2.RZ K
 ·exact V2.SG K
 ·exact V2.RP K
 ·exact V2.SM K
 ·exact V2.RK K
 ·exact V2.RU K
 ·exact V2.RY K
 ·exact V2.SF K
 ·exact V2.RO K
 ·exact V2.SK K
 ·exact V2.RJ K
 ·exact V2.RT K
def nS(t n:String):Option Bool:=if t = "int"∧n = "int" then some true else if t = "bool"∧n = "int" then some true else if t = "str"∧n = "int" then some false else if t = "NoneType"∧n = "int" then some false else if t = "tuple"∧n = "int" then some false else if t = "list"∧n = "int" then some false else if t = "int"∧n = "bool" then some false else if t = "bool"∧n = "bool" then some true else if t = "str"∧n = "bool" then some false else if t = "NoneType"∧n = "bool" then some false else if t = "tuple"∧n = "bool" then some false else if t = "list"∧n = "bool" then some false else if t = "int"∧n = "tuple" then some false else if t = "bool"∧n = "tuple" then some false else if t = "str"∧n = "tuple" then some false else if t = "NoneType"∧n = "tuple" then some false else if t = "tuple"∧n = "tuple" then some true else if t = "list"∧n = "tuple" then some false else if t = "int"∧n = "list" then some false else if t = "bool"∧n = "list" then some false else if t = "str"∧n = "list" then some false else if t = "NoneType"∧n = "list" then some false else if t = "tuple"∧n = "list" then some false else if t = "list"∧n = "list" then some true else if t = "int"∧n = "str" then some false else if t = "bool"∧n = "str" then some false else if t = "str"∧n = "str" then some true else if t = "NoneType"∧n = "str" then some false else if t = "tuple"∧n = "str" then some false else if t = "list"∧n = "str" then some false else none
theorem adX{t n:String}{b:Bool}(h:nS t n=some b):eB t n b:=by
 unfold nS at h
 by_cases h0:t = "int"∧n = "int"
 ·rw [if_pos h0]at h;cases h;obtain⟨rfl,rfl⟩:=h0;exact .SA
 rw [if_neg h0]at h
 by_cases h1:t = "bool"∧n = "int"
 ·rw [if_pos h1]at h;cases h;obtain⟨rfl,rfl⟩:=h1;exact .SH
 rw [if_neg h1]at h
 by_cases h2:t = "str"∧n = "int"
 ·rw [if_pos h2]at h;cases h;obtain⟨rfl,rfl⟩:=h2;exact .RQ
 rw [if_neg h2]at h
 by_cases h3:t = "NoneType"∧n = "int"
 ·rw [if_pos h3]at h;cases h;obtain⟨rfl,rfl⟩:=h3;exact .SN
 rw [if_neg h3]at h
 by_cases h4:t = "tuple"∧n = "int"
 ·rw [if_pos h4]at h;cases h;obtain⟨rfl,rfl⟩:=h4;exact .RL
 rw [if_neg h4]at h
 by_cases h5:t = "list"∧n = "int"
 ·rw [if_pos h5]at h;cases h;obtain⟨rfl,rfl⟩:=h5;exact .RV
 rw [if_neg h5]at h
 by_cases h6:t = "int"∧n = "bool"
 ·rw [if_pos h6]at h;cases h;obtain⟨rfl,rfl⟩:=h6;exact .SD
 rw [if_neg h6]at h
 by_cases h7:t = "bool"∧n = "bool"
 ·rw [if_pos h7]at h;cases h;obtain⟨rfl,rfl⟩:=h7;exact .SI
 rw [if_neg h7]at h
 by_cases h8:t = "str"∧n = "bool"
 ·rw [if_pos h8]at h;cases h;obtain⟨rfl,rfl⟩:=h8;exact .RR
 rw [if_neg h8]at h
 by_cases h9:t = "NoneType"∧n = "bool"
 ·rw [if_pos h9]at h;cases h;obtain⟨rfl,rfl⟩:=h9;exact .SO
 rw [if_neg h9]at h
 by_cases WE:t = "tuple"∧n = "bool"
 ·rw [if_pos WE]at h;cases h;obtain⟨rfl,rfl⟩:=WE;exact .RM
 rw [if_neg WE]at h
 by_cases WD:t = "list"∧n = "bool"
 ·rw [if_pos WD]at h;cases h;obtain⟨rfl,rfl⟩:=WD;exact .RW
 rw [if_neg WD]at h
 by_cases WC:t = "int"∧n = "tuple"
 ·rw [if_pos WC]at h;cases h;obtain⟨rfl,rfl⟩:=WC;exact .RX
 rw [if_neg WC]at h
 by_cases WB:t = "bool"∧n = "tuple"
 ·rw [if_pos WB]at h;cases h;obtain⟨rfl,rfl⟩:=WB;exact .SE
 rw [if_neg WB]at h
 by_cases WA:t = "str"∧n = "tuple"
 ·rw [if_pos WA]at h;cases h;obtain⟨rfl,rfl⟩:=WA;exact .RN
 rw [if_neg WA]at h
 by_cases VZ:t = "NoneType"∧n = "tuple"
 ·rw [if_pos VZ]at h;cases h;obtain⟨rfl,rfl⟩:=VZ;exact .SJ
 rw [if_neg VZ]at h
 by_cases VY:t = "tuple"∧n = "tuple"
 ·rw [if_pos VY]at h;cases h;obtain⟨rfl,rfl⟩:=VY;exact .RI
 rw [if_neg VY]at h
 by_cases VX:t = "list"∧n = "tuple"
 ·rw [if_pos VX]at h;cases h;obtain⟨rfl,rfl⟩:=VX;exact .RS
 rw [if_neg VX]at h
 by_cases VV:t = "int"∧n = "list"
 ·rw [if_pos VV]at h;cases h;obtain⟨rfl,rfl⟩:=VV;exact .RZ
 rw [if_neg VV]at h
 by_cases VU:t = "bool"∧n = "list"
 ·rw [if_pos VU]at h;cases h;obtain⟨rfl,rfl⟩:=VU;exact .SG
 rw [if_neg VU]at h
 by_cases VR:t = "str"∧n = "list"
 ·rw [if_pos VR]at h;cases h;obtain⟨rfl,rfl⟩:=VR;exact .RP
 rw [if_neg VR]at h
 by_cases VQ:t = "NoneType"∧n = "list"
 ·rw [if_pos VQ]at h;cases h;obtain⟨rfl,rfl⟩:=VQ;exact .SM
 rw [if_neg VQ]at h
 by_cases VP:t = "tuple"∧n = "list"
 ·rw [if_pos VP]at h;cases h;obtain⟨rfl,rfl⟩:=VP;exact .RK
 rw [if_neg VP]at h
 by_cases VO:t = "list"∧n = "list"
 ·rw [if_pos VO]at h;cases h;obtain⟨rfl,rfl⟩:=VO;exact .RU
 rw [if_neg VO]at h
 by_cases VN:t = "int"∧n = "str"
 ·rw [if_pos VN]at h;cases h;obtain⟨rfl,rfl⟩:=VN;exact .RY
 rw [if_neg VN]at h
 by_cases VM:t = "bool"∧n = "str"
 ·rw [if_pos VM]at h;cases h;obtain⟨rfl,rfl⟩:=VM;exact .SF
 rw [if_neg VM]at h
 by_cases VL:t = "str"∧n = "str"
 ·rw [if_pos VL]at h;cases h;obtain⟨rfl,rfl⟩:=VL;exact .RO
 rw [if_neg VL]at h
 by_cases VJ:t = "NoneType"∧n = "str"
 ·rw [if_pos VJ]at h;cases h;obtain⟨rfl,rfl⟩:=VJ;exact .SK
 rw [if_neg VJ]at h
 by_cases VH:t = "tuple"∧n = "str"
 ·rw [if_pos VH]at h;cases h;obtain⟨rfl,rfl⟩:=VH;exact .RJ
 rw [if_neg VH]at h
 by_cases VF:t = "list"∧n = "str"
 ·rw [if_pos VF]at h;cases h;obtain⟨rfl,rfl⟩:=VF;exact .RT
 rw [if_neg VF]at h;cases h
theorem adY(K:Frag){t n:String}{b:Bool}(h:nS t n=some b):kitOne K (.type t) (.type n)=some b:=(adX h).ok K
@[simp] def wC(as:List A):Mo A:=fun Ω=>match as with
 | [a,.ty n]=>(match (jP Ω a).bind fun t=>nS t n with
  | some b=>some (.ok (.bl b),Ω)
  | none=>none)
 | _=>none
theorem EN:pC X W (.builtin "isinstance") wC:=by
 refine⟨_,ajS,?_⟩;intro G ι Ω H σ xs as Q w d h;unfold wC at h;split at h
 ·rename_i a n;split at h
  ·rename_i b e;rw [qI]at e;obtain⟨t,e1,e2⟩:=e;obtain⟨x,y,rfl,d1,d2⟩:=KI d;simp only [Den]at d2;subst d2;exact⟨x,n,_,b,rfl,Pb w d1 e1,adY _ e2,h _ H G ι (Ext.refl _ _) w (by simp only [Den])⟩
  ·exact False.elim h
 ·exact False.elim h
def Mj(K:Frag)(W:WX)(r:V→List V→Hp→VK→Prop)(g:A→List A→Mo A):Prop :=
 ∀G ι Ω H σ x xs a as Q,Wd K G ι Ω H→Den K G ι x a→aK K G ι xs as→aY K (Den K) W G ι σ Q (g a as Ω)→r x xs H Q
def SW(Ω:aI)(a:A):Prop:=∃ds,cX Ω a=some ds
open Classical in
@[simp] noncomputable def BE(g:A→List A→Mo A)(fo:Ev→Mo A)(f:Ev→Mo (List A)):Ev→Mo A:=fun ρ=>mb (fo ρ) fun o Ω=>if SW Ω o then mb (f ρ) (fun as=>g o as) Ω else none
theorem Oz{K:Frag}{G H:Hp}{ι:List Addr}{Ω:aI}{v:V}{a:A}(w:Wd K G ι Ω H)(d:Den K G ι v a)(h:SW Ω a):NS K "list" v H:=by
 obtain⟨ds,e⟩:=h;obtain⟨p,xs,rfl,q,_⟩:=oQ w d e;exact .inl ⟨rfl,xs,q⟩
theorem Bq{name:Str}{apos:Pos}{id:String}{r:V→List V→Hp→VK→Prop}{g:A→List A→Mo A}(pa:PlainAttrs "list")(slot:Slot "list" name id)(TF:typeOf (.builtin id)=pure (.type "method_descriptor"))(hm:zX X id r)(hv:Mj X.K W r g)(ho:VE X W a fa)(ha:VA X W (e::es) fs)
  (gS:attributeBase a name X.env (eval a X.env)=eval a X.env:=by rfl)
  (UL:((backTo pos (starEach (e::es) X.env)).all (fun x=>!x.1)&&(backToKw pos (keywordEach [] X.env)).all (fun x=>x.1.isSome)
   && decide ((e::es).length+([]:List Keyword).length+(if([]:List Keyword).isEmpty then 0 else 1)<30))=true:=by rfl)
  (gR:(apos.endLine == pos.line)=true:=by rfl) (hs:starEach (e::es) X.env=(false,eval e X.env)::starEach es X.env:=by rfl) (TQ:(backTo pos (starEach es X.env)).any (·.1)=false:=by rfl) :
  VE X W (.Call (.Attribute a name apos) (e::es) [] pos) (BE g fa fs):=by
 obtain⟨t,p1,s1⟩:=ho;obtain⟨u,p2,s2⟩:=ha;refine⟨_,aaQ pa slot TF hm p1 p2 gS UL gR hs TQ,fun G ι Ω H σ ρ Q w r h=>?_⟩;refine s1 G ι Ω H σ ρ _ w r (aY.mb h fun x Ω1 v H1 G1 ι1 x1 w1 d1 h1=>?_);split at h1
 ·rename_i hl;refine⟨Oz w1 d1 hl,s2 G1 ι1 Ω1 H1 σ ρ _ w1 (r.ext x1) (aY.mb h1 fun as Ω2 vs H2 G2 ι2 x2 w2 d2 h2=>?_)⟩;exact hv G2 ι2 Ω2 H2 σ v vs x as Q w2 (d1.ext x2) d2 h2
 ·exact False.elim h1
def zO(Ω:aI):A→Option (Nat×List A)
 | .aE k=>match Ω[k]? with
  | some (.lst ds)=>some (k,ds)
  | _=>none
 | _=>none
theorem ajB{K:Frag}{G H:Hp}{ι:List Addr}{Ω:aI}{v:V}{a:A}{k:Nat}{ds:List A}(w:Wd K G ι Ω H)(d:Den K G ι v a)(h:zO Ω a=some (k,ds)):∃p xs,v = .ref p∧ι[k]? = some p∧G p=none∧H p=some (.lst xs)∧aK K G ι xs ds:=by
 cases a with
 | aE j =>
  simp only [zO]at h;split at h
  ·rename_i es e;cases h;simp only [Den]at d;obtain⟨p,rfl,hk⟩:=d;obtain⟨g,xs,h3,h4⟩:=w.aE k _ p e hk;exact⟨p,xs,rfl,hk,g,h3,h4⟩
  ·cases h
 | _=>simp [zO]at h
@[simp] def zF(o:A)(as:List A):Mo A:=fun Ω=>match zO Ω o,as with
 | some (k,ds),[y]=>if ds.length<sizeLine then some (.ok .aZ,Ω.set k (.lst (ds++[y])))else none
 | _,_=>none
theorem Fz:Mj X.K W Ep zF:=by
 intro G ι Ω H σ x xs a as Q w d1 d2 h;unfold zF at h;split at h
 ·rename_i k ds y e;split at h
  ·rename_i hl;obtain⟨p,zs,rfl,hk,g,h3,h4⟩:=ajB w d1 e;obtain⟨u,rfl,du⟩:=rW d2;refine⟨p,zs,u,rfl,rfl,h3,by rw [h4.length];exact hl,?_⟩;exact h _ _ G ι (Ext.refl _ _) (w.put (c := .lst (ds++[y])) hk g ⟨g,_,cW,h4.append (.cons du .nil)⟩) (by simp only [Den])
  ·exact False.elim h
 ·exact False.elim h
end
mutual
def Cl(n:Nat):A→Prop
 | .aE k=>k<n
 | .tup ds=>fD n ds
 | .lst ds=>fD n ds
 | _=>True
def fD(n:Nat):List A→Prop
 | []=>True
 | d::ds=>Cl n d∧fD n ds
end
section
variable{K:Frag}{G:Hp}{ι:List Addr}
mutual
theorem Den.cl:∀{v:V} {d:A},Den K G ι v d→Cl ι.length d
 | _,.int _,_=>by simp only [Cl]
 | _,.bl _,_=>by simp only [Cl]
 | _,.str _,_=>by simp only [Cl]
 | _,.aZ,_=>by simp only [Cl]
 | _,.ty _,_=>by simp only [Cl]
 | _,.adr _,_=>by simp only [Cl]
 | _,.zG _ _ _ _,_=>by simp only [Cl]
 | _,.gl _,_=>by simp only [Cl]
 | _,.bY _,_=>by simp only [Cl]
 | _,.tup ds,h=>by
  simp only [Den]at h;simp only [Cl];obtain⟨a,xs,_,_,h3⟩:=h;exact aK.cl h3
 | _,.lst ds,h=>by
  simp only [Den]at h;simp only [Cl];obtain⟨a,xs,_,_,h3⟩:=h;exact aK.cl h3
 | _,.aE k,h=>by
  simp only [Den]at h;simp only [Cl];obtain⟨a,_,h2⟩:=h;exact(cL.mp h2).1
theorem aK.cl:∀{xs:List V} {ds:List A},aK K G ι xs ds→fD ι.length ds
 | _,[],_=>by simp only [fD]
 | _,d::ds,h=>by
  simp only [aK]at h;simp only [fD];obtain⟨x,r,_,h2,h3⟩:=h;exact⟨Den.cl h2,aK.cl h3⟩
end
mutual
theorem Den.cut{ι':List Addr}{n:Nat}(e:∀k,k<n→ι[k]? = ι'[k]?):∀{v:V} {d:A},Den K G ι' v d→Cl n d→Den K G ι v d
 | _,.int _,h,_=>by simpa only [Den]using h
 | _,.bl _,h,_=>by simpa only [Den]using h
 | _,.str _,h,_=>by simpa only [Den]using h
 | _,.aZ,h,_=>by simpa only [Den]using h
 | _,.ty _,h,_=>by simpa only [Den]using h
 | _,.adr _,h,_=>by simpa only [Den]using h
 | _,.zG _ _ _ _,h,_=>by simpa only [Den]using h
 | _,.gl _,h,_=>by simpa only [Den]using h
 | _,.bY _,h,_=>by simpa only [Den]using h
 | _,.tup ds,h,c=>by
  simp only [Den]at h ⊢;simp only [Cl]at c;obtain⟨a,xs,h1,h2,h3⟩:=h;exact⟨a,xs,h1,h2,aK.cut e h3 c⟩
 | _,.lst ds,h,c=>by
  simp only [Den]at h ⊢;simp only [Cl]at c;obtain⟨a,xs,h1,h2,h3⟩:=h;exact⟨a,xs,h1,h2,aK.cut e h3 c⟩
 | _,.aE k,h,c=>by
  simp only [Den]at h ⊢;simp only [Cl]at c;obtain⟨a,h1,h2⟩:=h;exact⟨a,h1,(e k c).trans h2⟩
theorem aK.cut{ι':List Addr}{n:Nat}(e:∀k,k<n→ι[k]? = ι'[k]?):∀{xs:List V} {ds:List A},aK K G ι' xs ds→fD n ds→aK K G ι xs ds
 | _,[],h,_=>by simpa only [aK]using h
 | _,d::ds,h,c=>by
  simp only [aK]at h ⊢;simp only [fD]at c;obtain⟨x,r,h1,h2,h3⟩:=h;exact⟨x,r,h1,Den.cut e h2 c.1,aK.cut e h3 c.2⟩
end
def oF(n:Nat):Fd→Prop
 | .val a=>Cl n a
 | .lst ds=>fD n ds
 | .aX kvs=>fD n (kvs.map (·.2))
def mM(n:Nat):List (Str×Fd)→Prop
 | []=>True
 | p::r=>oF n p.2∧mM n r
def AJ(n:Nat):Cell→Prop
 | .lst ds=>fD n ds
 | .aX kvs=>fD n (kvs.map (·.2))
 | .ins _ fs=>mM n fs
 | _=>True
theorem fK.cl{H:Hp}{v:V}{fd:Fd}(h:fK K G ι H v fd):oF ι.length fd:=by
 cases fd with
 | val a=>exact Den.cl h
 | lst ds=>obtain⟨_,_,_,_,_,_,q⟩:=h;exact q.cl
 | aX kvs=>obtain⟨_,_,_,_,_,_,_,q⟩:=h;exact q.cl
theorem fW.cl{H:Hp}:∀{ws:List (Str×V)} {fs:List (Str×Fd)},fW K G ι H ws fs→mM ι.length fs
 | [],[],_=>trivial
 | (_,_)::_,(_,_)::_,h=>⟨h.2.1.cl,h.2.2.cl⟩
 | [],_::_,h=>h.elim
 | _::_,[],h=>h.elim
theorem lG.cl{H:Hp}{a:Addr}{c:Cell}(h:lG K G ι H a c):AJ ι.length c:=by
 cases c with
 | lst ds=>obtain⟨_,_,_,q⟩:=h;exact q.cl
 | aX kvs=>obtain⟨_,_,_,_,q⟩:=h;exact q.cl
 | ins cls fs=>obtain⟨_,_,_,_,_,_,q⟩:=h;exact q.cl
 | tab x pos qual=>trivial
 | dead=>trivial
theorem fK.cut{H:Hp}{ι':List Addr}{n:Nat}{v:V}{fd:Fd}(h:fK K G ι' H v fd)(e:∀k,k<n→ι[k]? = ι'[k]?)(hi:∀b,b∉ι'→b∉ι)(c:oF n fd):fK K G ι H v fd:=by
 cases fd with
 | val a=>exact Den.cut e h c
 | lst ds=>obtain⟨b,xs,h1,h2,h3,h4,h5⟩:=h;exact⟨b,xs,h1,h2,hi b h3,h4,h5.cut e c⟩
 | aX kvs=>obtain⟨b,ws,h1,h2,h3,h4,h5,h6⟩:=h;exact⟨b,ws,h1,h2,hi b h3,h4,h5,h6.cut e c⟩
theorem fW.cut{H:Hp}{ι':List Addr}{n:Nat}(e:∀k,k<n→ι[k]? = ι'[k]?)(hi:∀b,b∉ι'→b∉ι):∀{ws:List (Str×V)} {fs:List (Str×Fd)},fW K G ι' H ws fs→mM n fs→fW K G ι H ws fs
 | [],[],_,_=>trivial
 | (_,_)::_,(_,_)::_,h,c=>⟨h.1,h.2.1.cut e hi c.1,fW.cut e hi h.2.2 c.2⟩
 | [],_::_,h,_=>h.elim
 | _::_,[],h,_=>h.elim
theorem lG.cut{H:Hp}{ι':List Addr}{n:Nat}{a:Addr}{c:Cell}(h:lG K G ι' H a c)(e:∀k,k<n→ι[k]? = ι'[k]?)(hi:∀b,b∉ι'→b∉ι)(hc:AJ n c):lG K G ι H a c:=by
 cases c with
 | lst ds=>obtain⟨g,xs,h1,h2⟩:=h;exact⟨g,xs,h1,h2.cut e hc⟩
 | aX kvs=>obtain⟨g,ws,h1,h2,h3⟩:=h;exact⟨g,ws,h1,h2,h3.cut e hc⟩
 | ins cls fs=>obtain⟨g,C,dx,ws,h0,h1,h2⟩:=h;exact⟨g,C,dx,ws,h0,h1,h2.cut e hi hc⟩
 | tab x pos qual=>exact h
 | dead=>trivial
theorem Ext.cut{G':Hp}{ι':List Addr}(e:Ext G ι G' ι'):∀k,k<ι.length→ι[k]? = ι'[k]?:=fun k hk=>by
 rw [jK hk,e.pre k _ (jK hk)]
theorem Wd.cut{G' H H':Hp}{ι':List Addr}{Ω Ω':aI}(w:Wd K G ι Ω H)(w':Wd K G' ι' Ω' H')(e:Ext G ι G' ι')(ht:Ω'.take Ω.length=Ω):Wd K G' ι Ω H' where
 sub:=w'.sub
 inj:=w.inj
 len:=w.len
 live:=fun a ha=>by
  obtain⟨k,hk,ea⟩:=Ad ha;exact w'.live a (oA (e.pre k a (by rw [← ea];exact jK hk)))
 aE:=fun k c a h1 h2=>by
  have hk:k<Ω.length:=(cL.mp h1).1;have rR:Ω'[k]? = some c:=by
   rw [← ht,FA]at h1;rw [if_pos hk]at h1;exact h1
  have q:=w'.aE k c a rR (e.pre k a h2);have q0:=w.aE k c a h1 h2;cases c with
  | lst ds =>
   obtain⟨g,xs,h3,h4⟩:=q;obtain⟨_,_,_,h5⟩:=q0;exact⟨g,xs,h3,h4.cut e.cut h5.cl⟩
  | aX kvs =>
   obtain⟨g,ws,h3,h4,h5⟩:=q;obtain⟨_,_,_,_,h6⟩:=q0;exact⟨g,ws,h3,h4,h5.cut e.cut h6.cl⟩
  | ins cls fs =>
   obtain⟨g,C,dx,ws,h0,h3,h4⟩:=q;obtain⟨_,_,_,_,_,_,h6⟩:=q0;exact⟨g,C,dx,ws,h0,h3,h4.cut (n:=ι.length) e.cut (fun b hb z=>hb (by
    obtain⟨k,hk,ea⟩:=Ad z;exact oA (e.pre k b (by rw [← ea];exact jK hk)))) h6.cl⟩
  | tab x pos qual=>exact q
  | dead=>trivial
 sep:=fun b k i k' i' h1 h2=>by
  have back:∀{k i},fJ H' ι Ω k i b→fJ H' ι' Ω' k i b:=fun{k i} h=>h.to (fun a ha=>⟨e.pre k a ha,fun _ z=>z⟩) fun cls fs q=>by
   have hk:k<Ω.length:=(cL.mp q).1;rw [← ht,FA,if_pos hk]at q;exact q
  exact w'.sep b k i k' i' (back h1) (back h2)
end
open Classical in
noncomputable def trim(Ω:aI):Option (Rs A×aI)→Option (Rs A×aI)
 | some (.ok a,Ω')=>if Ω'.take Ω.length=Ω∧Cl Ω.length a then some (.ok a,Ω)else some (.ok a,Ω')
 | some (.exc x,Ω')=>if Ω'.take Ω.length=Ω∧fD Ω.length (x.fs.map (·.2))then some (.exc x,Ω)else some (.exc x,Ω')
 | none=>none
theorem Pk{K:Frag}{W:WX}{G H:Hp}{ι:List Addr}{Ω:aI}{σ:L2.St}{Q:VK}{r:Option (Rs A×aI)}(w:Wd K G ι Ω H)(h:aY K (Den K) W G ι σ Q (trim Ω r)):aY K (Den K) W G ι σ Q r:=by
 match r,h with
 | some (.ok a,Ω'),h =>
  simp only [trim]at h;split at h
  ·rename_i hc;exact fun v H' G' ι' e w' d=>h v H' G' ι ⟨e.same,fun _ _ q=>q⟩ (w.cut w' e hc.1) (d.cut e.cut (by rw [w.len];exact hc.2))
  ·exact h
 | some (.exc x,Ω'),h =>
  simp only [trim]at h;split at h
  ·rename_i hc;intro cls dx H' G' ι' e w' d;refine h cls dx H' G' ι ⟨e.same,fun _ _ q=>q⟩ (w.cut w' e hc.1) d
  ·exact h
@[simp] def gC:OS→Option (Rs A×aI)
 | some (.nx,_,Ω)=>some (.ok .aZ,Ω)
 | some (.ret a,_,Ω)=>some (.ok a,Ω)
 | some (.exc x,_,Ω)=>some (.exc x,Ω)
 | _=>none
@[simp] def EE(n:Nat)(ds:List A):Ev:=ds.map some++List.replicate (n - ds.length) none
@[simp] noncomputable def dQ(n:Nat)(b:MS):List A→Mo A:=fun ds Ω=>trim Ω (gC (b (EE n ds) Ω))
def pJ(K:Frag)(n:Nat)(F:List A→Mo A):Sp:=fun vs H Q E=>vs.length=n∧∃G ι Ω ds,Wd K G ι Ω H∧aK K G ι vs ds∧aY K (Den K) (fun _=>E) G ι [] Q (F ds Ω)
abbrev fX(P:Program)(w:World)(K:Frag)(mg:Str→Option Value)(base:Heap)(x:Str)(k:Nat)(ps:List Str)(F:List A→Mo A):Prop:=MR P w K mg base x k ps (pJ K ps.length F)
theorem ahI{K:Frag}{G:Hp}{ι:List Addr}{N:List Str}{vs:List V}{ds:List A}(d:aK K G ι vs ds):eW K G ι (L2.start N vs) (EE N.length ds):=by
 unfold L2.start EE;have hl:=d.length;refine⟨by simp [hl],fun i a h=>?_⟩
 by_cases hi:i<ds.length
 ·rw [fV (by simpa using hi)]at h;rw [iM]at h;cases e:ds[i]? with
  | none=>rw [e]at h;cases h
  | some a' =>
   rw [e]at h;cases h;obtain⟨v,q1,q2⟩:=d.get e;refine⟨v,?_,q2⟩;rw [fV (by simp;omega),iM,q1];rfl
 ·rw [sF (by simpa using hi)]at h;have:=oA h;simp at this
theorem XZ{K:Frag}{N:List Str}{t:TS}{b:MS}{H:Hp}{vs:List V}{Q:VK}{E:XK}{n:Nat}(s:qG K (fun _=>E) t b)(h:pJ K n (dQ N.length b) vs H Q E):t { nx:=fun _ H'=>Q .aZ H',rt:=Q } (L2.start N vs) H:=by
 obtain⟨hl,G,ι,Ω,ds,w,d,q⟩:=h;refine s G ι Ω H _ (EE N.length ds) _ w (ahI d) ?_;have q':=Pk w q
 revert q'
 generalize b (EE N.length ds) Ω=r;intro q'
 match r,q' with
 | some (.nx,ρ',Ω'),q'=>exact fun σ' H' G' ι' e w' r'=>q' .aZ H' G' ι' e w' (by simp only [Den])
 | some (.ret a,ρ',Ω'),q'=>exact fun σ' H' G' ι' e w' r' v d'=>q' v H' G' ι' e w' d'
 | some (.exc x,ρ',Ω'),q'=>exact fun σ' H' G' ι' e w' r' cls dx d'=>q' cls dx H' G' ι' e w' d'
 | some (.bk,ρ',Ω'),q'=>exact False.elim q'
 | some (.ct,ρ',Ω'),q'=>exact False.elim q'
section
variable{P:Program}{w:World}{K:Frag}{mg:Str→Option Value}{base:Heap}
theorem Jc{x:Str}{st:Stmt}{N ps:List Str}{k:Nat}{b:MS}{f:Addr}{fd:FuncData}(F:mL K x x st f fd)(S:cU N ps (aV st))
  (iI:∀(f:Addr) (aR:Value) (A:Around) (outer:List Env) (s:Shared) (H:Hp) (E:XK),bN k (A.deeper (envOfC x (aV st) s.heap.objs.size f aR)) →
   jW (nE P w K mg base N x (aV st) f aR A outer s H E) (fun _=>E) (dW st) b):fQ P w K mg base (kJ P w) (k+1) f fd ps (pJ K ps.length (dQ N.length b)):=by
 obtain⟨oc,od,kV,doc,pm,an,aR,ct,gJ,rfl,lk,jE⟩:=F.ex;refine EC lk jE S (fun vs H Q E h=>h.1) fun A outer s H vs Q E hr iH=>?_;obtain⟨t,p,q⟩:=iI f aR A outer s H E hr;exact⟨t,IM p,XZ q iH⟩
theorem fX.of{x:Str}{st:Stmt}{N ps:List Str}{k:Nat}{b:MS}(h:HasFn K mg x st)(S:cU N ps (aV st))
  (bind:∀(kV doc pm:Value) (an:Option Addr) (aR ct:Value) (us:List Value),us.length=ps.length→bindArgs (fnOf x x (iR st) (dW st) (aV st) .none kV doc pm an aR ct) ⟨us,[]⟩=pure (ps.zip us))
  (iI:∀(f:Addr) (aR:Value) (A:Around) (outer:List Env) (s:Shared) (H:Hp) (E:XK),bN k (A.deeper (envOfC x (aV st) s.heap.objs.size f aR)) →
   jW (nE P w K mg base N x (aV st) f aR A outer s H E) (fun _=>E) (dW st) b):fX P w K mg base x (k+1) ps (dQ N.length b):=by
 obtain⟨f,fd,hm,F⟩:=h.ex;exact⟨f,fd,Jc F S iI,hm,F.kp,F.binds bind⟩
abbrev ak7(P:Program)(w:World)(K:Frag)(mg:Str→Option Value)(base:Heap)(x:Str)(k:Nat)(ps:List Str)(F:List A→Mo A):Prop:=Def P w K mg base x k ps (fun vs H Q _=>pJ K ps.length F vs H Q fun _ _ _=>False)
theorem XW{k:Nat}{f:Addr}{fd:FuncData}{ps:List Str}{sp:Sp}(F:fQ P w K mg base (kJ P w) k f fd ps sp):fQ P w K mg base qO k f fd ps (fun vs H Q _=>sp vs H Q fun _ _ _=>False) :=
 ⟨fun vs H Q E h=>F.len _ _ _ _ h,fun A outer s H args us vs Q E hr e0 hb r iH=>rX (F.run A outer s H args us vs Q _ hr e0 hb r iH) fun r s' hq=>by
  cases r with
  | error ev=>obtain⟨x,cls,dx,H',_,_,_,_,_,_,q⟩:=hq;exact q.elim
  | ok fl=>cases fl <;> exact hq⟩
theorem fX.calm{x:Str}{k:Nat}{ps:List Str}{F:List A→Mo A}(D:fX P w K mg base x k ps F):ak7 P w K mg base x k ps F:=by
 obtain⟨f,fd,h1,h2,h3,h4⟩:=D.ex;exact⟨f,fd,XW h1,h2,h3,h4⟩
def HB(K:Frag):Sp:=fun vs H Q _=>∃(a:Addr) (ns:List Int),vs=[.ref a]∧eE K H a (ns.map V.int)∧ns.length≤63∧∀H',Q (.bl true) H'
theorem ac5{fa:Addr}{fd:FuncData}{k:Nat}{F:List A→Mo A}(h1:fQ P w K mg base (kJ P w) k fa fd ["_law_script"] (pJ K 1 F))(hF:∀ns:List Int,ns.length≤63→∃Ω,F [.bY ns] []=some (.ok (.bl true),Ω)) :
  fQ P w K mg base qO k fa fd ["_law_script"] (HB K):=by
 refine(XW h1).imp fun vs H Q E hq=>?_;obtain⟨a,ns,rfl,hs,hl,q⟩:=hq;obtain⟨Ω,e⟩:=hF ns hl;refine⟨rfl,H,[],[],[.bY ns],⟨fA.refl _,List.nodup_nil,rfl,fun a ha=>by simp at ha,fun k c a h=>by simp at h,fun b k i k' i' h=>by obtain⟨_,_,_,_,_,_,_,_,_,q,_⟩:=h;simp at q⟩,.cons (by simp only [Den];exact⟨a,rfl,hs⟩) .nil,?_⟩;rw [e];intro v H' G' ι' _ _ d;simp only [Den]at d;subst d;exact q H'
end
section
variable{X:Cx}{W:WX}{x:Str}{p pos:Pos}{e:Expr}{es:List Expr}{fs:Ev→Mo (List A)}
@[simp] def dJ(n:Nat)(F:List A→Mo A):List A→Mo A:=fun as=>if as.length=n then F as else stuck
theorem XX{K:Frag}{G G1:Hp}{ι ι1:List Addr}{σ:L2.St}{Q:VK}{r:Option (Rs A×aI)}{W:WX}(h:aY K (Den K) W G ι σ Q r)(x1:Ext G ι G1 ι1):aY K (Den K) (fun _=>fun cls dx H'=>W σ cls dx H') G1 ι1 [] Q r:=by
 match r,h with
 | some (.ok a,Ω2),h=>exact fun v H' G' ι' x2 w2 d2=>h v H' G' ι' (x1.trans x2) w2 d2
 | some (.exc a,Ω2),h=>exact fun cls dx H' G' ι' x2 w2 d2=>h cls dx H' G' ι' (x1.trans x2) w2 d2
theorem iB{k:Nat}{ps:List Str}{F:List A→Mo A}(T:nG X W)(D:fX X.prog X.w X.K X.mg X.base x k ps F)(hr:bN k X.A)(hg:Gl X x)(ha:VA X W (e::es) fs)
  (jD:(x == ("__debug__" : Str))=false:=by decide) (he:starEach (e::es) X.env=(false,eval e X.env)::starEach es X.env:=by rfl) (dF:(backTo pos (starEach es X.env)).any (·.1)=false:=by rfl):VE X W (.Call (.Name x p) (e::es) [] pos) (aU (dJ ps.length F) fs):=by
 obtain⟨t,p1,s1⟩:=ha;refine⟨_,aaN T D hr hg p1 jD he dF,fun G ι Ω H σ ρ Q w r h=>?_⟩;refine s1 G ι Ω H σ ρ _ w r (aY.mb h fun as Ω1 vs H1 G1 ι1 x1 w1 d1 h1=>?_);unfold dJ at h1;split at h1
 ·rename_i hl;exact⟨by rw [d1.length];exact hl,G1,ι1,Ω1,as,w1,d1,XX h1 (Ext.refl _ _)⟩
 ·exact False.elim h1
abbrev cI(i:Int):Ev→Mo A:=fun _=>ret (.int i)
abbrev cB(i:Bool):Ev→Mo A:=fun _=>ret (.bl i)
abbrev cN:Ev→Mo A:=fun _=>ret .aZ
abbrev cT(n:String):Ev→Mo A:=fun _=>ret (.ty n)
abbrev a0:Ev→Mo (List A):=fun _=>ret []
end
end V2
namespace V2
open PySem L2
section
variable{α β:Type}{Ω Ω':aI}{a:A}
@[simp] theorem amC(x:α)(k:α→Mo β):mb (ret x) k=k x:=rfl
theorem bQ{m:Mo α}{k:α→Mo β}{x:α}(h:m Ω=some (.ok x,Ω')):mb m k Ω=k x Ω':=by unfold mb;rw [h]
@[simp] theorem amD(x:α)(k:α→Mo β):mb (need (some x)) k=k x:=rfl
theorem acN{p:Prop} [Decidable p](k:Unit→Mo β)(h:p):mb (lA p) k=k ():=by funext Ω;simp [mb,lA,h]
@[simp] theorem Eb(x:α):(ret x:Mo α) Ω=some (.ok x,Ω):=rfl
@[simp] theorem alY:trim Ω (some (.ok a,Ω))=some (.ok a,Ω):=by simp only [trim];split <;> rfl
theorem NX{Δ:aI}(h:Cl Ω.length a):trim Ω (some (.ok a,Ω++Δ))=some (.ok a,Ω):=by
 simp only [trim];rw [if_pos ⟨by simp,h⟩]
@[simp] theorem al5(x:α)(ρ:Ev)(k:α→aI→OS):sM (ret x) ρ k=k x:=rfl
theorem fR{m:Mo α}{ρ:Ev}{k:α→aI→OS}{x:α}(h:m Ω=some (.ok x,Ω')):sM m ρ k Ω=k x Ω':=by unfold sM;rw [h]
@[simp] theorem CB(ρ:Ev):gC (some (.ret a,ρ,Ω))=some (.ok a,Ω):=rfl
@[simp] theorem yH(ρ:Ev):gC (some (.nx,ρ,Ω))=some (.ok .aZ,Ω):=rfl
theorem bK{f g:MS}{ρ ρ1:Ev}(h:f ρ Ω=some (.nx,ρ1,Ω')):bD f g ρ Ω=g ρ1 Ω':=by unfold bD;rw [h]
theorem ES{α:Type}(xs:List α)(n:Nat):hV xs (n:Int)=xs[n]?:=by
 unfold hV yP;rw [if_pos (by omega)]
 by_cases h:(n:Int)<xs.length
 ·rw [if_pos h];simp
 ·rw [if_neg h];simp;omega
theorem LP{α:Type}(xs:List α)(n:Nat):hV xs (OfNat.ofNat n:Int)=xs[n]?:=ES xs n
theorem akA{α:Type}(xs:List α):hV xs 0=xs[0]?:=ES xs 0
theorem akB{α:Type}(xs:List α):hV xs 1=xs[1]?:=ES xs 1
end
@[simp] theorem alQ:nS "int" "int" = some true:=by simp [nS]
@[simp] theorem alR:nS "int" "bool" = some false:=by simp [nS]
@[simp] theorem alO:nS "tuple" "tuple" = some true:=by simp [nS]
@[simp] theorem alP:nS "list" "list" = some true:=by simp [nS]
@[simp] theorem acV(Ω:aI)(ds:List A):cX Ω (.lst ds)=some ds:=rfl
@[simp] theorem amI(Ω:aI)(ns:List Int):cX Ω (.bY ns)=some (ns.map A.int):=rfl
@[simp] theorem amH(Ω:aI)(ds:List A):cX Ω (.tup ds)=none:=rfl
@[simp] theorem amJ(Ω:aI)(i:Int):cX Ω (.int i)=none:=rfl
@[simp] theorem al2(Ω:aI)(ds:List A):gY Ω (.lst ds)=some ds:=rfl
@[simp] theorem al1(Ω:aI)(ns:List Int):gY Ω (.bY ns)=some (ns.map A.int):=rfl
@[simp] theorem al0(Ω:aI)(ds:List A):gY Ω (.tup ds)=some ds:=rfl
@[simp] theorem al3(Ω:aI)(k:Nat):gY Ω (.aE k)=cX Ω (.aE k):=rfl
@[simp] theorem alW(Ω:aI)(i:Int):jP Ω (.int i)=some "int":=rfl
@[simp] theorem alX(Ω:aI)(i:Bool):jP Ω (.bl i)=some "bool":=rfl
@[simp] theorem alT(Ω:aI)(i:Str):jP Ω (.str i)=some "str":=rfl
@[simp] theorem alU(Ω:aI):jP Ω .aZ=some "NoneType":=rfl
@[simp] theorem alS(Ω:aI)(ds:List A):jP Ω (.tup ds)=some "tuple":=rfl
@[simp] theorem alV(Ω:aI)(ds:List A):jP Ω (.lst ds)=some "list":=rfl
@[simp] theorem amO:vG .aZ=some true:=rfl
@[simp] theorem amQ(i:Int):vG (.int i)=some false:=rfl
@[simp] theorem amN(ds:List A):vG (.tup ds)=some false:=rfl
@[simp] theorem amP(ds:List A):vG (.lst ds)=some false:=rfl
@[simp] theorem amR(b:Bool):vG (.bl b)=some false:=rfl
theorem rE{Ω:aI}{k:Nat}{ds:List A}(h:Ω[k]? = some (.lst ds)):cX Ω (.aE k)=some ds:=by simp [cX,h]
theorem Pc{Ω:aI}{k:Nat}{ds:List A}(h:Ω[k]? = some (.lst ds)):jP Ω (.aE k)=some "list":=by simp [jP,h]
theorem ajC{Ω:aI}{k:Nat}{ds:List A}(h:Ω[k]? = some (.lst ds)):zO Ω (.aE k)=some (k,ds):=by simp [zO,h]
theorem ad0{Ω:aI}{a:A}{ds:List A}(h:cX Ω a=some ds):SW Ω a:=⟨ds,h⟩
@[simp] theorem vZ(Ω:aI)(c:Cell):(Ω++[c])[Ω.length]? = some c:=by simp
@[simp] theorem xX(Ω:aI)(c d:Cell):(Ω++[c]).set Ω.length d=Ω++[d]:=by simp
section
variable{ok:aI→Prop}{g:A→MS}{b:MS}{x:A}{xs:List A}{ρ ρ0 ρ1:Ev}{Ω Ω0 Ω1:aI}{a:A}
theorem ag9(h:ok Ω):dU ok g b [] ρ Ω=some (.nx,ρ,Ω):=by simp [dU,h]
theorem ED(h:ok Ω)(hg:g x ρ Ω=some (.nx,ρ0,Ω0))(hb:b ρ0 Ω0=some (.nx,ρ1,Ω1)):dU ok g b (x::xs) ρ Ω=dU ok g b xs ρ1 Ω1:=by simp [dU,h,hg,hb]
theorem ahA(h:ok Ω)(hg:g x ρ Ω=some (.nx,ρ0,Ω0))(hb:b ρ0 Ω0=some (.ct,ρ1,Ω1)):dU ok g b (x::xs) ρ Ω=dU ok g b xs ρ1 Ω1:=by simp [dU,h,hg,hb]
theorem Jl(I:Nat→Ev→aI→Prop)(aH:∀i ρ Ω,I i ρ Ω→ok Ω):∀(xs:List A) (j:Nat) (ρ:Ev) (Ω:aI),I j ρ Ω →
  (∀i x ρ Ω,xs[i]? = some x→I (j+i) ρ Ω→∃ρ0 Ω0 ρ1 Ω1,g x ρ Ω=some (.nx,ρ0,Ω0)∧(b ρ0 Ω0=some (.nx,ρ1,Ω1)∨b ρ0 Ω0=some (.ct,ρ1,Ω1))∧I (j+i+1) ρ1 Ω1) →
  ∃ρ' Ω',dU ok g b xs ρ Ω=some (.nx,ρ',Ω')∧I (j+xs.length) ρ' Ω'
 | [],j,ρ,Ω,h0,_=>⟨ρ,Ω,ag9 (aH _ _ _ h0),h0⟩
 | x::xs,j,ρ,Ω,h0,turn=>by
  obtain⟨ρ0,Ω0,ρ1,Ω1,e1,e2,e3⟩:=turn 0 x ρ Ω rfl h0;obtain⟨ρ',Ω',q1,q2⟩:=Jl I aH xs (j+1) ρ1 Ω1 e3 fun i y ρ Ω hy hI=>by
   have:=turn (i+1) y ρ Ω (by simpa using hy) (by rw [show j+(i+1)=j+1+i by omega];exact hI);rwa [show j+(i+1)+1=j+1+i+1 by omega]at this
  refine⟨ρ',Ω',?_,by rw [nH,show j+(xs.length+1)=j+1+xs.length by omega];exact q2⟩
  rcases e2 with e2 | e2
  ·rw [ED (aH _ _ _ h0) e1 e2,q1]
  ·rw [ahA (aH _ _ _ h0) e1 e2,q1]
end
open PySem PySem.Spec PyProof.Rows L2
theorem Inv.Ci{X:Cx}{pins:List (Addr×Obj)}{σ:L2.St}{H:Hp}{s:Shared}{p:Addr}{o:HO}(I:Inv X pins σ H s)(hp:H p=none)(h0:X.s₀.heap.get? p=none)(hL:p≠X.env.locals)(hC:∀x c,X.env.cells.lookup x=some c→c≠p)(hP:∀q∈X.pn++pins,q.1≠p)
  (aH:dO X.prog X.w (upd H p o) s.heap):Inv X pins σ (upd H p o) s where
 ok:=I.ok
 os:=I.os
 bare:=I.bare
 base:={
  keep:=I.base.keep
  slot:=I.base.slot
  free:=fun b ob q n hx=>by
   have hb:b≠p:=fun z=>by subst z;rw [h0]at q;cases q
   rw [aT hb];exact I.base.free b ob q n hx
  there:=I.base.there
  iW:=fun b xs q=>by have z:=I.base.iW b xs q;rw [aT (gE z hp)];exact z
  iJ:=fun b ob u q=>by have z:=I.base.iJ b ob u q;rw [aT (gE z hp)];exact z
  iY:=fun b ps q=>by obtain⟨more,z⟩:=I.base.iY b ps q;exact⟨more,by rw [aT (gE z hp)];exact z⟩ }
 loc:=I.loc
 cell:=I.cell
 free:=by rw [aT (bT hL)];exact I.free
 hU:=fun x c q=>by rw [aT (hC x c q)];exact I.hU x c q
 pin:=fun q hq=>by
  obtain⟨a,b,c⟩:=I.pin q hq;exact⟨a,by rw [aT (hP q hq)];exact b,c⟩
 aH:=aH
 len:=I.len
section
variable{X:Cx}{W:WX}{pos:Pos}
theorem Bk{st:Stmt}:VS X W st (fun _ _=>none):=⟨_,Zb,fun _ _ _ _ _ _ _ _ _ h=>h.elim⟩
end
def vD(n:Nat)(js:List Nat)(ρ:Ev):Ev:=List.replicate n none++js.map (fun j=>(ρ[j]?).join)
def zS(X:Cx)(W:WX)(ifs:List Expr)(f:Ev→Mo Bool):Prop:=∃t,zU X ifs t∧dX X.K yB W t f
abbrev sO:Ev→Mo Bool:=fun _=>ret true
theorem NC{X:Cx}{W:WX}:zS X W [] sO:=⟨_,Zj,fun _ _ _ _ _ _ _ w _ q=>iE w rfl q⟩
theorem NB{X:Cx}{W:WX}{c:Expr}{f:Ev→Mo Bool}(h:VT X W c f):zS X W [c] f:=let ⟨t,p,s⟩:=h; ⟨t,Zi p,s⟩
open Classical in
noncomputable def lO(ok:aI→Prop)(g:A→MS)(c:Ev→Mo Bool)(e:Ev→Mo A)(n:Nat):List A→Ev→aI→Option (Ev×aI)
 | [],ρ,Ω=>if ok Ω then some (ρ,Ω)else none
 | x::xs,ρ,Ω=>if ok Ω then(match g x ρ Ω with
  | some (.nx,ρ1,Ω1)=>(match c ρ1 Ω1 with
   | some (.ok true,Ω2)=>(match e ρ1 Ω2 with
    | some (.ok y,Ω3)=>(match Ω3[n]? with
     | some (.lst ys)=>if ys.length<sizeLine then lO ok g c e n xs ρ1 (Ω3.set n (.lst (ys++[y])))else none
     | _=>none)
    | _=>none)
   | some (.ok false,Ω2)=>lO ok g c e n xs ρ1 Ω2
   | _=>none)
  | _=>none)else none
open Classical in
noncomputable def RE(cf:Bool)(Ω1:aI)(r:Option (Ev×aI)):Option (Rs A×aI):=match r with
 | some (_,Ω')=>(match Ω'[Ω1.length]? with
  | some (.lst ys)=>if cf then some (.ok (.aE Ω1.length),Ω')else if Ω'.take Ω1.length=Ω1∧fD Ω1.length ys then some (.ok (.lst ys),Ω1)else some (.ok (.lst ys),Ω'.set Ω1.length .dead)
  | _=>none)
 | none=>none
noncomputable def kN(cf:Bool)(n:Nat)(js:List Nat)(fi:Ev→Mo Src)(g:A→MS)(c:Ev→Mo Bool)(e:Ev→Mo A):Ev→Mo A:=fun ρ=>mb (fi ρ) fun S Ω1=>RE cf Ω1 (lO S.ok g c e Ω1.length S.ds (vD n js ρ) (Ω1++[.lst []]))
theorem ag8{ok:aI→Prop}{g:A→MS}{c:Ev→Mo Bool}{e:Ev→Mo A}{n:Nat}{xs:List A}{ρ:Ev}{Ω:aI}{r:Ev×aI}(h:lO ok g c e n xs ρ Ω=some r):ok Ω:=by
 cases xs with
 | nil=>unfold lO at h;by_cases hp:ok Ω;exact hp;rw [if_neg hp]at h;cases h
 | cons=>unfold lO at h;by_cases hp:ok Ω;exact hp;rw [if_neg hp]at h;cases h
theorem ac4{K:Frag}{G:Hp}{ι:List Addr}{σ:L2.St}{ρ:Ev}(ls:List Str)(js:List Nat)(r:eW K G ι σ ρ):eW K G ι (pS ls js σ) (vD ls.length js ρ):=by
 unfold pS vD;refine⟨by simp,fun i d h=>?_⟩
 by_cases hi:i<ls.length
 ·rw [fV (by simpa using hi)]at h;rw [List.getElem?_replicate,if_pos hi]at h;cases h
 ·rw [sF (by simpa using ZM hi),List.length_replicate,iM]at h;cases e:js[i - ls.length]? with
  | none=>rw [e]at h;cases h
  | some j =>
   rw [e]at h;have h':(ρ[j]?).join=some d:=lR h;obtain⟨v,q1,q2⟩:=r.2 j d (join_some h');refine⟨v,?_,q2⟩;rw [sF (by simpa using ZM hi),dN,iM,e];show some (σ[j]?).join=_;rw [q1];rfl
section
variable{K:Frag}{W:WX}
theorem Dq{ls:List Str}{js:List Nat}{wi:TI}{tg:TG}{tc:TT}{te:TE}{fi:Ev→Mo Src}{g:A→MS}{c:Ev→Mo Bool}{e:Ev→Mo A}{cf:Bool}(W0:WX)(hi:dX K (QE K) W wi fi)(hg:zT K W0 tg g)(hc:dX K yB W0 tc c)(he:dX K (Den K) W0 te e) :
  dX K (Den K) W (OD ls js wi tg tc te) (kN cf ls.length js fi g c e):=by
 intro G ι Ω H σ ρ Q w r h;refine hi G ι Ω H σ ρ _ w r (aY.mb h fun S Ω1 J H1 G1 ι1 x1 w1 j1 h1=>?_);intro D hD;unfold RE at h1;cases er:lO S.ok g c e Ω1.length S.ds (vD ls.length js ρ) (Ω1++[.lst []])with
 | none=>rw [er]at h1;exact False.elim h1
 | some rr =>
 obtain⟨ρe,Ωe⟩:=rr;rw [er]at h1;simp only at h1;have hw0:Wd K G1 (ι1++[D]) (Ω1++[.lst []]) (upd H1 D (.lst [])):=w1.cell hD ⟨w1.mD hD,[],cW,.nil⟩;have r0:eW K G1 (ι1++[D]) (pS ls js σ) (vD ls.length js ρ):=ac4 ls js (r.ext (x1.trans (Ext.cell D)));have Ir:(ι1++[D])[Ω1.length]? = some D:=by rw [← w1.len];simp
 refine⟨fun i m σ' H'=>m=S.ds.length - i∧i≤S.ds.length∧∃G' ι' Ω' ρ',Ext G1 (ι1++[D]) G' ι'∧Wd K G' ι' Ω' H'∧eW K G' ι' σ' ρ'∧lO S.ok g c e Ω1.length (S.ds.drop i) ρ' Ω'=some (ρe,Ωe),
  ⟨_,rfl,zV _,G1,_,_,_,Ext.refl _ _,hw0,r0,by simpa using er⟩,?_⟩
 rintro i m σ' H' ⟨rfl,Ht,G',ι',Ω',ρ',e',w',r',h'⟩;have aH:=ag8 h';have eJ:Ext G1 ι1 G' ι':=(Ext.cell D).trans e'
 by_cases cP:i<S.ds.length
 ·right
  refine⟨j1.go G' ι' Ω' H' eJ w' aH i cP,fun σ2 H2=>∃G2 ι2 Ω2 ρ2,Ext G1 (ι1++[D]) G2 ι2∧Wd K G2 ι2 Ω2 H2∧eW K G2 ι2 σ2 ρ2∧lO S.ok g c e Ω1.length (S.ds.drop (i+1)) ρ2 Ω2=some (ρe,Ωe),fun σ2 H2 n=>?_,fun x H2 y=>?_⟩
  ·exact⟨S.ds.length - (i+1),by omega,rfl,cP,n⟩
  ·obtain⟨G2,e2,w2,d2⟩:=j1.qP G' ι' Ω' H' eJ w' aH i x H2 S.ds[i] (jK cP) y;rw [Ms cP]at h';unfold lO at h';rw [if_pos aH]at h';refine hg G2 ι' Ω' H2 σ' ρ' x S.ds[i] ⟨_,fun _ _=>False,fun _ _=>False,fun _ _=>False⟩ w2 (r'.ext e2) d2 ?_
   revert h'
   generalize g S.ds[i] ρ' Ω'=q;intro h';split at h'
   ·rename_i ρ3 Ω3;intro σ3 H3 G3 ι3 x3 w3 r3;refine hc G3 ι3 Ω3 H3 σ3 ρ3 _ w3 r3 ?_
    revert h'
    generalize c ρ3 Ω3=q2;intro h';split at h'
    ·rename_i Ω4;intro b H4 G4 ι4 x4 w4 hb;cases(show b=true from hb);rw [if_pos rfl];refine he G4 ι4 Ω4 H4 σ3 ρ3 _ w4 (r3.ext x4) ?_
     revert h'
     generalize e ρ3 Ω4=q3;intro h';split at h'
     ·rename_i z Ω5;intro v H5 G5 ι5 x5 w5 d5;split at h'
      ·rename_i ys ey;split at h'
       ·rename_i hl;have eD:=(((e'.trans e2).trans x3).trans x4).trans x5;have hk:=eD.pre _ _ Ir;obtain⟨gg,xs,q1,q2⟩:=w5.aE _ _ D ey hk;refine⟨xs,q1,by rw [q2.length];exact hl,G5,ι5,_,ρ3,eD,w5.put (c := .lst (ys++[z])) hk gg ⟨gg,_,cW,q2.append (.cons d5 .nil)⟩,(r3.ext x4).ext x5,h'⟩
       ·cases h'
      ·cases h'
     ·cases h'
    ·rename_i Ω4;intro b H4 G4 ι4 x4 w4 hb;cases(show b=false from hb);rw [if_neg (by simp)];exact⟨G4,ι4,Ω4,ρ3,((e'.trans e2).trans x3).trans x4,w4,r3.ext x4,h'⟩
    ·cases h'
   ·cases h'
 ·have DE:i=S.ds.length:=by omega
  subst DE
  left
  refine⟨j1.stop G' ι' Ω' H' eJ w' aH _ bG,?_⟩;rw [List.drop_length]at h';unfold lO at h';rw [if_pos aH]at h';cases h';split at h1
  ·rename_i ys ey;have hk:=e'.pre _ _ Ir;obtain⟨gg,xs,q1,q2⟩:=w'.aE _ _ D ey hk;split at h1
   ·exact h1 _ H' G' ι' eJ w' (by simp only [Den];exact⟨D,rfl,hk⟩)
   ·have wf:=w'.freeze hk gg q1;split at h1
    ·rename_i Ie;have eC:Ext G1 ι1 (upd G' D (.lst xs)) ι':=eJ.trans (Ext.new gg _);have wc:=w1.cut wf eC (by rw [List.take_set_of_le bG];exact Ie.1);refine h1 _ H' _ ι1 ⟨eC.same,fun _ _ q=>q⟩ wc ?_;simp only [Den];exact⟨D,xs,rfl,cW,(q2.ext (Ext.new gg _)).cut eC.cut (by rw [w1.len];exact Ie.2)⟩
    ·refine h1 _ H' _ ι' (eJ.trans (Ext.new gg _)) wf ?_;simp only [Den];exact⟨D,xs,rfl,cW,q2.ext (Ext.new gg _)⟩
  ·exact False.elim h1
end
def OF{α β:Type}(K:Frag)(rel:Rl α β)(W:WX)(f:Ev→Mo α):L2.St→Hp→(β→Hp→Prop)→Prop:=fun σ H Q=>∃G ι Ω ρ,Wd K G ι Ω H∧eW K G ι σ ρ∧aY K rel W G ι σ Q (f ρ Ω)
def Cv(K:Frag)(W:WX)(g:A→MS):TG:=fun v σ H Q=>∃G ι Ω ρ a D,Wd K G ι Ω H∧eW K G ι σ ρ∧Den K G ι v a∧dA K W G ι D (g a ρ Ω)∧D.nx=Q
theorem HF{α β:Type}{K:Frag}{rel:Rl α β}{W:WX}{f:Ev→Mo α}:dX K rel W (OF K rel W f) f:=fun G ι Ω H σ ρ Q w r h=>⟨G,ι,Ω,ρ,w,r,h⟩
theorem Du{K:Frag}{W:WX}{g:A→MS}:zT K W (Cv K W g) g:=fun G ι Ω H σ ρ v a D w r d h=>⟨G,ι,Ω,ρ,a,D,w,r,d,h,rfl⟩
theorem VE.tX{X:Cx}{W:WX}{e:Expr}{f:Ev→Mo A}(h:VE X W e f):PE X e (OF X.K (Den X.K) W f):=by
 obtain⟨t,p,s⟩:=h;exact fun pins sh σ H Q I ⟨G,ι,Ω,ρ,w,r,q⟩=>p pins sh σ H Q I (s G ι Ω H σ ρ Q w r q)
theorem zS.tX{X:Cx}{W:WX}{ifs:List Expr}{f:Ev→Mo Bool}(h:zS X W ifs f):zU X ifs (OF X.K yB W f):=by
 obtain⟨t,p,s⟩:=h;exact fun pins sh σ H Q I ⟨G,ι,Ω,ρ,w,r,q⟩=>p pins sh σ H Q I (s G ι Ω H σ ρ Q w r q)
theorem VG.tX{X:Cx}{W:WX}{tg:Expr}{g:A→MS}(h:VG X W tg g):PG X tg (Cv X.K W g):=by
 obtain⟨t,p,s⟩:=h;exact fun pins sh σ H v u Q I rv ⟨G,ι,Ω,ρ,a,D,w,r,d,q,e⟩=>p pins sh σ H v u Q I rv (e ▸ s G ι Ω H σ ρ v a D w r d q)
abbrev pP:WX:=fun _ _ _ _=>False
theorem AZ{X:Cx}{W:WX}{elt tg iter:Expr}{ifs:List Expr}{scope:Scope}{pos:Pos}{fi:Ev→Mo Src}{g:A→MS}{c:Ev→Mo Bool}{e:Ev→Mo A}(cf:Bool)(ls:List Str)(js:List Nat)(hc:X.calm=true)(L:uF X scope ls js)(hi:VI X W tg iter fi)
  (hb:∀cl C s H fp,VG (dP X scope ls js cl C s H fp) pP tg g∧zS (dP X scope ls js cl C s H fp) pP ifs c∧VE (dP X scope ls js cl C s H fp) pP elt e)
  (hs:∀x,foldedSetIterable iter X.env x=pure x:=by intro _;rfl):VE X W (.ListComp elt [⟨tg,iter,ifs,0⟩] scope pos) (kN cf ls.length js fi g c e):=by
 obtain⟨t1,p1,s1⟩:=hi;exact⟨_,aaG hc L p1 (fun cl C s H fp=>⟨(hb cl C s H fp).1.tX,(hb cl C s H fp).2.1.tX,(hb cl C s H fp).2.2.tX⟩) hs,Dq _ s1 Du HF HF⟩
def sortI(ns:List Int):List Int:=ns.mergeSort fun a b=>decide (a≤b)
theorem sortI_perm(ns:List Int):(sortI ns).Perm ns:=List.mergeSort_perm ns _
theorem OO(ns:List Int):(sortI ns).Pairwise (· ≤ ·):=by
 have h:=List.pairwise_mergeSort (le:=fun a b:Int=>decide (a≤b)) (fun a b c h1 h2=>by simp at h1 h2 ⊢;omega) (fun a b=>by simp;omega) ns;exact h.imp fun h=>of_decide_eq_true h
theorem BK{ns ms:List Int}(p:ms.Perm ns)(h:ms.Pairwise (· ≤ ·)):ms=sortI ns :=
 List.Perm.eq_of_pairwise (le:=(· ≤ ·)) (fun a b _ _ h1 h2=>Int.le_antisymm h1 h2) h (OO ns) (p.trans (sortI_perm ns).symm)
theorem xW(ns:List Int):(sortI ns).length=ns.length:=(sortI_perm ns).length_eq
section
variable{X:Cx}{W:WX}
theorem NI:∀{us:List Value} {ns:List Int},IntsAre us ns→Vals (ns.map V.int) us
 | _,_,.nil => .nil
 | _,_,.cons n t h => .cons ⟨t,rfl⟩ (NI h)
theorem ajK:iN X (.builtin "sorted") (fun xs H Q=>∃(a:Addr) (ns:List Int),xs=[.ref a]∧eE X.K H a (ns.map V.int)∧ns.length<64∧∀l,H l=none→Q (.ref l) (upd H l (.lst ((sortI ns).map V.int)))):=by
 intro pins s σ H xs us Q I r h;obtain⟨a,ns,rfl,hq,mC,q⟩:=h;obtain⟨u,rfl,ru⟩:=vals1 r;cases ru;obtain⟨aN,rv,pl,hz⟩:=I.list hq;have hI:IntsAre aN ns:=intsAre_of rv;have hl:aN.length=ns.length:=by rw [← rv.length,dN]
 refine sorted_ints pl.isList hI (by omega) fun out yJ a1 a2 a3=>?_;obtain⟨e,he⟩:=sortedAll_at s.heap aN out;have hn:=BK a2 a3;subst hn;refine⟨.ref (s.heap.objs.size+1),_,I.laid (t':=s.toks) (o := .lst ((sortI ns).map V.int)) (fun b o q=>sortedAll_old q) (nY _) ?_,rfl,q _ (I.aH.fresh (nY _))⟩;exact⟨by rw [dN,xW,kP];omega,out.toList,e,NI a1,he⟩
@[simp] def DW(c:Bool)(as:List A):Mo A:=fun Ω=>match as with
 | [a]=>(match (cX Ω a).bind intsOf with
  | some ns=>if ns.length<64 then jS c ((sortI ns).map A.int) Ω else none
  | none=>none)
 | _=>none
theorem ajW(c:Bool):pC X W (.builtin "sorted") (DW c):=by
 refine⟨_,ajK,?_⟩;intro G ι Ω H σ xs as Q w d h;unfold DW at h;split at h
 ·rename_i a;split at h
  ·rename_i ns e;split at h
   ·rename_i mC;obtain⟨x,rfl,d1⟩:=rW d;rw [qI]at e;obtain⟨ds,e1,e2⟩:=e;obtain⟨p,ys,rfl,h2,h3⟩:=oQ w d1 e1;rw [vI e2 h3]at h2;exact⟨p,ns,rfl,h2,mC,fun l hl=>oO w hl (EG _) h⟩
   ·exact False.elim h
  ·exact False.elim h
 ·exact False.elim h
end
end V2
namespace M
open PySem V2
@[simp] abbrev aO:=V2.dB 0
@[simp] abbrev bE:=V2.dB 1
@[simp] abbrev cS:=V2.dB 2
@[simp] abbrev cR:=V2.dB 3
@[simp] abbrev gH:=V2.dB 4
@[simp] abbrev eM:=V2.dB 5
@[simp] abbrev fY:=V2.dB 6
@[simp] abbrev AV:=V2.dB 7
@[simp] abbrev pF:=V2.dB 8
@[simp] abbrev uL:=V2.dB 9
@[simp] abbrev alK:=V2.dB 10
@[simp] abbrev alJ:=V2.dB 11
@[simp] abbrev alI:=V2.dB 12
@[simp] abbrev alH:=V2.dB 13
@[simp] abbrev alG:=V2.dB 14
@[simp] abbrev alF:=V2.dB 15
@[simp] abbrev alE:=V2.dB 16
@[simp] abbrev alD:=V2.dB 17
@[simp] abbrev alC:=V2.dB 18
@[simp] abbrev alB:=V2.dB 19
@[simp] abbrev cO:=V2.cI 0
@[simp] abbrev bL:=V2.cI 1
@[simp] abbrev uM:=V2.cI 2
@[simp] abbrev GG:=V2.cI 3
@[simp] abbrev MZ:=V2.cI 4
@[simp] abbrev wC5:=V2.cI 5
@[simp] abbrev sR:=V2.cI 6
@[simp] abbrev GF:=V2.cI 7
@[simp] abbrev wC8:=V2.cI 8
@[simp] abbrev GD:=V2.cI 9
@[simp] abbrev Nq:=V2.cI 10
@[simp] abbrev alN:=V2.cI 11
@[simp] abbrev bS:=V2.WO false
@[simp] abbrev aJ{α:Type}(a:α)(Ω:V2.aI):Option (V2.Rs α×V2.aI):=some (.ok a,Ω)
@[simp] abbrev iZ(ρ:V2.Ev)(Ω:V2.aI):Option (V2.Out×V2.Ev×V2.aI):=some (.nx,ρ,Ω)
@[simp] abbrev aA(i:Int):Option V2.A:=some (.int i)
@[simp] abbrev aB(i:Nat):Option V2.A:=some (.aE i)
@[simp] abbrev gP(i:List V2.A):Option V2.A:=some (.lst i)
noncomputable section
def Lh:MS :=
 (bD (dE (aC (eG) (aC (nW) (aC bS aO bL) (aC bS (cI 48271) (aC (nW) (cI 118) bE))) (cI 2147483629)) (gN 2))
  (cJ (aC (eG) (aC bS (aC bS (aC (nW) (aC (jV) cS (cI 977)) (cI 16807)) (aC (nW) cS (aC bS (aC (nW) bE bE) GF))) bE) (cI 2147483587))))
def xF:List A→Mo A:=dQ 3 Lh
def YH:MS :=
 (bD (dE cO (gN 2))
  (bD (dD (bB (aC zB bE (aU kF (aG aO a0))))
   (dE (aC (eG) (aC eI aO bE) (cI 2147483647)) (gN 2))
   eN)
  (cJ (aU (dJ 2 xF) (aG cS (aG (aC bS bE (cI 101)) a0))))))
def xG:List A→Mo A:=dQ 3 YH
end
end M
namespace V2
open PySem PySem.Spec PyProof.Rows L2
def gO(kvs:List (Key×A))(k:Key):Option A:=(kvs.find? fun kv=>decide (kv.1=k)).map (·.2)
def mT(kvs:List (Key×A))(k:Key)(a:A):List (Key×A) :=
 if kvs.any fun kv=>decide (kv.1=k)then kvs.map (fun kv=>if kv.1=k then(kv.1,a)else kv)else kvs++[(k,a)]
def kR:A→Option Key
 | .int i=>some (.inl i)
 | .str x=>some (.inr x)
 | _=>none
section
variable{K:Frag}{G:Hp}{ι:List Addr}
theorem CP{v:V}{a:A}{k:Key}(d:Den K G ι v a)(h:kR a=some k):v=kV k:=by
 cases a with
 | int i=>simp only [kR,gW]at h;subst h;simp only [Den]at d;exact d
 | str i=>simp only [kR,gW]at h;subst h;simp only [Den]at d;exact d
 | _=>simp [kR]at h
theorem GN{k:Key}:∀{ws:List (Key×V)} {kvs:List (Key×A)},ws.map (·.1)=kvs.map (·.1)→aK K G ι (ws.map (·.2)) (kvs.map (·.2))→(∀a,gO kvs k=some a→∃v,iC ws k=some v∧Den K G ι v a)∧(gO kvs k=none→iC ws k=none)
 | [],[],_,_=>⟨fun a h=>(by cases h),fun _=>rfl⟩
 | [],_::_,h,_=>by simp at h
 | _::_,[],h,_=>by simp at h
 | p::ws,q::kvs,h,d=>by
  simp only [cF,FC]at h;obtain⟨x,r,e,d1,d2⟩:=d.gX;simp only [cF,FC]at e;obtain⟨e1,e2⟩:=e;obtain⟨i1,i2⟩:=GN (k:=k) h.2 (e2 ▸ d2)
  by_cases hk:q.1=k
  ·have hp:p.1=k:=h.1.trans hk;refine⟨fun a ha=>?_,fun hn=>?_⟩
   ·simp only [gO,AE,hk,decide_true,EV,gW]at ha;exact⟨p.2,by simp [iC,hp],by rw [← ha,e1];exact d1⟩
   ·simp [gO,hk]at hn
  ·have hp:¬p.1=k:=fun z=>hk (h.1.symm.trans z);have ev:iC (p::ws) k=iC ws k:=by simp [iC,hp]
   have ea:gO (q::kvs) k=gO kvs k:=by simp [gO,hk]
   rw [ev,ea];exact⟨i1,i2⟩
theorem Lk{k:Key}{ws:List (Key×V)}{kvs:List (Key×A)}(h:ws.map (·.1)=kvs.map (·.1)):(ws.any fun kv=>decide (kv.1=k))=(kvs.any fun kv=>decide (kv.1=k)):=by
 have e1:(ws.any fun kv=>decide (kv.1=k))=(ws.map (·.1)).any fun x=>decide (x=k):=by rw [List.any_map];rfl
 have e2:(kvs.any fun kv=>decide (kv.1=k))=(kvs.map (·.1)).any fun x=>decide (x=k):=by rw [List.any_map];rfl
 rw [e1,e2,h]
theorem Yn{k:Key}{v:V}{a:A}{ws:List (Key×V)}{kvs:List (Key×A)}(h:ws.map (·.1)=kvs.map (·.1)):(putK ws k v).map (·.1)=(mT kvs k a).map (·.1):=by
 unfold putK mT;rw [Lk h];split
 ·rw [sE,sE];have e1:ws.map ((·.1) ∘ fun kv:Key×V=>if kv.1=k then(kv.1,v)else kv)=ws.map (·.1):=MA fun x _=>by simp only [Function.comp];split <;> rfl
  have e2:kvs.map ((·.1) ∘ fun kv:Key×A=>if kv.1=k then(kv.1,a)else kv)=kvs.map (·.1):=MA fun x _=>by simp only [Function.comp];split <;> rfl
  rw [e1,e2,h]
 ·rw [EZ,EZ,h];rfl
theorem Es{k:Key}{v:V}{a:A}(dv:Den K G ι v a):∀{ws:List (Key×V)} {kvs:List (Key×A)},ws.map (·.1)=kvs.map (·.1)→aK K G ι (ws.map (·.2)) (kvs.map (·.2))→aK K G ι ((ws.map fun kv=>if kv.1=k then(kv.1,v)else kv).map (·.2)) ((kvs.map fun kv=>if kv.1=k then(kv.1,a)else kv).map (·.2))
 | [],[],_,_ => .nil
 | [],_::_,h,_=>by simp at h
 | _::_,[],h,_=>by simp at h
 | p::ws,q::kvs,h,d=>by
  simp only [cF,FC]at h;obtain⟨x,r,e,d1,d2⟩:=d.gX;simp only [cF,FC]at e;obtain⟨e1,e2⟩:=e;have ih:=Es (k:=k) dv h.2 (e2 ▸ d2);simp only [cF];refine .cons ?_ ih;rw [h.1];split
  ·exact dv
  ·rw [e1];exact d1
theorem Yo{k:Key}{v:V}{a:A}{ws:List (Key×V)}{kvs:List (Key×A)}(h:ws.map (·.1)=kvs.map (·.1))(d:aK K G ι (ws.map (·.2)) (kvs.map (·.2)))(dv:Den K G ι v a):aK K G ι ((putK ws k v).map (·.2)) ((mT kvs k a).map (·.2)):=by
 unfold putK mT;rw [Lk h];split
 ·exact Es dv h d
 ·rw [EZ,EZ];exact d.append (.cons dv .nil)
def gM(Ω:aI):A→Option (Nat×List (Key×A))
 | .aE k=>match Ω[k]? with
  | some (.aX kvs)=>some (k,kvs)
  | _=>none
 | _=>none
theorem rY{H:Hp}{Ω:aI}{v:V}{a:A}{k:Nat}{kvs:List (Key×A)}(w:Wd K G ι Ω H)(d:Den K G ι v a)(h:gM Ω a=some (k,kvs)):∃p ws,v = .ref p∧ι[k]? = some p∧G p=none∧H p=some (.dK ws)∧ws.map (·.1)=kvs.map (·.1)∧aK K G ι (ws.map (·.2)) (kvs.map (·.2)):=by
 cases a with
 | aE j =>
  simp only [gM]at h;split at h
  ·rename_i es e;cases h;simp only [Den]at d;obtain⟨p,rfl,hk⟩:=d;obtain⟨g,ws,h3,h4,h5⟩:=w.aE k _ p e hk;exact⟨p,ws,rfl,hk,g,h3,h4,h5⟩
  ·cases h
 | _=>simp [gM]at h
theorem qC{Ω:aI}{k:Nat}{kvs:List (Key×A)}(h:Ω[k]? = some (.aX kvs)):gM Ω (.aE k)=some (k,kvs):=by simp [gM,h]
end
section
variable{X:Cx}{W:WX}{o i e:Expr}{pos:Pos}{fo fi fe:Ev→Mo A}
@[simp] def BC:Ev→Mo A:=fun _ Ω=>some (.ok (.aE Ω.length),Ω++[.aX []])
theorem Bp:VE X W (.Dict [] [] pos) BC:=by
 refine⟨_,aaK,fun G ι Ω H σ ρ Q w r h=>?_⟩;intro p hp;refine h _ _ G (ι++[p]) (Ext.cell p) (w.cell hp ⟨w.mD hp,[],cW,rfl,.nil⟩) ?_;simp only [Den];exact⟨p,rfl,by rw [← w.len];simp⟩
@[simp] def tT(o i:A):Mo A:=fun Ω=>match gM Ω o,kR i with
 | some (_,kvs),some k=>match gO kvs k with
  | some a=>some (.ok a,Ω)
  | none=>none
 | _,_=>none
theorem Ol(hu:X.A.units+1<cLine)(ho:VE X W o fo)(hi:VE X W i fi)(hs:ZI i):VE X W (.Subscript o i pos) (aC tT fo fi):=by
 obtain⟨t,p1,s1⟩:=ho;obtain⟨u,p2,s2⟩:=hi;refine⟨_,aaM hu p1 p2 hs,fun G ι Ω H σ ρ Q w r h=>?_⟩;refine s1 G ι Ω H σ ρ _ w r (aY.mb h fun x Ω1 v H1 G1 ι1 x1 w1 d1 h1=>?_);refine s2 G1 ι1 Ω1 H1 σ ρ _ w1 (r.ext x1) (aY.mb h1 fun y Ω2 u H2 G2 ι2 x2 w2 d2 h2=>?_);unfold tT at h2;split at h2
 ·rename_i k0 kvs k e1 e2;split at h2
  ·rename_i a ea;obtain⟨p,ws,rfl,hk,g,q1,q2,q3⟩:=rY w2 (d1.ext x2) e1;obtain⟨v',v1,v2⟩:=(GN q2 q3).1 a ea;rw [CP d2 e2];exact⟨p,v',rfl,by rw [← v1];exact lF.k q1,h2 v' H2 G2 ι2 (Ext.refl _ _) w2 v2⟩
  ·exact False.elim h2
 ·exact False.elim h2
@[simp] def JU(o i z:A):Mo A:=fun Ω=>match gM Ω o,kR i with
 | some (_,kvs),some k=>some (.ok ((gO kvs k).getD z),Ω)
 | _,_=>none
def isD(Ω:aI)(a:A):Prop:=∃k kvs,gM Ω a=some (k,kvs)
open Classical in
@[simp] noncomputable def iO(fo fi fe:Ev→Mo A):Ev→Mo A:=fun ρ=>mb (fo ρ) fun o Ω=>if isD Ω o then mb (fi ρ) (fun i=>mb (fe ρ) fun z=>JU o i z) Ω else none
theorem xP{apos:Pos}(hu:X.A.units+1<cLine)(ho:VE X W o fo)(hi:VE X W i fi)(he:VE X W e fe)(m:M2 X o "get" apos i e pos):VE X W (.Call (.Attribute o "get" apos) [i,e] [] pos) (iO fo fi fe):=by
 obtain⟨t,p1,s1⟩:=ho;obtain⟨u,p2,s2⟩:=hi;obtain⟨u',p3,s3⟩:=he;refine⟨_,aaL hu p1 p2 p3 m,fun G ι Ω H σ ρ Q w r h=>?_⟩;refine s1 G ι Ω H σ ρ _ w r (aY.mb h fun x Ω1 v H1 G1 ι1 x1 w1 d1 h1=>?_);split at h1
 ·rename_i hd;obtain⟨k0,amL,e0⟩:=hd;obtain⟨p,ws,rfl,hk,g,q1,q2,q3⟩:=rY w1 d1 e0;refine⟨p,rfl,.inl ⟨ws,.inl q1⟩,?_⟩;refine s2 G1 ι1 Ω1 H1 σ ρ _ w1 (r.ext x1) (aY.mb h1 fun y Ω2 u H2 G2 ι2 x2 w2 d2 h2=>?_);refine s3 G2 ι2 Ω2 H2 σ ρ _ w2 ((r.ext x1).ext x2) (aY.mb h2 fun z Ω3 u3 H3 G3 ι3 x3 w3 d3 h3=>?_);unfold JU at h3;split at h3
  ·rename_i k1 kvs k e1 e2;obtain⟨p',eL,oU,nU,g',r1,r2,r3⟩:=rY w3 (d1.ext (x2.trans x3)) e1;cases oU;rw [CP (d2.ext x3) e2];refine⟨iC eL k,lF.k r1,?_⟩;obtain⟨i1,i2⟩:=GN (k:=k) r2 r3;cases ev:gO kvs k with
   | none =>
    rw [ev]at h3;rw [i2 ev];exact h3 _ H3 G3 ι3 (Ext.refl _ _) w3 d3
   | some a =>
    rw [ev]at h3;obtain⟨v',v1,v2⟩:=i1 a ev;rw [v1];exact h3 _ H3 G3 ι3 (Ext.refl _ _) w3 v2
  ·exact False.elim h3
 ·exact False.elim h1
@[simp] def HG(o i v:A)(Ω:aI):Option aI:=match gM Ω o,kR i with
 | some (k,kvs),some key=>if kvs.length<sizeLine then some (Ω.set k (.aX (mT kvs key v)))else none
 | _,_=>none
@[simp] def xY(fe fo fi:Ev→Mo A):MS:=fun ρ=>sM (fe ρ) ρ fun a=>sM (fo ρ) ρ fun o=>sM (fi ρ) ρ fun i Ω=>match HG o i a Ω with
 | some Ω'=>some (.nx,ρ,Ω')
 | none=>none
theorem Bn{pos':Pos}(hu:X.A.units+1<cLine)(ho:VE X W o fo)(hi:VE X W i fi)(he:VE X W e fe)(hs:swapsWith e (some (.Subscript o i pos')) pos.line X.env=pure false:=by rfl):VS X W (.Assign [.Subscript o i pos'] e pos) (xY fe fo fi):=by
 obtain⟨t,p1,s1⟩:=ho;obtain⟨u,p2,s2⟩:=hi;obtain⟨u',p3,s3⟩:=he;refine⟨_,Zf hu p1 p2 p3 hs,fun G ι Ω H σ ρ D w r h=>?_⟩;refine s3 G ι Ω H σ ρ _ w r (dA.sM h r fun z Ω1 v H1 G1 ι1 x1 w1 d1 h1=>?_);refine s1 G1 ι1 Ω1 H1 σ ρ _ w1 (r.ext x1) (dA.sM h1 (r.ext x1) fun x Ω2 vo H2 G2 ι2 x2 w2 d2 h2=>?_);refine s2 G2 ι2 Ω2 H2 σ ρ _ w2 ((r.ext x1).ext x2) (dA.sM h2 ((r.ext x1).ext x2) fun y Ω3 vi H3 G3 ι3 x3 w3 d3 h3=>?_);unfold HG at h3;split at h3
 ·rename_i Ω' e';split at e'
  ·rename_i k kvs key e1 e2;split at e'
   ·rename_i hl;cases e';obtain⟨p,ws,rfl,hk,g,q1,q2,q3⟩:=rY w3 (d2.ext x3) e1;rw [CP d3 e2];have mY:ws.length=kvs.length:=by have:=congrArg List.length q2;simpa using this
    refine⟨p,_,rfl,xM.k q1 (by rw [mY];exact hl),?_⟩;exact pN (w3.put (c := .aX (mT kvs key z)) hk g ⟨g,_,cW,Yn q2,Yo q2 q3 (d1.ext (x2.trans x3))⟩) (((r.ext x1).ext x2).ext x3) h3
   ·cases e'
  ·cases e'
 ·exact False.elim h3
@[simp] def zE(neg:Bool)(i o:A):Mo A:=fun Ω=>match gM Ω o,kR i with
 | some (_,kvs),some k=>some (.ok (.bl (if neg then !(gO kvs k).isSome else(gO kvs k).isSome)),Ω)
 | _,_=>none
theorem Wb{K:Frag}{neg:Bool}{ty td:TE}(h1:dX K (Den K) W ty fi)(h2:dX K (Den K) W td fo):dX K (Den K) W (if neg then Ct ty td else Qo ty td) (aC (zE neg) fi fo):=by
 have key:∀G ι Ω H σ ρ (Q:VK),Wd K G ι Ω H→eW K G ι σ ρ→aY K (Den K) W G ι σ Q (aC (zE neg) fi fo ρ Ω)→ty σ H fun y H1=>td σ H1 fun x H2=>∃a o,x = .ref a∧lF H2 a y o∧Q (.bl (if neg then !o.isSome else o.isSome)) H2:=by
  intro G ι Ω H σ ρ Q w r h;refine h1 G ι Ω H σ ρ _ w r (aY.mb h fun y Ω1 v H1 G1 ι1 x1 w1 d1 rR=>?_);refine h2 G1 ι1 Ω1 H1 σ ρ _ w1 (r.ext x1) (aY.mb rR fun x Ω2 u H2 G2 ι2 x2 w2 d2 kW=>?_);unfold zE at kW;split at kW
  ·rename_i k0 kvs k e1 e2;obtain⟨p,ws,rfl,hk,g,q1,q2,q3⟩:=rY w2 d2 e1;rw [CP (d1.ext x2) e2];refine⟨p,iC ws k,rfl,lF.k q1,?_⟩;have eq:(iC ws k).isSome=(gO kvs k).isSome:=by
    obtain⟨i1,i2⟩:=GN (k:=k) q2 q3;cases ev:gO kvs k with
    | none=>simp [i2 ev]
    | some a=>obtain⟨v',v1,_⟩:=i1 a ev;simp [v1]
   rw [eq];exact kW _ H2 G2 ι2 (Ext.refl _ _) w2 (by simp only [Den])
  ·exact False.elim kW
 cases neg with
 | true=>exact key
 | false=>exact key
theorem Nr(hu:X.A.units+1<cLine)(hi:VE X W i fi)(ho:VE X W o fo)(h1:behindInMarks .NotIn o=false:=by rfl):VT X W (.Compare i [.NotIn] [o] pos) (bB (aC (zE true) fi fo)):=by
 obtain⟨t,p1,s1⟩:=hi;obtain⟨u,p2,s2⟩:=ho;exact⟨_,Yt (aaV hu p1 p2) h1,OQ (Wb (neg:=true) s1 s2)⟩
end
structure Lr(K:Frag)(rs ns:List Str):Prop where
 xc:∀n∈ns,∀D,nsIn K mainGlobals n=some (some (.ref D))→XC K D
 sub:∀n∈rs,∀m∈ns,∀D C,nsIn K mainGlobals n=some (some (.ref D))→nsIn K mainGlobals m=some (some (.ref C))→subIn K (.ref D) (.ref C)=some (n == m||m == ("RankError" : Str))
 ve:∀n∈rs,∀D,nsIn K mainGlobals n=some (some (.ref D))→subIn K (.ref D) (.type "ValueError")=some true
 rn:∀n∈rs,n∈ns
def Bb(rs ns:List Str)(n m:Str):Option Bool:=if n∈rs∧m∈ns then some (n == m||m == ("RankError" : Str))else none
theorem Lr.own{K:Frag}{rs ns:List Str}(T:Lr K rs ns)(n m:Str)(b:Bool)(D C:Addr)(h:Bb rs ns n m=some b)(hn:nsIn K mainGlobals n=some (some (.ref D)))(hm:nsIn K mainGlobals m=some (some (.ref C))):kitOne K (.ref D) (.ref C)=some b:=by
 unfold Bb at h;split at h
 ·rename_i q;cases h;exact adA (T.xc _ (T.rn _ q.1) _ hn) (T.xc _ q.2 _ hm) (T.sub _ q.1 _ q.2 _ _ hn hm)
 ·cases h
end V2
namespace L2
open PySem PySem.Spec PyProof.Rows
theorem bN.pI{k:Nat}{A:Around}(r:bN k A):A.units+1<cLine:=by have:=r.units;omega
theorem mH.mU{X:Cx}(t:mH X):mH X.mU:=⟨t.1,t.2,t.3⟩
end L2
namespace V2
open PySem PySem.Spec PyProof.Rows L2
section
variable{X:Cx}{W:WX}
theorem Vv{ns ms:List Int}(p:ms.Perm ns)(h:ms.Pairwise (· ≥ ·)):ms=(sortI ns).reverse:=by
 have:=BK (ns:=ns) (ms:=ms.reverse) ((List.reverse_perm ms).trans p) (by rw [List.pairwise_reverse];exact h);rw [← this,List.reverse_reverse]
theorem Zs{e:Expr}{te:TE}{np kp vp pos:Pos}{j:Nat}(hm:X.mg "sorted" = none)(hg:Gl X "sorted")(he:PE X e te)(hs:starEach [e] X.env=[(false,eval e X.env)]:=by rfl) :
  PE X (.Call (.Name "sorted" np) [e] [⟨some "reverse", .Constant (.bool true) j vp,kp⟩] pos) (fun σ H Q=>te σ H fun x H1=>∃a ns,x = .ref a∧eE X.K H1 a (ns.map V.int)∧ns.length<64∧∀l,H1 l=none→Q (.ref l) (upd H1 l (.lst ((sortI ns).reverse.map V.int)))):=by
 intro pins s σ H Q I h;refine sQ (rF I hg hm EO ?_);refine callWith_kw (aW (tE he tD hs pos pins s σ H (fun vs H1=>match vs with
  | [x]=>∃a ns,x=V.ref a∧eE X.K H1 a (ns.map V.int)∧ns.length<64∧∀l,H1 l=none→Q (.ref l) (upd H1 l (.lst ((sortI ns).reverse.map V.int)))
  | _=>False) I h) fun us s1 ⟨vs,H1,I1,r1,q1⟩=>?_) (by rw [hs];rfl) (by rw [hs];rfl)
 match vs,q1 with
 | [x],q1 =>
 obtain⟨a,ns,e1,hq,mC,q⟩:=q1;obtain⟨u,rfl,ru⟩:=vals1 r1;subst e1;cases ru;obtain⟨aN,rv,pl,hz⟩:=I1.list hq;have hI:IntsAre aN ns:=intsAre_of rv;have hl:aN.length=ns.length:=by rw [← rv.length,dN]
 refine kws_cons ?_;refine aS ?_;refine kws_nil ?_;show wpAny _ _ (call (.builtin "sorted") [.ref a] [(Str.ofString "reverse",.bool true)]) _ _ s1;refine sorted_ints_rev pl.isList hI (by omega) fun out yJ a1 a2 a3=>?_;obtain⟨e,he⟩:=sortedAll_at s1.heap aN out;have hn:=Vv a2 (by simpa [Ordered]using a3);subst hn;refine⟨.ref (s1.heap.objs.size+1),_,I1.laid (t':=s1.toks) (o := .lst ((sortI ns).reverse.map V.int)) (fun b o q=>sortedAll_old q) (nY _) ?_,rfl,q _ (I1.aH.fresh (nY _))⟩;exact⟨by rw [dN,List.length_reverse,xW,kP];omega,out.toList,e,NI a1,he⟩
@[simp] def Bx(c:Bool)(f:Ev→Mo A):Ev→Mo A:=fun ρ=>mb (f ρ) fun a Ω=>match (cX Ω a).bind intsOf with
 | some ns=>if ns.length<64 then jS c ((sortI ns).reverse.map A.int) Ω else none
 | none=>none
theorem Ny{e:Expr}{f:Ev→Mo A}{np kp vp pos:Pos}{j:Nat}(c:Bool)(hm:X.mg "sorted" = none)(hg:Gl X "sorted")(he:VE X W e f)(hs:starEach [e] X.env=[(false,eval e X.env)]:=by rfl) :
  VE X W (.Call (.Name "sorted" np) [e] [⟨some "reverse", .Constant (.bool true) j vp,kp⟩] pos) (Bx c f):=by
 obtain⟨t,p,s⟩:=he;refine⟨_,Zs hm hg p hs,fun G ι Ω H σ ρ Q w r h=>?_⟩;refine s G ι Ω H σ ρ _ w r (aY.mb h fun a Ω1 v H1 G1 ι1 x1 w1 d1 h1=>?_);split at h1
 ·rename_i ns e;split at h1
  ·rename_i mC;rw [qI]at e;obtain⟨ds,e1,e2⟩:=e;obtain⟨q,ys,rfl,h3,h4⟩:=oQ w1 d1 e1;rw [vI e2 h4]at h3;exact⟨q,ns,rfl,h3,mC,fun l hl=>oO w1 hl (EG _) h1⟩
  ·exact False.elim h1
 ·exact False.elim h1
end
end V2
namespace KS
open PySem PySem.W PyProof.Rows
def go{α:Type}(lt:Nat→Nat→Bool):KasT α→α
 | .ret a=>a
 | .ask i j k=>go lt (k (lt i j))
theorem pZ{α β:Type}(lt:Nat→Nat→Bool)(f:α→KasT β):∀t:KasT α,go lt (t.bind f)=go lt (f (go lt t))
 | .ret _=>rfl
 | .ask i j k=>by
  show go lt ((k (lt i j)).bind f)=_;rw [pZ lt f (k (lt i j))];rfl
section
variable(r:Nat→Int)
abbrev oP:Nat→Nat→Bool:=fun i j=>decide (r i<r j)
def Ky(p:Array Nat)(i:Nat):Int:=r (p.getD i 0)
def Up(p:Array Nat)(k:Nat):Prop:=∀i j,i≤j→j<k→Ky r p i≤Ky r p j
def Dn(p:Array Nat)(k:Nat):Prop:=∀i j,i≤j→j<k→Ky r p j≤Ky r p i
variable{r}
theorem getD_eq{p q:Array Nat}{i j:Nat}(h:p[i]? = q[j]?):p.getD i 0=q.getD j 0:=by
 simp [Az,h]
theorem CJ{p q:Array Nat}{i j:Nat}(h:Ky r p i<Ky r q j):oP r (p.getD i 0) (q.getD j 0)=true:=wN h
theorem CK{p q:Array Nat}{i j:Nat}(h:¬Ky r p i<Ky r q j):oP r (p.getD i 0) (q.getD j 0)=false:=lP h
theorem RH{p:Array Nat}{i j:Nat}(hj:j≤p.size)(k:Nat):Ky r (kas_rev p i j) k=if i≤k∧k<j then Ky r p (i+j - 1 - k)else Ky r p k:=by
 have h:=getElem?_mirror_all (i:=i) hj k;unfold Ky kas_rev;split
 ·rename_i c;rw [if_pos c]at h;rw [getD_eq h]
 ·rename_i c;rw [if_neg c]at h;rw [getD_eq h]
theorem RG{p:Array Nat}{i j:Nat}(hj:j≤p.size)(e:∀k,i≤k→k<j→Ky r p k=Ky r p (j - 1))(k:Nat):Ky r (kas_rev p i j) k=Ky r p k:=by
 rw [RH hj];split
 ·rename_i c;rw [e _ (by omega) (by omega),e k c.1 c.2]
 ·rfl
theorem uU(p:Array Nat)(i j:Nat):(kas_rev p i j).size=p.size:=mirror_size _ _ _ _
theorem HM(p:Array Nat)(i j:Nat):(kas_rev p i j).Perm p:=mirror_perm _ _ _ _
theorem Ow{p:Array Nat}{n:Nat}(h1:1≤n)(h:Up r p n)(hn:Ky r p (n - 1)≤Ky r p n):Up r p (n+1):=by
 intro i j nA hj
 by_cases e:j=n
 ·subst e
  by_cases e2:i=j
  ·subst e2;exact xC _
  ·exact Int.le_trans (h i (j - 1) (by omega) (by omega)) hn
 ·exact h i j nA (by omega)
theorem KH{p:Array Nat}{n:Nat}(h1:1≤n)(h:Dn r p n)(hn:Ky r p n≤Ky r p (n - 1)):Dn r p (n+1):=by
 intro i j nA hj
 by_cases e:j=n
 ·subst e
  by_cases e2:i=j
  ·subst e2;exact xC _
  ·exact Int.le_trans hn (h i (j - 1) (by omega) (by omega))
 ·exact h i j nA (by omega)
theorem asc{p:Array Nat}:∀(f n:Nat),1≤n→Up r p n→∃m,go (oP r) (kas_asc p f n)=m∧n≤m∧m≤n+f∧Up r p m∧(m<n+f→Ky r p m<Ky r p (m - 1))
 | 0,n,_,h=>⟨n,rfl,mJ _,mJ _,h,fun z=>by omega⟩
 | f+1,n,h1,h=>by
  by_cases c:Ky r p n<Ky r p (n - 1)
  ·refine⟨n,?_,mJ _,by omega,h,fun _=>c⟩;have c':=CJ c;simp only [kas_asc,go,c',kT]
  ·obtain⟨m,e,a,b,u,l⟩:=asc f (n+1) (by omega) (Ow h1 h (by omega));refine⟨m,?_,by omega,by omega,u,fun z=>l (by omega)⟩;rw [← e];have c':=CK c;simp only [kas_asc,go,c',sN,jB]
theorem desc:∀(f:Nat) (p:Array Nat) (n q:Nat),q+1≤n→n+f≤p.size→Dn r p n→(∀k,n - (q+1)≤k→k<n→Ky r p k=Ky r p (n - 1)) →
  ∃p' m q',go (oP r) (kas_desc f p n q)=(p',m,q')∧n≤m∧m≤n+f∧q'+1≤m∧p'.size=p.size∧p'.Perm p∧(∀k,Ky r p' k=Ky r p k)∧Dn r p' m∧(∀k,m - (q'+1)≤k→k<m→Ky r p' k=Ky r p' (m - 1))
 | 0,p,n,q,hq,_,hd,he=>⟨p,n,q,rfl,mJ _,mJ _,hq,rfl,.refl _,fun _=>rfl,hd,he⟩
 | f+1,p,n,q,hq,hz,hd,he=>by
  by_cases c:Ky r p n<Ky r p (n - 1)
  ·have c':=CJ c;have Ib:Dn r p (n+1):=KH (by omega) hd (by omega)
   by_cases q0:q>0
   ·have ek:∀k,Ky r (kas_rev p (n - (q+1)) n) k=Ky r p k:=RG (by omega) he;have hd2:Dn r (kas_rev p (n - (q+1)) n) (n+1):=fun i j a b=>by rw [ek,ek];exact Ib i j a b
    obtain⟨p',m,q',e,a1,a2,a3,a4,a5,a6,a7,a8⟩:=desc f (kas_rev p (n - (q+1)) n) (n+1) 0 (by omega) (by rw [uU];omega) hd2 (fun k k1 k2=>by
     have:k=n+1 - 1:=by omega
     rw [this])
    refine⟨p',m,q',?_,by omega,by omega,a3,by rw [a4,uU],a5.trans (HM _ _ _),fun k=>by rw [a6,ek],a7,a8⟩;rw [← e];simp only [kas_desc,go,c',kT,q0]
   ·obtain⟨p',m,q',e,a1,a2,a3,a4,a5,a6,a7,a8⟩:=desc f p (n+1) 0 (by omega) (by omega) Ib (fun k k1 k2=>by
     have:k=n+1 - 1:=by omega
     rw [this])
    refine⟨p',m,q',?_,by omega,by omega,a3,a4,a5,a6,a7,a8⟩;rw [← e];simp only [kas_desc,go,c',kT,q0,jB]
  ·have c':=CK c
   by_cases d:Ky r p (n - 1)<Ky r p n
   ·have d':=CJ d;refine⟨p,n,q,?_,mJ _,by omega,hq,rfl,.refl _,fun _=>rfl,hd,he⟩;simp only [kas_desc,go,c',d',sN,kT,jB]
   ·have d':=CK d;have eq:Ky r p n=Ky r p (n - 1):=by omega
    obtain⟨p',m,q',e,a1,a2,a3,a4,a5,a6,a7,a8⟩:=desc f p (n+1) (q+1) (by omega) (by omega) (KH (by omega) hd (by omega)) (fun k k1 k2=>by
     rw [show n+1 - 1=n by omega]
     by_cases z:k=n
     ·rw [z]
     ·rw [he k (by omega) (by omega),eq])
    refine⟨p',m,q',?_,by omega,by omega,a3,a4,a5,a6,a7,a8⟩;rw [← e];simp only [kas_desc,go,c',d',sN,jB]
theorem Ox{p:Array Nat}{n:Nat}(hn:n≤p.size)(h:Dn r p n):Up r (kas_rev p 0 n) n:=by
 intro i j nA hj;rw [RH hn,RH hn,if_pos ⟨by omega,by omega⟩,if_pos ⟨by omega,hj⟩];exact h _ _ (by omega) (by omega)
theorem tail3{p:Array Nat}{n nrem:Nat}(h1:1≤n)(hn:n≤nrem)(hz:nrem≤p.size)(h:Dn r p n):∃m p',go (oP r) (kas_tail3 n nrem p)=(m,p')∧1≤m∧m≤nrem∧p'.size=p.size∧p'.Perm p∧Up r p' m:=by
 obtain⟨m,e,a,b,u,_⟩:=asc (r:=r) (nrem - n) n h1 (Ox (by omega) h);refine⟨m,kas_rev p 0 n,?_,by omega,by omega,uU _ _ _,HM _ _ _,u⟩;unfold kas_tail3;rw [pZ,e];rfl
theorem descPart{p:Array Nat}{n nrem:Nat}(h1:1≤n)(hn:n+1≤nrem)(hz:nrem≤p.size)(h:Dn r p (n+1)):∃m p',go (oP r) (kas_descPart n nrem p)=(m,p')∧1≤m∧m≤nrem∧p'.size=p.size∧p'.Perm p∧Up r p' m:=by
 obtain⟨p1,m1,q1,e,a1,a2,a3,a4,a5,a6,a7,a8⟩:=desc (r:=r) (nrem - (n+1)) p (n+1) 0 (by omega) (by omega) h (fun k k1 k2=>by
  have:k=n+1 - 1:=by omega
  rw [this])
 by_cases q0:q1>0
 ·have ek:∀k,Ky r (kas_rev p1 (m1 - (q1+1)) m1) k=Ky r p1 k:=RG (by omega) a8;obtain⟨m,p',e2,b1,b2,b3,b4,b5⟩:=tail3 (p:=kas_rev p1 (m1 - (q1+1)) m1) (n:=m1) (nrem:=nrem) (r:=r) (by omega) (by omega) (by rw [uU];omega) (fun i j x y=>by rw [ek,ek];exact a7 i j x y);refine⟨m,p',?_,b1,b2,by rw [b3,uU,a4],b4.trans ((HM _ _ _).trans a5),b5⟩;unfold kas_descPart;rw [pZ,e];simp only [q0,kT];exact e2
 ·obtain⟨m,p',e2,b1,b2,b3,b4,b5⟩:=tail3 (p:=p1) (n:=m1) (nrem:=nrem) (r:=r) (by omega) (by omega) (by omega) a7;refine⟨m,p',?_,b1,b2,by rw [b3,a4],b4.trans a5,b5⟩;unfold kas_descPart;rw [pZ,e];simp only [q0,jB];exact e2
theorem count{p:Array Nat}{nrem:Nat}(h1:1≤nrem)(hz:nrem≤p.size):∃m p',go (oP r) (kas_count nrem p)=(m,p')∧1≤m∧m≤nrem∧p'.size=p.size∧p'.Perm p∧Up r p' m:=by
 obtain⟨n,e,a,b,u,l⟩:=asc (r:=r) (p:=p) (nrem - 1) 1 bG (fun i j x y=>by
  have:i=j:=by omega
  rw [this];exact xC _)
 unfold kas_count;rw [pZ,e]
 by_cases c1:n=nrem
 ·subst c1;refine⟨n,p,by simp [go],a,mJ _,rfl,.refl _,u⟩
 ·have c1':(n == nrem)=false:=by simpa using c1
  have lt:=l (by omega);simp only [c1',sN,jB]
  by_cases c2:n>1
  ·simp only [c2,kT,go]
   by_cases c3:Ky r p 0<Ky r p (n - 1)
   ·have XY:=CJ c3;simp only [XY,kT,go];exact⟨n,p,rfl,a,by omega,rfl,.refl _,u⟩
   ·have XY:=CK c3;simp only [XY,sN,jB];have eqs:∀k,k<n→Ky r p k=Ky r p (n - 1):=fun k hk=>by
     have x:=u 0 k (by omega) hk;have y:=u k (n - 1) (by omega) (by omega);omega
    have ek:∀k,Ky r (kas_rev p 0 n) k=Ky r p k:=RG (by omega) fun k _ hk=>eqs k hk;obtain⟨m,p',e2,b1,b2,b3,b4,b5⟩:=descPart (r:=r) (p:=kas_rev p 0 n) (n:=n) (nrem:=nrem) (by omega) (by omega) (by rw [uU];omega) (KH (by omega) (fun i j x y=>by rw [ek,ek,eqs i (by omega),eqs j y];exact xC _) (by rw [ek,ek];omega));exact⟨m,p',e2,b1,b2,by rw [b3,uU],b4.trans (HM _ _ _),b5⟩
  ·simp only [c2,jB];have n1:n=1:=by omega
   subst n1;exact descPart bG (by omega) hz (KH bG (fun i j x y=>by
    have:i=j:=by omega
    rw [this];exact xC _) (by omega))
theorem place{p:Array Nat}{k:Nat}(hu:Up r p k):∀(f l t:Nat),l≤t→t≤k→t - l≤f→(∀i,i<l→Ky r p i≤Ky r p k)→(∀i,t≤i→i<k→Ky r p k<Ky r p i) →
  ∃m,go (oP r) (kas_place p k f l t)=m∧m≤k∧(∀i,i<m→Ky r p i≤Ky r p k)∧(∀i,m≤i→i<k→Ky r p k<Ky r p i)
 | 0,l,t,h1,h2,h3,h4,h5=>⟨l,rfl,by omega,h4,fun i a b=>h5 i (by omega) b⟩
 | f+1,l,t,h1,h2,h3,h4,h5=>by
  by_cases c:l≥t
  ·exact⟨l,by simp only [kas_place,c,kT,go],by omega,h4,fun i a b=>h5 i (by omega) b⟩
  ·by_cases d:Ky r p k<Ky r p ((l+t)/2)
   ·have d':=CJ d;obtain⟨m,e,a1,a2,a3⟩:=place hu f l ((l+t)/2) (by omega) (by omega) (by omega) h4 (fun i a b=>by
     have:=hu ((l+t)/2) i a b;omega)
    refine⟨m,?_,a1,a2,a3⟩;rw [← e];simp only [kas_place,c,jB,go,d',kT]
   ·have d':=CK d;obtain⟨m,e,a1,a2,a3⟩:=place hu f ((l+t)/2+1) t (by omega) h2 (by omega) (fun i a=>by
     have:=hu i ((l+t)/2) (by omega) (by omega);omega) h5
    refine⟨m,?_,a1,a2,a3⟩;rw [← e];simp only [kas_place,c,jB,go,d',sN]
theorem Gq{p:Array Nat}{k d:Nat}(hs:k<p.size)(hd:d≤k)(i:Nat):Ky r (bubble p k d) i=if i=k - d then Ky r p k else if k - d<i∧i≤k then Ky r p (i - 1)else Ky r p i:=by
 have h:=getElem?_bubble hs d hd i
 by_cases c:i=k - d
 ·rw [if_pos c]at h ⊢;exact congrArg r (getD_eq h)
 ·rw [if_neg c]at h ⊢
  by_cases c2:k - d<i∧i≤k
  ·rw [if_pos c2]at h ⊢;exact congrArg r (getD_eq h)
  ·rw [if_neg c2]at h ⊢;exact congrArg r (getD_eq h)
theorem bin:∀(f:Nat) (p:Array Nat) (k:Nat),k+f≤p.size→Up r p k→∃p',go (oP r) (kas_bin f p k)=p'∧p'.size=p.size∧p'.Perm p∧Up r p' (k+f)
 | 0,p,k,_,h=>⟨p,rfl,rfl,.refl _,h⟩
 | f+1,p,k,hz,h=>by
  obtain⟨m,e,a1,a2,a3⟩:=place h k 0 k (by omega) bG (by omega) (fun i z=>by omega) (fun i a b=>by omega);have hu:Up r (bubble p k (k - m)) (k+1):=by
   intro i j nA hj;rw [Gq (by omega) (by omega),Gq (by omega) (by omega)];have e1:k - (k - m)=m:=by omega
   rw [e1]
   by_cases ci:i=m
   ·rw [if_pos ci]
    by_cases cj:j=m
    ·rw [if_pos cj];exact xC _
    ·rw [if_neg cj,if_pos ⟨by omega,by omega⟩];exact Int.le_of_lt (a3 (j - 1) (by omega) (by omega))
   ·rw [if_neg ci]
    by_cases Kl:m<i∧i≤k
    ·rw [if_pos Kl,if_neg (by omega),if_pos ⟨by omega,by omega⟩];exact h _ _ (by omega) (by omega)
    ·rw [if_neg Kl]
     by_cases cj:j=m
     ·rw [if_pos cj];exact a2 i (by omega)
     ·rw [if_neg cj]
      by_cases Kk:m<j∧j≤k
      ·rw [if_pos Kk];exact h _ _ (by omega) (by omega)
      ·rw [if_neg Kk];exact h _ _ nA (by omega)
  obtain⟨p',e2,b1,b2,b3⟩:=bin f (bubble p k (k - m)) (k+1) (by rw [bubble_size];omega) hu;refine⟨p',?_,by rw [b1,bubble_size],b2.trans (bubble_perm _ _ _),by rw [show k+(f+1)=k+1+f by omega];exact b3⟩;rw [← e2];simp only [kas_bin,pZ,e]
theorem sorts{n:Nat}(h1:1≤n):∃p,go (oP r) (kas_sort n)=p∧p.size=n∧p.toList.Perm (List.range n)∧Up r p n:=by
 obtain⟨m,p,e,a1,a2,a3,a4,a5⟩:=count (r:=r) (p:=List.toArray (List.range n)) (nrem:=n) h1 (by simp);have sz:(List.toArray (List.range n)).size=n:=by simp
 rw [sz]at a3;have pr:p.toList.Perm (List.range n):=by have:=Array.perm_iff_toList_perm.mp a4;simpa using this
 unfold kas_sort;rw [pZ,e]
 by_cases c:m<n
 ·simp only [c,kT];obtain⟨p',e2,b1,b2,b3⟩:=bin (r:=r) (n - max m 1) p (max m 1) (by omega) (by rw [show max m 1=m by omega];exact a5);refine⟨p',e2,by omega,(Array.perm_iff_toList_perm.mp b2).trans pr,?_⟩;rw [show max m 1+(n - max m 1)=n by omega]at b3;exact b3
 ·simp only [c,jB];have:m=n:=by omega
  subst this;exact⟨p,rfl,a3,pr,a5⟩
end
def reach{α:Type}(lt:Nat→Nat→Bool)(N:Nat):KasT α→Prop
 | .ret _=>True
 | .ask i j k=>i<N∧j<N∧reach lt N (k (lt i j))
theorem pL{α β:Type}{lt:Nat→Nat→Bool}{N:Nat}{f:α→KasT β}:∀{t:KasT α},reach lt N t→reach lt N (f (go lt t))→reach lt N (t.bind f)
 | .ret _,_,h=>h
 | .ask _ _ _,h1,h2=>⟨h1.1,h1.2.1,pL h1.2.2 h2⟩
theorem Bf{α:Type}{cmp:Nat→Nat→(Bool→Shared→Prop)→Shared→Prop}{lt:Nat→Nat→Bool}{N:Nat}{s:Shared}(hc:∀i j C,i<N→j<N→C (lt i j) s→cmp i j C s){Q:α→Shared→Prop}:∀(t:KasT α),reach lt N t→Q (go lt t) s→t.kasWp cmp Q s
 | .ret _,_,h=>h
 | .ask i j k,hr,h=>hc i j _ hr.1 hr.2.1 (Bf hc (k (lt i j)) hr.2.2 h)
def Bd(N:Nat)(p:Array Nat):Prop:=0<N∧∀x∈p,x<N
section
variable{lt:Nat→Nat→Bool}{N:Nat}
theorem Bd.get{p:Array Nat}(h:Bd N p)(i:Nat):p.getD i 0<N:=by
 rw [Az];cases e:p[i]? with
 | none=>exact h.1
 | some x=>exact h.2 x (Array.mem_of_getElem? e)
theorem Bd.perm{p q:Array Nat}(h:Bd N p)(e:q.Perm p):Bd N q:=⟨h.1,fun x hx=>h.2 x (e.mem_iff.mp hx)⟩
theorem Bd.rev{p:Array Nat}(h:Bd N p)(i j:Nat):Bd N (kas_rev p i j):=h.perm (mirror_perm _ _ _ _)
theorem QH{p:Array Nat}(h:Bd N p):∀f n,reach lt N (kas_asc p f n)
 | 0,_=>trivial
 | f+1,n=>by
  refine⟨h.get _,h.get _,?_⟩;dsimp only;split
  ·trivial
  ·exact QH h f (n+1)
theorem HP:∀(f:Nat) (p:Array Nat) (n q:Nat),Bd N p→reach lt N (kas_desc f p n q)∧Bd N (go lt (kas_desc f p n q)).1
 | 0,p,_,_,h=>⟨trivial,h⟩
 | f+1,p,n,q,h=>by
  have g:go lt (kas_desc (f+1) p n q)=go lt (if lt (p.getD n 0) (p.getD (n - 1) 0)=true then(if q>0 then kas_desc f (kas_rev p (n - (q+1)) n) (n+1) 0 else kas_desc f p (n+1) 0)else .ask (p.getD (n - 1) 0) (p.getD n 0) fun d=>if d=true then .ret (p,n,q)else kas_desc f p (n+1) (q+1)):=rfl;rw [g];show(_∧_∧reach lt N (if lt (p.getD n 0) (p.getD (n - 1) 0)=true then(if q>0 then kas_desc f (kas_rev p (n - (q+1)) n) (n+1) 0 else kas_desc f p (n+1) 0)else .ask (p.getD (n - 1) 0) (p.getD n 0) fun d=>if d=true then .ret (p,n,q)else kas_desc f p (n+1) (q+1)))∧_
  by_cases c:lt (p.getD n 0) (p.getD (n - 1) 0)=true
  ·rw [if_pos c]
   by_cases q0:q>0
   ·rw [if_pos q0];have ih:=HP f (kas_rev p (n - (q+1)) n) (n+1) 0 (h.rev _ _);exact⟨⟨h.get _,h.get _,ih.1⟩,ih.2⟩
   ·rw [if_neg q0];have ih:=HP f p (n+1) 0 h;exact⟨⟨h.get _,h.get _,ih.1⟩,ih.2⟩
  ·rw [if_neg c];have g2:go lt (.ask (p.getD (n - 1) 0) (p.getD n 0) fun d=>if d=true then .ret (p,n,q)else kas_desc f p (n+1) (q+1))=go lt (if lt (p.getD (n - 1) 0) (p.getD n 0)=true then KasT.ret (p,n,q)else kas_desc f p (n+1) (q+1)):=rfl;rw [g2];show(_∧_∧_∧_∧reach lt N (if lt (p.getD (n - 1) 0) (p.getD n 0)=true then KasT.ret (p,n,q)else kas_desc f p (n+1) (q+1)))∧_
   by_cases d:lt (p.getD (n - 1) 0) (p.getD n 0)=true
   ·rw [if_pos d];exact⟨⟨h.get _,h.get _,h.get _,h.get _,trivial⟩,h⟩
   ·rw [if_neg d];have ih:=HP f p (n+1) (q+1) h;exact⟨⟨h.get _,h.get _,h.get _,h.get _,ih.1⟩,ih.2⟩
theorem Eg{p:Array Nat}(h:Bd N p)(n nrem:Nat):reach lt N (kas_tail3 n nrem p)∧Bd N (go lt (kas_tail3 n nrem p)).2:=by
 unfold kas_tail3;refine⟨pL (QH (h.rev _ _) _ _) trivial,?_⟩;rw [pZ];exact h.rev _ _
theorem Ei{p:Array Nat}(h:Bd N p)(n nrem:Nat):reach lt N (kas_descPart n nrem p)∧Bd N (go lt (kas_descPart n nrem p)).2:=by
 obtain⟨a,b⟩:=HP (lt:=lt) (nrem - (n+1)) p (n+1) 0 h;unfold kas_descPart;rw [pZ]
 by_cases c:(go lt (kas_desc (nrem - (n+1)) p (n+1) 0)).2.2>0
 ·have t:=Eg (lt:=lt) (b.rev ((go lt (kas_desc (nrem - (n+1)) p (n+1) 0)).2.1 - ((go lt (kas_desc (nrem - (n+1)) p (n+1) 0)).2.2+1)) (go lt (kas_desc (nrem - (n+1)) p (n+1) 0)).2.1) (go lt (kas_desc (nrem - (n+1)) p (n+1) 0)).2.1 nrem;refine⟨pL a ?_,?_⟩
  ·rw [if_pos c];exact t.1
  ·rw [if_pos c];exact t.2
 ·have t:=Eg (lt:=lt) b (go lt (kas_desc (nrem - (n+1)) p (n+1) 0)).2.1 nrem;refine⟨pL a ?_,?_⟩
  ·rw [if_neg c];exact t.1
  ·rw [if_neg c];exact t.2
theorem Xp{p:Array Nat}(h:Bd N p)(nrem:Nat):reach lt N (kas_count nrem p)∧Bd N (go lt (kas_count nrem p)).2:=by
 unfold kas_count;rw [pZ];have a:=QH (lt:=lt) h (nrem - 1) 1;generalize hn:go lt (kas_asc p (nrem - 1) 1)=n
 by_cases c1:(n == nrem)=true
 ·rw [if_pos c1];refine⟨pL a ?_,h⟩;rw [hn,if_pos c1];trivial
 ·rw [if_neg c1]
  by_cases c2:n>1
  ·rw [if_pos c2];have g:go lt (.ask (p.getD 0 0) (p.getD (n - 1) 0) fun c=>if c=true then .ret (n,p)else kas_descPart n nrem (kas_rev p 0 n))=go lt (if lt (p.getD 0 0) (p.getD (n - 1) 0)=true then .ret (n,p)else kas_descPart n nrem (kas_rev p 0 n)):=rfl;rw [g]
   by_cases c3:lt (p.getD 0 0) (p.getD (n - 1) 0)=true
   ·rw [if_pos c3];refine⟨pL a ?_,h⟩;rw [hn,if_neg c1,if_pos c2];refine⟨h.get _,h.get _,?_⟩;dsimp only;rw [if_pos c3];trivial
   ·rw [if_neg c3];have t:=Ei (lt:=lt) (h.rev 0 n) n nrem;refine⟨pL a ?_,t.2⟩;rw [hn,if_neg c1,if_pos c2];refine⟨h.get _,h.get _,?_⟩;dsimp only;rw [if_neg c3];exact t.1
  ·rw [if_neg c2];have t:=Ei (lt:=lt) h n nrem;refine⟨pL a ?_,t.2⟩;rw [hn,if_neg c1,if_neg c2];exact t.1
theorem QG{p:Array Nat}(h:Bd N p)(k:Nat):∀f l t,reach lt N (kas_place p k f l t)
 | 0,_,_=>trivial
 | f+1,l,t=>by
  unfold kas_place;split
  ·trivial
  ·refine⟨h.get _,h.get _,?_⟩;dsimp only;split
   ·exact QG h k f _ _
   ·exact QG h k f _ _
theorem Ej:∀(f:Nat) (p:Array Nat) (k:Nat),Bd N p→reach lt N (kas_bin f p k)
 | 0,_,_,_=>trivial
 | f+1,p,k,h=>pL (QG h k _ _ _) (Ej f _ _ (h.perm (bubble_perm _ _ _)))
theorem Eh{n:Nat}(h:0<n):reach lt n (kas_sort n):=by
 have b:Bd n (List.toArray (List.range n)):=⟨h,fun x hx=>by simpa using hx⟩;obtain⟨a1,a2⟩:=Xp (lt:=lt) b n;unfold kas_sort;refine pL a1 ?_;split
 ·exact Ej _ _ _ a2
 ·trivial
end
def bV:List Int→List Int→Bool
 | [],[]=>false
 | [],_::_=>true
 | _::_,[]=>false
 | a::as,b::bs=>if a=b then bV as bs else decide (a<b)
theorem RC:∀a,bV a a=false
 | []=>rfl
 | a::as=>by simp [bV,RC as]
theorem CN:∀{a b c:List Int},bV a b=true→bV b c=true→bV a c=true
 | [],[],_,h,_=>by simp [bV]at h
 | [],_::_,[],_,h=>by simp [bV]at h
 | [],_::_,_::_,_,_=>rfl
 | _::_,[],_,h,_=>by simp [bV]at h
 | _::_,_::_,[],_,h=>by simp [bV]at h
 | a::as,b::bs,c::cs,h1,h2=>by
  simp only [bV]at h1 h2 ⊢
  by_cases e1:a=b
  ·subst e1
   by_cases e2:a=c
   ·subst e2;simp only [kT]at h1 h2 ⊢;exact CN h1 h2
   ·simp only [kT,e2,jB]at h1 h2 ⊢;exact h2
  ·by_cases e2:b=c
   ·subst e2;simp only [e1,jB]at h1 ⊢;exact h1
   ·simp only [e1,e2,jB,zL]at h1 h2;have e3:¬a=c:=by omega
    simp only [e3,jB,zL];omega
theorem IK:∀{a b:List Int},bV a b=false→bV b a=false→a=b
 | [],[],_,_=>rfl
 | [],_::_,h,_=>by simp [bV]at h
 | _::_,[],_,h=>by simp [bV]at h
 | a::as,b::bs,h1,h2=>by
  simp only [bV]at h1 h2
  by_cases e:a=b
  ·subst e;simp only [kT]at h1 h2;rw [IK h1 h2]
  ·have e':¬b=a:=fun z=>e z.symm;simp only [e,e',jB,decide_eq_false_iff_not]at h1 h2;omega
def BW(ts:List (List Int))(t:List Int):Int:=((ts.filter fun x=>bV x t).length:Int)
theorem WW{α:Type}{p q:α→Bool}(h:∀x,p x=true→q x=true):∀l:List α,(l.filter p).length≤(l.filter q).length
 | []=>mJ _
 | x::l=>by
  have ih:=WW h l
  by_cases hp:p x=true
  ·simp [hp,h x hp,ih]
  ·by_cases hq:q x=true
   ·simp [hp,hq];omega
   ·simp [hp,hq,ih]
theorem Je{α:Type}{p q:α→Bool}(h:∀x,p x=true→q x=true):∀(l:List α) (y:α),y∈l→p y=false→q y=true→(l.filter p).length<(l.filter q).length
 | [],_,hy,_,_=>by cases hy
 | x::l,y,hy,hp,hq=>by
  have le:=WW h l
  rcases dG.mp hy with e | e
  ·subst e;simp [hp,hq];omega
  ·have ih:=Je h l y e hp hq
   by_cases hx:p x=true
   ·simp [hx,h x hx,ih]
   ·by_cases Gz:q x=true
    ·simp [hx,Gz];omega
    ·simp [hx,Gz,ih]
theorem Ef{ts:List (List Int)}{a b:List Int}(ha:a∈ts):BW ts a<BW ts b↔bV a b=true:=by
 unfold BW;constructor
 ·intro h
  by_cases c:bV a b=true
  ·exact c
  ·exfalso;have c':bV a b=false:=by simpa using c
   have:(ts.filter fun x=>bV x b).length≤(ts.filter fun x=>bV x a).length:=WW (fun x hx=>by
    by_cases d:bV b a=true
    ·exact CN hx d
    ·have e:=IK c' (by simpa using d);rw [e];exact hx) ts
   omega
 ·intro h;have:=Je (p:=fun x=>bV x a) (q:=fun x=>bV x b) (fun x hx=>CN hx h) ts a ha (RC a) h;omega
section
variable{prog:Program}{w:World}{A:Around}{E:Value→Shared→Prop}{s:Shared}
theorem Gf{Q:Bool→Shared→Prop}:∀{xs ys:List Value} {ns ms:List Int} (i:Nat) (fin:Bool),IntsAre xs ns→IntsAre ys ms→fin=decide (ns.length<ms.length)→Q (bV ns ms) s→KatLex prog w A true fin Q (xs.zip ys) i s
 | [],[],_,_,i,fin,.nil,.nil,hf,h=>by subst hf;exact kat_nil (by simpa [bV]using h)
 | [],_::_,_,_,i,fin,.nil,.cons m u k,hf,h=>by subst hf;exact kat_nil (by simpa [bV]using h)
 | _::_,[],_,_,i,fin,.cons n t h1,.nil,hf,h=>by subst hf;exact kat_nil (by simpa [bV]using h)
 | _::_,_::_,_,_,i,fin,.cons n t h1,.cons m u h2,hf,h=>by
  rw [List.zip_cons_cons];refine kat_cons (wpAny_eqBool_int ?_)
  by_cases e:n=m
  ·subst e;rw [show(n == n)=true by simp];exact kat_yes (Gf (i+1) fin h1 h2 (by rw [hf];simp) (by simpa [bV]using h))
  ·rw [show(n == m)=false by simpa using e];refine kat_no ?_;have h':Q (decide (n<m)) s:=by simpa [bV,e]using h
   by_cases hi:i=0
   ·subst hi;exact oneLt_int h'
   ·rw [show(true&&i == 0)=false by simpa using hi];exact kat_one _ _ (lt_int h')
end
def TupAt(h:Heap)(v:Value)(ns:List Int):Prop:=∃a o xs n,v = .ref a∧h.get? a=some o∧o.cls = .type "tuple"∧o.data = .seq xs n∧IntsAre xs.toList ns
def jH(h:Heap):List Value→List (List Int)→Prop
 | [],[]=>True
 | v::vs,t::ts=>TupAt h v t∧jH h vs ts
 | _,_=>False
theorem jH.len{h:Heap}:∀{vs:List Value} {ts:List (List Int)},jH h vs ts→vs.length=ts.length
 | [],[],_=>rfl
 | _::_,_::_,t=>by simp [jH.len t.2]
 | [],_::_,t=>t.elim
 | _::_,[],t=>t.elim
theorem jH.get{h:Heap}:∀{vs:List Value} {ts:List (List Int)},jH h vs ts→∀i,i<ts.length→TupAt h (vs.getD i .none) (ts.getD i [])
 | [],[],_,i,hi=>by simp at hi
 | _::_,_::_,t,0,_=>t.1
 | _::_,_::_,t,i+1,hi=>by simpa using jH.get t.2 i (by simpa using hi)
 | [],_::_,t,_,_=>t.elim
 | _::_,[],t,_,_=>t.elim
theorem jH.keeps{h h':Heap}(k:∀b o,h.get? b=some o→o.cls = .type "tuple"→h'.get? b=some o):∀{vs:List Value} {ts:List (List Int)},jH h vs ts→jH h' vs ts
 | [],[],_=>trivial
 | _::_,_::_,⟨⟨a,o,xs,n,h1,h2,h3,h4⟩,t⟩=>⟨⟨a,o,xs,n,h1,k _ _ h2 h3,h3,h4⟩,jH.keeps k t⟩
 | [],_::_,t=>t.elim
 | _::_,[],t=>t.elim
theorem jH.Gs{h:Heap}:∀{vs:List Value} {ts:List (List Int)},jH h vs ts→(∀t∈ts,t≠[])→∃fs ns,KatTups h vs fs∧IntsAre fs ns∧fs.length=vs.length
 | [],[],_,_=>⟨[],[],.nil,.nil,rfl⟩
 | _::_,t::ts,⟨⟨a,o,xs,n,h1,h2,h3,h4,h5⟩,r⟩,cQ=>by
  obtain⟨fs,ns,k1,k2,k3⟩:=jH.Gs r fun t ht=>cQ t (fP _ ht);subst h1;have hn:=cQ t nR;obtain⟨l⟩:=xs;cases h5 with
  | nil=>exact absurd rfl hn
  | cons m u hh =>
   exact⟨.int m u::fs,m::ns,.cons h2 h3 h4 rfl k1,.cons m u k2,by simp [k3]⟩
 | [],_::_,t,_=>t.elim
 | _::_,[],t,_=>t.elim
section
variable{prog:Program}{w:World}{A:Around}{E:Value→Shared→Prop}{s:Shared}
theorem akD{vs:List Value}{ts:List (List Int)}(T:jH s.heap vs ts){i j:Nat}(hi:i<ts.length)(hj:j<ts.length){C:Bool→Shared→Prop}(h:C (bV (ts.getD i []) (ts.getD j [])) s):kas_ask prog w A (tuples' true) vs i j C s:=by
 obtain⟨a,o,xs,n,e1,h2,h3,h4,h5⟩:=T.get i hi;obtain⟨b,o',ys,n',wK,kW,JQ,h4',Iu⟩:=T.get j hj;unfold kas_ask;rw [e1,wK];have l1:=h5.length;have l2:=Iu.length;refine kat_lt h2 h4 kW h4' (Gf 0 _ h5 Iu ?_ h);rw [← jZ,← jZ,l1,l2]
theorem adB{vs:List Value}{ts:List (List Int)}(T:jH s.heap vs ts)(cQ:∀t∈ts,t≠[])(h2:2≤vs.length){Q:SortKind→Shared→Prop}(h:Q (tuples' true) s):wpAny (model prog w) A (keyKind' vs.toArray) Q E s:=by
 obtain⟨fs,ns,k1,k2,k3⟩:=T.Gs cQ;refine kat_kind (T := .type "int") k1 (by omega) (fun v hv=>?_) (by decide) ?_
 ·obtain⟨n,t,rfl⟩:=k2.all v hv;exact Looks.of_pure rfl
 ·have e:(Value.type "int" != Value.type "tuple")=true:=by decide
  rw [e];exact h
def wW(ts:List (List Int))(p:List Nat):Prop:=p.Perm (List.range ts.length)∧p.Pairwise fun i j=>bV (ts.getD j []) (ts.getD i [])=false
theorem go_congr{α:Type}{lt lt':Nat→Nat→Bool}{N:Nat}(h:∀i j,i<N→j<N→lt i j=lt' i j):∀t:KasT α,reach lt N t→go lt t=go lt' t
 | .ret _,_=>rfl
 | .ask i j k,hr=>by
  show go lt (k (lt i j))=go lt' (k (lt' i j));rw [← h i j hr.1 hr.2.1];exact go_congr h _ hr.2.2
abbrev CL(ts:List (List Int)):Nat→Nat→Bool:=fun i j=>bV (ts.getD i []) (ts.getD j [])
theorem getD_mem{ts:List (List Int)}{i:Nat}(h:i<ts.length):ts.getD i []∈ts:=by
 rw [Mp,jK h];exact MC h
theorem Vq{ts:List (List Int)}(h:1≤ts.length):wW ts (go (CL ts) (kas_sort ts.length)).toList∧(go (CL ts) (kas_sort ts.length)).size=ts.length:=by
 have e:go (CL ts) (kas_sort ts.length)=go (oP fun i=>BW ts (ts.getD i [])) (kas_sort ts.length):=go_congr (N:=ts.length) (fun i j hi hj=>by
  have q:=Ef (ts:=ts) (b:=ts.getD j []) (getD_mem hi);show bV _ _=decide _
  by_cases c:bV (ts.getD i []) (ts.getD j [])=true
  ·rw [c];exact(wN (q.mpr c)).symm
  ·have c':bV (ts.getD i []) (ts.getD j [])=false:=by simpa using c
   rw [c'];exact(lP fun z=>c (q.mp z)).symm) _ (Eh (by omega))
 obtain⟨p,e2,a1,a2,a3⟩:=sorts (r:=fun i=>BW ts (ts.getD i [])) h;rw [e,e2];refine⟨⟨a2,?_⟩,a1⟩;rw [ZZ];intro i j hi hj nA;rw [jZ]at hi hj;have u:=a3 i j (by omega) (by omega);unfold Ky at u;have gi:p.getD i 0=p.toList[i]:=by simp [Az,hi]
 have gj:p.getD j 0=p.toList[j]:=by simp [Az,hj]
 rw [gi,gj]at u;dsimp only at u;have mj:p.toList[j]<ts.length:=by
  have:=a2.mem_iff.mp (MC (by rw [jZ];exact hj));simpa using this
 have q:=Ef (ts:=ts) (b:=ts.getD p.toList[i] []) (getD_mem mj)
 by_cases c:bV (ts.getD p.toList[j] []) (ts.getD p.toList[i] [])=true
 ·have:=q.mpr c;omega
 ·simpa using c
theorem Ge{a:Addr}{vs:List Value}{ts:List (List Int)}{n:Nat}{P:PySem.Fin→Shared→Prop}(ho:s.heap.get? a=some (seqObj "list" vs.toArray n))(T:jH s.heap vs ts)(cQ:∀t∈ts,t≠[])(mC:vs.length<64)
  (h:∀p:List Nat,wW ts p→P (.done (.ret .none)) { s with heap:=sortedHeap s.heap a vs (List.toArray (p.map fun i=>vs.getD i Value.none)) }) :
  wpAny (model prog w) A (Builtin.«list.sort» ⟨[.ref a],[]⟩) P E s:=by
 rw [list_sort_plain];have hlen:=T.len;have ha:a<s.heap.objs.size:=bO ho;refine aF (listItems_at ho rfl ?_);refine aF (listUpdate_at ho rfl ?_ (by rw [hX,kP];omega) vA);obtain⟨e1,pW⟩:∃e1,(s.heap.update a (Obj.mapSeq fun _=>(#[]:Array Value))).get? a=some (seqObj "list" #[] e1):=⟨_,JR ho (fun _=>#[])⟩;refine aF (seqEpoch_at pW rfl ?_);refine aF (wpAny_newTuple ?_ (by show vs.length≤_;rw [kP];omega));refine aF (wpAny_newList ?_ vA);refine qQ ?_;have old:∀b o,s.heap.get? b=some o→o.cls = .type "tuple"→(((s.heap.update a (Obj.mapSeq fun _=>(#[]:Array Value))).push (seqObj "tuple" vs.toArray 0)).push (seqObj "list" #[] 0)).get? b=some o:=fun b o hb hc=>by
  have hba:b≠a:=fun z=>by subst z;rw [ho]at hb;cases hb;have hc:Value.type "list" = Value.type "tuple":=hc;exact absurd hc (by decide)
  have cP:b<s.heap.objs.size:=bO hb;rw [FH _ _ _ (by rw [size_push',MH];exact cK (uA cP)),FH _ _ _ (by rw [MH];exact cK cP),Heap.get?_update_ne _ _ _ _ hba];exact hb
 have JD:(((s.heap.update a (Obj.mapSeq fun _=>(#[]:Array Value))).push (seqObj "tuple" vs.toArray 0)).push (seqObj "list" #[] 0)).get? a=some (seqObj "list" #[] e1):=by
  rw [FH _ _ _ (by rw [size_push',MH];exact cK (uA ha)),FH _ _ _ (by rw [MH];exact cK ha)];exact pW
 show wpAny (model prog w) A _ P E { s with heap:=((s.heap.update a (Obj.mapSeq fun _=>(#[]:Array Value))).push (seqObj "tuple" vs.toArray 0)).push (seqObj "list" #[] 0) };dsimp only
 by_cases h2:vs.toArray.size<2
 ·have kW:vs.length<2:=by simpa using h2
  rw [if_pos h2,if_pos h2];refine aF (aS ?_);rw [StateT.run_pure];refine aF (aS ?_);dsimp only;have eo:(arrOf (SortSt.mk' general' (vs.toArray.zip vs.toArray) #[] 7 none)).map (·.2)=List.toArray ((List.range vs.length).map fun i=>vs.getD i Value.none):=by
   show(vs.toArray.zip vs.toArray).map (·.2)=_
   match vs,kW with
   | [],_=>simp
   | [v],_=>simp [List.range_succ]
  rw [eo];refine aF (seqEpoch_at JD rfl ?_);refine aF (listUpdate_at JD rfl ?_ vA (by rw [hX,dN,Ab,kP];omega));simp only [bne_self_eq_false,sN,jB];refine aS (h (List.range vs.length) ⟨by rw [hlen],?_⟩)
  match vs,kW with
  | [],_=>exact .nil
  | [v],_=>exact List.pairwise_singleton _ _
 ·have kW:2≤vs.length:=by simpa using h2
  rw [if_neg h2,if_neg h2];have T':=T.keeps old;obtain⟨sg,sz⟩:=Vq (ts:=ts) (by omega);refine aF (adB T' cQ kW ?_);refine aF (jM (kat_run (Q:=fun mS s'=>∃p:Array Nat,p.size=vs.length∧arrOf mS=p.map (kas_item (vs.toArray.zip vs.toArray))∧failedOf mS=none∧s' = { s with heap:=((s.heap.update a (Obj.mapSeq fun _=>(#[]:Array Value))).push (seqObj "tuple" vs.toArray 0)).push (seqObj "list" #[] 0) }∧p=go (CL ts) (kas_sort ts.length))
   rfl kW mC (fun p' mS s' a1 a2 a3 a4=>⟨p',a1,a2,a3,a4⟩) ?_) ?_ fun _ _ e=>e)
  ·rw [hlen];exact Bf (lt:=CL ts) (N:=ts.length) (fun i j C hi hj hC=>akD T' hi hj hC) _ (Eh (by omega)) ⟨rfl,rfl⟩
  ·rintro⟨⟨⟩,mS⟩ s' ⟨p,hp,har,hf,rfl,rfl⟩;dsimp only;have aeS:=kat_snds rfl har;rw [aeS];refine aF (seqEpoch_at JD rfl ?_);refine aF (listUpdate_at JD rfl ?_ vA (by rw [hX,dN,jZ,sz,kP];omega));rw [hf];simp only [bne_self_eq_false,sN,jB];exact aS (h _ sg)
theorem Vr{l:Addr}{vs:List Value}{ts:List (List Int)}{Q:Value→Shared→Prop}(hl:s.heap.IsList l vs.toArray)(T:jH s.heap vs ts)(cQ:∀t∈ts,t≠[])(mC:vs.length<64)
  (h:∀p:List Nat,wW ts p→Q (.ref (s.heap.objs.size+1)) { s with heap:=sortedAll s.heap vs (List.toArray (p.map fun i=>vs.getD i Value.none)) }) :
  wpAny (model prog w) A (call (.builtin "sorted") [.ref l]) Q E s:=by
 refine Aw kind_sorted plain_sorted entry_sorted (args_sorted1 _) ?_;unfold Builtin.«sorted»;refine aF (m:=checkCount "sorted" 1 1 _) (aS ?_);refine aF (collect_list hl ?_ (by rw [kP];omega));refine aF (wpAny_newList ?_ (by rw [kP];omega));have hsz:((s.heap.push (seqObj "list" #[] 0)).update s.heap.objs.size (Obj.mapSeq (· ++ vs.toArray))).objs.size=s.heap.objs.size+1:=by
  rw [MH,size_push']
 have nT:(((s.heap.push (seqObj "list" #[] 0)).update s.heap.objs.size (Obj.mapSeq (· ++ vs.toArray))).push (seqObj "list" vs.toArray 0)).get? (s.heap.objs.size+1)=some (seqObj "list" vs.toArray 0):=by
  rw [← hsz];exact dY _ rfl
 have keep:∀b o,s.heap.get? b=some o→(((s.heap.push (seqObj "list" #[] 0)).update s.heap.objs.size (Obj.mapSeq (· ++ vs.toArray))).push (seqObj "list" vs.toArray 0)).get? b=some o:=fun b o q=>by
  have cP:b<s.heap.objs.size:=bO q;rw [FH _ _ _ (by rw [hsz];exact cK (uA cP)),Heap.get?_update_ne _ _ _ _ (cK cP),FH _ _ _ (cK cP)];exact q
 show wpAny _ _ _ _ _ { s with heap:=((s.heap.push (seqObj "list" #[] 0)).update s.heap.objs.size (Obj.mapSeq (· ++ vs.toArray))).push (seqObj "list" vs.toArray 0) };rw [hsz];refine aF (qQ (oH slot_list_sort ⟨_,nT,rfl⟩ entry_list_sort (Ge nT (T.keeps fun b o q _=>keep b o q) cQ mC fun p hp=>⟨_,rfl,?_⟩) (args_list_sort _)));exact aS ⟨_,rfl,h p hp⟩
end
end KS
namespace V2
open PySem PySem.Spec PyProof.Rows L2 KS
def lJ(ts:List (List Int)):List (List Int):=ts.mergeSort fun a b=>!bV b a
theorem acX{a b c:List Int}(h1:bV b a=false)(h2:bV c b=false):bV c a=false:=by
 by_cases z:bV c a=true
 ·by_cases y:bV a b=true
  ·rw [CN z y]at h2;cases h2
  ·have e:=IK (by simpa using y) h1;subst e;rw [z]at h2;cases h2
 ·simpa using z
theorem acY(a b:List Int):bV b a=false∨bV a b=false:=by
 by_cases z:bV b a=true
 ·right
  by_cases y:bV a b=true
  ·have:=CN z y;rw [RC]at this;cases this
  ·simpa using y
 ·left;simpa using z
theorem HC(ts:List (List Int)):(lJ ts).Perm ts:=List.mergeSort_perm ts _
theorem OL(ts:List (List Int)):(lJ ts).Pairwise fun a b=>bV b a=false:=by
 have h:=List.pairwise_mergeSort (le:=fun a b:List Int=>!bV b a) (fun a b c h1 h2=>by
  simp only [Nd]at h1 h2 ⊢;exact acX h1 h2) (fun a b=>by
  rcases acY a b with z | z <;> simp [z]) ts
 exact h.imp fun h=>by simpa using h
theorem Dj{ts us:List (List Int)}(p:us.Perm ts)(h:us.Pairwise fun a b=>bV b a=false):us=lJ ts :=
 List.Perm.eq_of_pairwise (le:=fun a b=>bV b a=false) (fun a b _ _ h1 h2=>IK h2 h1) h (OL ts) (p.trans (HC ts).symm)
theorem Vs(ts:List (List Int)):(lJ ts).length=ts.length:=(HC ts).length_eq
theorem range_getD{α:Type}(l:List α)(d:α):(List.range l.length).map (fun i=>l.getD i d)=l:=by
 apply List.ext_getElem
 ·simp
 ·intro i h1 h2;simp [h2]
theorem Dh{ts:List (List Int)}{p:List Nat}(h:wW ts p):p.map (fun i=>ts.getD i [])=lJ ts:=by
 refine Dj ?_ ?_
 ·have:=h.1.map fun i=>ts.getD i [];rwa [range_getD]at this
 ·exact List.pairwise_map.mpr h.2
def rZ(H:Hp):List V→List (List Int)→Prop
 | [],[]=>True
 | y::ys,t::ts=>(∃b,y = .ref b∧H b=some (.tup (t.map V.int)))∧rZ H ys ts
 | _,_=>False
section
variable{X:Cx}{W:WX}
theorem NU{pins:List (Addr×Obj)}{σ:L2.St}{H:Hp}{s:Shared}(I:Inv X pins σ H s):∀{ys:List V} {us:List Value} {ts:List (List Int)},Vals ys us→rZ H ys ts→jH s.heap us ts
 | [],[],[],.nil,_=>trivial
 | _::_,_::_,t::ts,.cons r rs,⟨⟨b,e,hb⟩,T⟩=>by
  subst e;cases r;obtain⟨_,aN,vi,⟨o,ho,fH,n,UN⟩⟩:=I.aH b _ hb;exact⟨⟨b,o,_,n,rfl,ho,fH,UN,by simpa using intsAre_of vi⟩,NU I rs T⟩
 | _::_,_::_,[],_,T=>T.elim
 | [],[],_::_,_,T=>T.elim
theorem Bs:∀{ys:List V} {us:List Value},Vals ys us→∀i,i<ys.length→RelV (ys.getD i .aZ) (us.getD i .none)
 | _::_,_::_,.cons r rs,0,_=>r
 | _::_,_::_,.cons r rs,i+1,h=>by simpa using Bs rs i (by simpa using h)
theorem NH{ys:List V}{us:List Value}(r:Vals ys us):∀{p:List Nat},(∀i∈p,i<ys.length)→Vals (p.map fun i=>ys.getD i .aZ) (p.map fun i=>us.getD i .none)
 | [],_ => .nil
 | i::p,h => .cons (Bs r i (h i nR)) (NH r fun j hj=>h j (fP _ hj))
theorem rZ.len{H:Hp}:∀{ys:List V} {ts:List (List Int)},rZ H ys ts→ys.length=ts.length
 | [],[],_=>rfl
 | _::_,_::_,t=>by simp [rZ.len t.2]
 | [],_::_,t=>t.elim
 | _::_,[],t=>t.elim
theorem ajI:iN X (.builtin "sorted") (fun xs H Q=>∃(a:Addr) (ys:List V) (ts:List (List Int)),xs=[.ref a]∧eE X.K H a ys∧rZ H ys ts∧(∀t∈ts,t≠[])∧ys.length<64∧∀p,wW ts p→∀l,H l=none→Q (.ref l) (upd H l (.lst (p.map fun i=>ys.getD i .aZ)))):=by
 intro pins s σ H xs us Q I r h;obtain⟨a,ys,ts,rfl,hq,T,cQ,mC,q⟩:=h;obtain⟨u,rfl,ru⟩:=vals1 r;cases ru;obtain⟨aN,rv,pl,hz⟩:=I.list hq;have hl:aN.length=ys.length:=by rw [← rv.length]
 refine Vr pl.isList (NU I rv T) cQ (by omega) fun p hp=>?_;have kU:∀i∈p,i<ys.length:=fun i hi=>by
  have:=hp.1.mem_iff.mp hi;rw [T.len];simpa using this
 have dF:p.length=ys.length:=by rw [hp.1.length_eq,Ab,T.len]
 obtain⟨e,he⟩:=sortedAll_at s.heap aN (List.toArray (p.map fun i=>aN.getD i Value.none));refine⟨.ref (s.heap.objs.size+1),_,I.laid (t':=s.toks) (o := .lst (p.map fun i=>ys.getD i .aZ)) (fun b o q=>sortedAll_old q) (nY _) ?_,rfl,q p hp _ (I.aH.fresh (nY _))⟩;exact⟨by rw [dN,dF,kP];omega,p.map (fun i=>aN.getD i Value.none),e,NH rv kU,he⟩
def nC(t:List Int):A := .tup (t.map A.int)
def GS:A→Option (List Int)
 | .tup ds=>(intsOf ds).bind fun ns=>if ns=[]then none else some ns
 | _=>none
def sS:List A→Option (List (List Int))
 | []=>some []
 | a::r=>(GS a).bind fun t=>(sS r).map fun ts=>t::ts
theorem Gw:∀{ds:List A} {ns:List Int},intsOf ds=some ns→ds=ns.map A.int
 | [],ns,h=>by simp only [intsOf,gW]at h;subst h;rfl
 | a::ds,ns,h=>by
  cases a with
  | int i =>
   simp only [intsOf,sA]at h;obtain⟨ms,h1,rfl⟩:=h;simp [Gw h1]
  | _=>simp [intsOf]at h
theorem NV:∀{ds:List A} {ts:List (List Int)},sS ds=some ts→ds=ts.map nC∧∀t∈ts,t≠[]
 | [],ts,h=>by simp only [sS,gW]at h;subst h;simp
 | a::ds,ts,h=>by
  simp only [sS,qI,sA]at h;obtain⟨t,h1,us,h2,rfl⟩:=h;obtain⟨e,hn⟩:=NV h2;cases a with
  | tup xs =>
   simp only [GS,qI]at h1;obtain⟨ns,h3,h4⟩:=h1;split at h4
   ·cases h4
   ·rename_i cQ;cases h4;refine⟨by simp [nC,Gw h3,← e],fun t ht=>?_⟩
    rcases dG.mp ht with z | z
    ·rw [z];exact cQ
    ·exact hn t z
  | _=>cases h1
theorem ahX{K:Frag}{G:Hp}{ι:List Addr}{xs:List V}{ns:List Int}(d:aK K G ι xs (ns.map A.int)):xs=ns.map V.int:=vI (vJ ns) d
theorem Cf{K:Frag}{G H:Hp}{ι:List Addr}(sub:fA G H):∀{ts:List (List Int)} {ys:List V},aK K G ι ys (ts.map nC)→rZ H ys ts
 | [],ys,d=>by rw [oB,kZ]at d;subst d;trivial
 | t::ts,ys,d=>by
  obtain⟨x,r,rfl,d1,d2⟩:=d.gX;simp only [nC,Den]at d1;obtain⟨b,xs,rfl,hG,dl⟩:=d1;rw [ahX dl]at hG;exact⟨⟨b,rfl,sub _ _ hG⟩,Cf sub d2⟩
theorem Jx{K:Frag}{G:Hp}{ι:List Addr}:∀{ts:List (List Int)} {ys:List V},aK K G ι ys (ts.map nC)→∀i,i<ts.length→Den K G ι (ys.getD i .aZ) (nC (ts.getD i []))
 | t::ts,ys,d,i,h=>by
  obtain⟨x,r,rfl,d1,d2⟩:=d.gX;cases i with
  | zero=>exact d1
  | succ i=>simpa using Jx d2 i (by simpa using h)
theorem XI{K:Frag}{G:Hp}{ι:List Addr}{ts:List (List Int)}{ys:List V}(d:aK K G ι ys (ts.map nC)):∀{p:List Nat},(∀i∈p,i<ts.length)→aK K G ι (p.map fun i=>ys.getD i .aZ) ((p.map fun i=>ts.getD i []).map nC)
 | [],_=>by rw [oB,oB,oB,kZ]
 | i::p,h => .cons (Jx d i (h i nR)) (XI d fun j hj=>h j (fP _ hj))
@[simp] def JS(c:Bool)(as:List A):Mo A:=fun Ω=>match as with
 | [a]=>(match (cX Ω a).bind sS with
  | some ts=>if ts.length<64 then jS c ((lJ ts).map nC) Ω else none
  | none=>none)
 | _=>none
theorem Kr(c:Bool):pC X W (.builtin "sorted") (JS c):=by
 refine⟨_,ajI,?_⟩;intro G ι Ω H σ xs as Q w d h;unfold JS at h;split at h
 ·rename_i a;split at h
  ·rename_i ts e;split at h
   ·rename_i mC;obtain⟨x,rfl,d1⟩:=rW d;rw [qI]at e;obtain⟨ds,e1,e2⟩:=e;obtain⟨p,ys,rfl,h2,h3⟩:=oQ w d1 e1;obtain⟨e3,cQ⟩:=NV e2;rw [e3]at h3;have hlen:ys.length=ts.length:=by rw [h3.length];simp
    refine⟨p,ys,ts,rfl,h2,Cf w.sub h3,cQ,by omega,fun q hq l hl=>?_⟩;have dp:=XI h3 (p:=q) fun i hi=>by have:=hq.1.mem_iff.mp hi;simpa using this
    rw [Dh hq]at dp;exact oO w hl dp h
   ·exact False.elim h
  ·exact False.elim h
 ·exact False.elim h
@[simp] def WM(as:List A):Mo A:=match as with
 | [.int i]=>ret (.int i)
 | [.bl b]=>ret (.int (if b then 1 else 0))
 | _=>stuck
theorem ajY:pC X W (.type "int") WM:=by
 refine⟨_,ajT,?_⟩;intro G ι Ω H σ xs as Q w d h;unfold WM at h;split at h
 ·rename_i i;obtain⟨x,rfl,d1⟩:=rW d;simp only [Den]at d1;subst d1;exact .inl ⟨i,rfl,iE w (by simp only [Den]) h⟩
 ·rename_i b;obtain⟨x,rfl,d1⟩:=rW d;simp only [Den]at d1;subst d1;exact .inr ⟨b,rfl,iE w (by simp only [Den]) h⟩
 ·exact False.elim h
end
end V2
namespace M
open PySem V2
noncomputable section
def Lf:Ev→Mo A :=
 (kN false 1 [] (iD aO) (gN 0) sO (aC eI aO bL))
def aj5:Ev→Mo A :=
 (kN false 1 [2] (iD aO) (gN 0) (bB (aC nB (aC eI aO bL) bE)) (pG (aG (aC eI aO cO) (aG (aC (qA) (aC eI aO bL) bE) a0))))
def Lg:MS :=
 (cJ (Bz (aU wC (aG aO (aG (cT "int") a0))) (By (aU wC (aG aO (aG (cT "bool") a0))))))
def sI:List A→Mo A:=dQ 1 Lg
end
end M
namespace V2
open PySem L2
@[simp] theorem Iz(neg:Bool)(i j:Int)(Ω:aI):wD neg (.int i) (.int j) Ω=some (.ok (.bl (if neg then !(i == j)else i == j)),Ω):=by
 simp [wD,res,bX,eT]
@[simp] theorem anI(i j:Int)(Ω:aI):lN (.int i) (.int j) Ω=some (.ok (.bl (i == j)),Ω):=Iz false i j Ω
@[simp] theorem anH(i j:Int)(Ω:aI):gT (.int i) (.int j) Ω=some (.ok (.bl (!(i == j))),Ω):=Iz true i j Ω
theorem zN{i j:Int}(h0 : -18446744073709551616<i)(h1:i<18446744073709551616):kK i j := .inl ⟨h0,h1⟩
theorem XQ{i j:Int}(h0 : -18446744073709551616<j)(h1:j<18446744073709551616):kK i j := .inr ⟨h0,h1⟩
@[simp] theorem an0{α:Type}(x:α)(l:List α):hV (x::l) 0=some x:=akA _
@[simp] theorem anZ{α:Type}(x y:α)(l:List α):hV (x::y::l) 1=some y:=akB _
@[simp] theorem anY{α:Type}(x y z:α)(l:List α):hV (x::y::z::l) 2=some z:=LP _ 2
@[simp] theorem anW{α:Type}(x y z u:α)(l:List α):hV (x::y::z::u::l) 3=some u:=LP _ 3
end V2
namespace M
open PySem L2 V2
def tK(c k:Int):Int :=
 ((c+1)*(48271+118*k)%2147483629/977*16807+(c+1)*(48271+118*k)%2147483629*(k*k+7)+k)%2147483587
theorem IG(c k:Int):0≤tK c k:=Int.emod_nonneg _ (by decide)
theorem QX(c k:Int):tK c k<2147483587:=Mv _ (by decide)
theorem EX(c k:Int)(Ω:aI)(hc:0≤c)(hc1:c<8589934592)(hk:0≤k)(fT:k<1048576):xF [.int c,.int k] Ω=aJ (.int (tK c k)) Ω:=by
 have f0:=Int.emod_nonneg ((c+1)*(48271+118*k)) (show(2147483629:Int)≠0 by decide);have f1:=Mv ((c+1)*(48271+118*k)) (show(0:Int)<2147483629 by decide);have h1:kK (c+1) (48271+118*k):=zN (by omega) (by omega);have h2:kK k k:=zN (by omega) (by omega);have h3:∀j,kK ((c+1)*(48271+118*k)%2147483629) j:=fun j=>zN (by omega) (by omega);have h4:∀j,kK j 16807:=fun j=>XQ (by decide) (by decide);have h5:∀j,kK 118 j:=fun j=>zN (by decide) (by decide);have h6:∀j,oG j 977:=fun j=>⟨by decide,by decide⟩
 simp [xF,Lh,h1,h2,h3,h4,h5,h6,tK]
def tW(ns:List Int)(k:Int):Int:=tK (if k<ns.length then ns[k.toNat]?.getD 0%2147483647 else 0) (k+101)
theorem Kn(ns:List Int)(k:Int):0≤tW ns k:=IG _ _
theorem ajD(ns:List Int)(k:Int):tW ns k<2147483587:=QX _ _
theorem ZR(ns:List Int)(k:Int)(Ω:aI)(hk:0≤k)(fT:k<1000000):xG [.bY ns,.int k] Ω=aJ (.int (tW ns k)) Ω:=by
 by_cases h:k<(ns.length:Int)
 ·obtain⟨n,rfl⟩:=Mu hk;have hn:n<ns.length:=by omega
  have e:hV (ns.map A.int) (n:Int)=(aA (ns[n])):=by rw [ES];simp [hn]
  have f0:=Int.emod_nonneg ns[n] (show(2147483647:Int)≠0 by decide);have f1:=Mv ns[n] (show(0:Int)<2147483647 by decide);have m:=fun Ω=>EX (ns[n]%2147483647) (n+101) Ω f0 (by omega) (by omega) (by omega);simp [xG,YH,h,e,m,tW,hn]
 ·have m:=fun Ω=>EX 0 (k+101) Ω (by decide) (by decide) (by omega) (by omega);simp [xG,YH,h,m,tW]
end M
namespace V2
open PySem L2
theorem XB{f:A→A→Bool}:∀(xs:List A),(∀x∈xs,f x x=true)→tV f xs xs=true
 | [],_=>rfl
 | x::xs,h=>by simp only [tV,h x nR,Bool.true_and];exact XB xs fun y hy=>h y (fP _ hy)
theorem ahG:∀(n:Nat) (a:A),bX n a=true→eT n a a=true:=by
 intro n
 induction n with
 | zero=>intro a h;cases a <;> first | (simp [eT];done) | (simp [bX]at h)
 | succ n ih =>
  intro a h;cases a with
  | tup ds=>simp only [bX,FF]at h;simp only [eT];exact XB ds fun x hx=>ih x (h x hx)
  | lst ds=>simp only [bX,FF]at h;simp only [eT];exact XB ds fun x hx=>ih x (h x hx)
  | int i=>simp [eT]
  | bl i=>simp [eT]
  | str i=>simp [eT]
  | aZ=>simp [eT]
  | _=>simp [bX]at h
theorem uV{Ω:aI}{n:Nat}{a:A}(h:bX 8 a=true):res Ω n a=some a:=by
 cases n <;> simp [res,h]
theorem Ec{Ω:aI}{n k:Nat}{ds:List A}(h:Ω[k]? = some (.lst ds)):res Ω (n+1) (.aE k)=(pR (res Ω n) ds).map .lst:=by
 rw [res,if_neg (by simp [bX])];simp [h]
theorem QY{Ω:aI}{n:Nat}:∀(ds:List A),ds.all (bX 8)=true→pR (res Ω n) ds=some ds
 | [],_=>rfl
 | d::ds,h=>by
  simp only [Ag,jY]at h;simp [pR,uV h.1,QY ds h.2]
abbrev E:=Int×Int×Int
theorem WY{ok:aI→Prop}{g:A→MS}{c:Ev→Mo Bool}{e:Ev→Mo A}(F:A→Option A)(P:Ev→Prop)(Ω0:aI)(aH:∀ys,ok (Ω0++[.lst ys])):∀(xs:List A) (ρ:Ev) (acc:List A),P ρ→acc.length+xs.length≤1000000 →
  (∀x∈xs,∀ρ,P ρ→∀ys,∃ρ1,P ρ1∧g x ρ (Ω0++[.lst ys])=some (.nx,ρ1,Ω0++[.lst ys])∧((∃y,F x=some y∧c ρ1 (Ω0++[.lst ys])=some (.ok true,Ω0++[.lst ys])∧e ρ1 (Ω0++[.lst ys])=some (.ok y,Ω0++[.lst ys]))∨(F x=none∧c ρ1 (Ω0++[.lst ys])=some (.ok false,Ω0++[.lst ys])))) →
  ∃ρ',lO ok g c e Ω0.length xs ρ (Ω0++[.lst acc])=some (ρ',Ω0++[.lst (acc++xs.filterMap F)])
 | [],ρ,acc,_,_,_=>⟨ρ,by simp [lO,aH]⟩
 | x::xs,ρ,acc,hP,hl,turn=>by
  simp only [nH]at hl;obtain⟨ρ1,Io,e1,q⟩:=turn x nR ρ hP acc;have hz:acc.length<sizeLine:=by rw [kP];omega
  rcases q with⟨y,f1,e2,e3⟩ | ⟨f1,e2⟩
  ·obtain⟨ρ',ih⟩:=WY F P Ω0 aH xs ρ1 (acc++[y]) Io (by simp;omega) fun x hx=>turn x (fP _ hx);exact⟨ρ',by simp [lO,aH,e1,e2,e3,hz,ih,f1]⟩
  ·obtain⟨ρ',ih⟩:=WY F P Ω0 aH xs ρ1 acc Io (by omega) fun x hx=>turn x (fP _ hx);exact⟨ρ',by simp [lO,aH,e1,e2,ih,f1]⟩
theorem xQ{n:Nat}{js:List Nat}{fi:Ev→Mo Src}{g:A→MS}{c:Ev→Mo Bool}{e:Ev→Mo A}{ρ:Ev}{Ω Ω0:aI}{S:Src}(F:A→Option A)(P:Ev→Prop)(hfi:fi ρ Ω=some (.ok S,Ω0))(aH:∀ys,S.ok (Ω0++[.lst ys]))(hP:P (vD n js ρ))(hl:S.ds.length≤1000000)
  (turn:∀x∈S.ds,∀ρ,P ρ→∀ys,∃ρ1,P ρ1∧g x ρ (Ω0++[.lst ys])=some (.nx,ρ1,Ω0++[.lst ys])∧((∃y,F x=some y∧c ρ1 (Ω0++[.lst ys])=some (.ok true,Ω0++[.lst ys])∧e ρ1 (Ω0++[.lst ys])=some (.ok y,Ω0++[.lst ys]))∨(F x=none∧c ρ1 (Ω0++[.lst ys])=some (.ok false,Ω0++[.lst ys]))))
  (hc:fD Ω0.length (S.ds.filterMap F)):kN false n js fi g c e ρ Ω=some (.ok (.lst (S.ds.filterMap F)),Ω0):=by
 obtain⟨ρ',q⟩:=WY F P Ω0 aH S.ds (vD n js ρ) [] hP (by simpa using hl) turn;simp [kN,mb,hfi,q,RE,hc]
theorem WJ{a b c:A}{Ω:aI}(ha:res Ω 6 a=some c)(hb:res Ω 6 b=some c)(hc:bX 8 c=true):gT a b Ω=some (.ok (.bl false),Ω):=by
 simp [gT,wD,ha,hb,hc,ahG 8 c hc]
theorem Iw{a:A}{Ω:aI}(h:bX 8 a=true):gT a a Ω=some (.ok (.bl false),Ω):=WJ (uV h) (uV h) h
theorem JX{fi:Ev→Mo Src}{g:A→MS}{b:MS}{ρ:Ev}{Ω Ω':aI}{S:Src}(h:fi ρ Ω=some (.ok S,Ω')):sW fi g b ρ Ω=dU S.ok g b S.ds ρ Ω':=by
 unfold sW;rw [fR h]
theorem wR{n:Nat}:∀{as:List A},(∀a∈as,Cl n a)→fD n as
 | [],_=>by simp only [fD]
 | a::as,h=>by simp only [fD];exact⟨h a nR,wR fun b hb=>h b (fP _ hb)⟩
end V2
namespace M
open PySem L2 V2
abbrev Rn:=Int×Int
def eU(r:Rn):A := .tup [.int r.1,.int r.2]
def aM(rs:List Rn):List A:=rs.map eU
theorem clT(n:Nat)(r:Rn):Cl n (eU r):=by simp [eU,Cl,fD]
theorem ai6(n:Nat)(rs:List Rn):fD n (aM rs):=wR fun a h=>by
 obtain⟨r,_,rfl⟩:=lV.mp h;exact clT n r
theorem Eu(rs:List Rn):bX 8 (.lst (aM rs))=true:=by
 simp [bX,aM,eU]
def whole(rs:List Rn):Int:=(rs.map (·.2)).sum
def iF(r:Rn):List Int:=[r.1,r.2]
def xS:List Int→Rn
 | [a,b]=>(a,b)
 | _=>(0,0)
def dI(rs:List Rn):List Rn:=(lJ (rs.map iF)).map xS
theorem ON(rs:List Rn):(dI rs).map iF=lJ (rs.map iF):=by
 unfold dI;rw [sE];have h:∀t∈lJ (rs.map iF),(iF ∘ xS) t=id t:=fun t ht=>by
  obtain⟨r,_,rfl⟩:=lV.mp ((HC (rs.map iF)).mem_iff.mp ht);rfl
 rw [MA h,List.map_id]
theorem XD(rs:List Rn):(lJ (rs.map iF)).map nC=aM (dI rs):=by rw [← ON,sE];rfl
theorem GR:∀rs:List Rn,sS (aM rs)=some (rs.map iF)
 | []=>rfl
 | r::rs=>by
  show(GS (eU r)).bind (fun t=>(sS (aM rs)).map fun ts=>t::ts)=_;rw [GR rs];simp [GS,eU,intsOf,iF]
theorem OM(rs:List Rn):(dI rs).length=rs.length:=by unfold dI;rw [List.length_map,Vs,List.length_map]
theorem Vu(rs:List Rn):dI (dI rs)=dI rs:=by
 have h:lJ (rs.map iF)=lJ (lJ (rs.map iF)):=Dj (AF _) (OL _);show(lJ ((dI rs).map iF)).map xS=_;rw [ON,← h];rfl
def desc(rs:List Rn):List Int:=(sortI (rs.map (·.2))).reverse
def taken(rs:List Rn)(keep:Nat):Int:=if keep<rs.length then(desc rs).getD keep 0 else 0
def cY(t:Int)(rs:List Rn):List Rn:=(rs.filter fun r=>decide (t<r.2)).map fun r=>(r.1,r.2 - t)
theorem ahW(rs:List Rn):(desc rs).length=rs.length:=by unfold desc;rw [List.length_reverse,xW,List.length_map]
theorem Jw(rs:List Rn):(desc rs).Perm (rs.map (·.2)):=(List.reverse_perm _).trans (sortI_perm _)
theorem Jv(rs:List Rn):(desc rs).Pairwise (· ≥ ·):=by unfold desc;rw [List.pairwise_reverse];exact OO _
theorem ai4(D:List Int)(h:D.Pairwise (· ≥ ·))(k:Nat)(hk:k<D.length):(D.filter fun c=>decide (D[k]<c)).length≤k:=by
 generalize hg:D[k]=g;rw [← List.take_append_drop k D,List.filter_append,qK];have h2:(D.drop k).filter (fun c=>decide (g<c))=[]:=by
  rw [List.filter_eq_nil_iff];intro c hc;obtain⟨i,hi,rfl⟩:=Ad hc;rw [List.getElem_drop];simp only [List.length_drop]at hi;have:D[k+i]≤D[k]:=by
   by_cases h0:i=0
   ·subst h0;exact xC _
   ·exact ZZ.mp h k (k+i) hk (by omega) (by omega)
  rw [hg]at this;simp;omega
 rw [h2];have:=List.length_filter_le (fun c=>decide (g<c)) (D.take k);rw [MB]at this;simp only [Ac];omega
theorem ai5(D:List Int)(h:D.Pairwise (· ≥ ·))(k:Nat)(hk:k<D.length):k<(D.filter fun c=>decide (D[k]≤c)).length:=by
 generalize hg:D[k]=g;rw [← List.take_append_drop (k+1) D,List.filter_append,qK];have h2:(D.take (k+1)).filter (fun c=>decide (g≤c))=D.take (k+1):=by
  rw [List.filter_eq_self];intro c hc;obtain⟨i,hi,rfl⟩:=Ad hc;rw [List.getElem_take];rw [MB]at hi;have:D[k]≤D[i]:=by
   by_cases h0:i=k
   ·subst h0;exact xC _
   ·exact ZZ.mp h i k (by omega) hk (by omega)
  rw [hg]at this;simpa using this
 rw [h2,MB];omega
theorem GX(rs:List Rn)(k:Nat)(hk:k<rs.length):∃h:k<(desc rs).length,taken rs k=(desc rs)[k]:=by
 have h:k<(desc rs).length:=by rw [ahW];exact hk
 refine⟨h,?_⟩;unfold taken;rw [if_pos hk];simp [h]
theorem Gm(p:Int→Bool)(rs:List Rn):(rs.filter fun r=>p r.2).length=((desc rs).filter p).length:=by
 rw [((Jw rs).filter p).length_eq,List.filter_map,dN];rfl
theorem aiX(rs:List Rn)(k:Nat)(hk:k<rs.length):(rs.filter fun r=>decide (taken rs k<r.2)).length≤k:=by
 obtain⟨h,e⟩:=GX rs k hk;rw [e,Gm fun c=>decide ((desc rs)[k]<c)];exact ai4 _ (Jv rs) k h
theorem aiY(rs:List Rn)(k:Nat)(hk:k<rs.length):k<(rs.filter fun r=>decide (taken rs k≤r.2)).length:=by
 obtain⟨h,e⟩:=GX rs k hk;rw [e,Gm fun c=>decide ((desc rs)[k]≤c)];exact ai5 _ (Jv rs) k h
theorem aiW(rs:List Rn)(h1:∀r∈rs,1≤r.2)(k:Nat)(hk:k<rs.length):0<taken rs k:=by
 obtain⟨h,e⟩:=GX rs k hk;rw [e];obtain⟨r,hr,hq⟩:=lV.mp ((Jw rs).mem_iff.mp (MC h));have:=h1 r hr;omega
theorem ac2(q:Ev→Mo A)(f:Ev→Mo A)(hq:q=kN false 1 [] (iD f) (gN 0) sO (aC eI aO bL))(rs:List Rn)(hl:rs.length≤1000)(ρ:Ev)(Ω:aI)(h0:f ρ Ω=aJ (.lst (aM rs)) Ω):q ρ Ω=aJ (.lst (rs.map fun r=>A.int r.2)) Ω:=by
 have eF:(aM rs).filterMap (fun a=>match a with | .tup [_,x]=>some x | _=>none)=rs.map fun r=>A.int r.2:=by
  simp only [aM,Mq];rw [← Mr];rfl
 rw [← eF,hq];refine xQ (S:=srcOf (.lst (aM rs)) (aM rs)) _ (fun ρ=>∃u,ρ=[u]) (by simp [h0]) (fun _=>rfl) ⟨none,rfl⟩ (by simp [aM];omega) ?_ (by
  show fD _ (List.filterMap _ (aM rs));rw [eF];exact wR fun a h=>by obtain⟨r,_,rfl⟩:=lV.mp h;simp only [Cl])
 rintro x hx ρ ⟨u,rfl⟩ ys;obtain⟨r,_,rfl⟩:=lV.mp hx;exact⟨[some (eU r)],⟨_,rfl⟩,by simp,.inl ⟨_,rfl,rfl,by simp [eU]⟩⟩
@[simp] theorem anV{α:Type}(x y z u v:α)(l:List α):hV (x::y::z::u::v::l) 4=some v:=LP _ 4
def fC(t:Int)(a:A):Option A:=match a with
 | .tup [.int n,.int c]=>if t<c then some (.tup [.int n,.int (c - t)])else none
 | _=>none
theorem WZ(t:Int):∀rs:List Rn,(aM rs).filterMap (fC t)=aM (cY t rs)
 | []=>rfl
 | r::rs=>by
  have ih:=WZ t rs;have e:aM (r::rs)=eU r::aM rs:=rfl;rw [e,Af]
  by_cases h:t<r.2
  ·have e1:fC t (eU r)=some (eU (r.1,r.2 - t)):=by simp [fC,eU,h]
   have e2:cY t (r::rs)=(r.1,r.2 - t)::cY t rs:=by simp [cY,h]
   rw [e1,e2];simp only;rw [ih];rfl
  ·have e1:fC t (eU r)=none:=by simp [fC,eU,h]
   have e2:cY t (r::rs)=cY t rs:=by simp [cY,h]
   rw [e1,e2];exact ih
theorem aiV(rs:List Rn)(hl:rs.length≤1000)(ρ:Ev)(Ω:aI)(h0:(ρ[0]?).join=some (.lst (aM rs))):Lf ρ Ω=aJ (.lst (rs.map fun r=>A.int r.2)) Ω :=
 ac2 Lf aO rfl rs hl ρ Ω (by simp [h0])
theorem aiU(rs:List Rn)(hl:rs.length≤1000)(t:Int)(x:Option A)(Ω:aI):aj5 [gP (aM rs),x,aA t] Ω=aJ (.lst (aM (cY t rs))) Ω:=by
 rw [← WZ];refine xQ (S:=srcOf (.lst (aM rs)) (aM rs)) (fC t) (fun ρ=>∃u,ρ=[u,aA t]) (by simp) (fun _=>rfl) ⟨none,rfl⟩ (by simp [aM];omega) ?_ (by
  show fD _ (List.filterMap _ (aM rs));rw [WZ];exact ai6 _ _)
 rintro z hz ρ ⟨u,rfl⟩ ys;obtain⟨r,_,rfl⟩:=lV.mp hz;have h2:(2:Nat)≤sizeLine:=by decide
 refine⟨[some (eU r),aA t],⟨_,rfl⟩,by simp,?_⟩
 by_cases h:t<r.2
 ·exact .inl ⟨eU (r.1,r.2 - t),by simp [fC,eU,h],by simp [eU,h],by simp [eU,h2]⟩
 ·exact .inr ⟨by simp [fC,eU,h],by simp [eU,h]⟩
theorem ad4(rs:List Rn):intsOf (rs.map fun r=>A.int r.2)=some (rs.map (·.2)):=by
 have:=vJ (rs.map (·.2));rw [sE]at this;exact this
theorem Py(rs:List Rn)(k:Nat)(hk:k<rs.length):hV ((desc rs).map A.int) (k:Int)=(aA (taken rs k)):=by
 obtain⟨h,e⟩:=GX rs k hk;rw [ES,e];simp [h]
theorem ag6(t:Int)(rs:List Rn):(cY t rs).length≤rs.length:=by
 unfold cY;rw [List.length_map];exact List.length_filter_le _ _
theorem Xm{Ω:aI}{k:Nat}{rs:List Rn}(g:Ω[k]? = some (.lst (aM rs))):res Ω 6 (.aE k)=some (.lst (aM rs)):=by
 have h:(aM rs).all (bX 8)=true:=by simp [aM,eU,bX]
 rw [Ec g,QY _ h];rfl
end M
namespace V2
open PySem PySem.Spec PyProof.Rows L2
def putD{α:Type}(f:Str)(v:α):List (Str×α)→List (Str×α)
 | []=>[(f,v)]
 | (g,x)::r=>if g=f then(g,v)::r else(g,x)::putD f v r
@[simp] def Fd.cell:Fd→Option Cell
 | .lst ds=>some (.lst ds)
 | .aX kvs=>some (.aX kvs)
 | .val _=>none
theorem II{α:Type}{f:Str}:∀{l:List (Str×α)} {x:α},l.lookup f=some x→∃i,l[i]? = some (f,x)∧∀y,putD f y l=l.set i (f,y)
 | [],_,h=>by simp at h
 | (g,z)::r,x,h=>by
  by_cases e:g=f
  ·subst e;simp [List.lookup]at h;subst h;exact⟨0,rfl,fun y=>by simp [putD]⟩
  ·have hb:(f == g)=false:=qF.mpr (bT e);simp only [List.lookup,hb]at h;obtain⟨i,h1,h2⟩:=II h;exact⟨i+1,by simpa using h1,fun y=>by simp [putD,e,h2 y]⟩
theorem HQ{α:Type}{f g:Str}{v:α}:∀{l:List (Str×α)},(putD f v l).lookup g=if g=f then some v else l.lookup g
 | []=>by
  by_cases e:g=f
  ·subst e;simp [putD]
  ·have hb:(g == f)=false:=qF.mpr e;simp [putD,List.lookup,hb,e]
 | (k,x)::r=>by
  have ih:=HQ (f:=f) (g:=g) (v:=v) (l:=r)
  by_cases h:k=f
  ·subst h
   by_cases e:g=k
   ·subst e;simp [putD]
   ·have hb:(g == k)=false:=qF.mpr e;simp [putD,List.lookup,hb,e]
  ·by_cases e:g=k
   ·subst e;simp [putD,h]
   ·have hb:(g == k)=false:=qF.mpr e;simp only [putD,if_neg h,List.lookup,hb];exact ih
theorem BX{α:Type}{f:Str}{v w:α}:∀{l:List (Str×α)},putD f w (putD f v l)=putD f w l
 | []=>by simp [putD]
 | (k,x)::r=>by
  by_cases h:k=f
  ·simp [putD,h]
  ·simp [putD,h,BX (l:=r)]
section
variable{K:Frag}{G H:Hp}{ι:List Addr}{Ω:aI}
theorem qB:∀{ws:List (Str×V)} {fs:List (Str×Fd)},fW K G ι H ws fs↔ws.length=fs.length∧∀(i:Nat) (h:Str) (v:V) (g:Str) (fd:Fd),ws[i]? = some (h,v)→fs[i]? = some (g,fd)→h=g∧fK K G ι H v fd
 | [],[]=>⟨fun _=>⟨rfl,fun i h v g fd q=>by simp at q⟩,fun _=>trivial⟩
 | [],_::_=>⟨fun h=>h.elim,fun h=>by simp at h⟩
 | _::_,[]=>⟨fun h=>h.elim,fun h=>by simp at h⟩
 | (f,v)::ws,(g,d)::fs=>by
  constructor
  ·rintro⟨h1,h2,h3⟩;obtain⟨q1,q2⟩:=qB.mp h3;refine⟨by simp [q1],fun i h v' g' fd a b=>?_⟩;cases i with
   | zero=>simp at a b;obtain⟨rfl,rfl⟩:=a;obtain⟨rfl,rfl⟩:=b;exact⟨h1,h2⟩
   | succ i=>exact q2 i h v' g' fd (by simpa using a) (by simpa using b)
  ·rintro⟨q1,q2⟩;obtain⟨h1,h2⟩:=q2 0 f v g d rfl rfl;exact⟨h1,h2,qB.mpr ⟨by simpa using q1,fun i h v' g' fd a b=>q2 (i+1) h v' g' fd (by simpa using a) (by simpa using b)⟩⟩
theorem fW.look{ws:List (Str×V)}{fs:List (Str×Fd)}{f:Str}{fd:Fd}(h:fW K G ι H ws fs)(l:fs.lookup f=some fd):∃v,ws.lookup f=some v∧fK K G ι H v fd:=by
 induction fs generalizing ws with
 | nil=>simp at l
 | cons p fs ih =>
  obtain⟨g,d⟩:=p;cases ws with
  | nil=>exact h.elim
  | cons q ws =>
   obtain⟨g',v⟩:=q;obtain⟨e,h2,h3⟩:=h;subst e
   by_cases hb:(f == g')=true
   ·simp only [List.lookup,hb]at l ⊢;cases l;exact⟨v,rfl,h2⟩
   ·have hb:(f == g')=false:=by simpa using hb
    simp only [List.lookup,hb]at l ⊢;exact ih h3 l
theorem fW.abX{ws:List (Str×V)}{fs:List (Str×Fd)}{f:Str}(h:fW K G ι H ws fs)(l:fs.lookup f=none):ws.lookup f=none:=by
 induction fs generalizing ws with
 | nil =>
  cases ws with
  | nil=>rfl
  | cons q ws=>exact h.elim
 | cons p fs ih =>
  obtain⟨g,d⟩:=p;cases ws with
  | nil=>exact h.elim
  | cons q ws =>
   obtain⟨g',v⟩:=q;obtain⟨e,h2,h3⟩:=h;subst e
   by_cases hb:(f == g')=true
   ·simp only [List.lookup,hb]at l;cases l
   ·have hb:(f == g')=false:=by simpa using hb
    simp only [List.lookup,hb]at l ⊢;exact ih h3 l
theorem fW.put{ws:List (Str×V)}{fs:List (Str×Fd)}{f:Str}{fd:Fd}{v:V}(h:fW K G ι H ws fs)(d:fK K G ι H v fd):fW K G ι H (fS f v ws) (putD f fd fs):=by
 induction fs generalizing ws with
 | nil =>
  cases ws with
  | nil=>exact⟨rfl,d,trivial⟩
  | cons q ws=>exact h.elim
 | cons p fs ih =>
  obtain⟨g,x⟩:=p;cases ws with
  | nil=>exact h.elim
  | cons q ws =>
   obtain⟨g',v'⟩:=q;obtain⟨e,h2,h3⟩:=h;subst e
   by_cases hg:g'=f
   ·simp only [fS,putD,if_pos hg];exact⟨rfl,d,h3⟩
   ·simp only [fS,putD,if_neg hg];exact⟨rfl,h2,ih h3⟩
theorem fW.len{ws:List (Str×V)}{fs:List (Str×Fd)}(h:fW K G ι H ws fs):ws.length=fs.length:=(qB.mp h).1
theorem fK.aaZ{v:V}{fd:Fd}{c:Cell}(h:fK K G ι H v fd)(hc:fd.cell=some c):∃b,v = .ref b∧b∉ι∧(∃o,H b=some o)∧lG K G ι H b c:=by
 cases fd with
 | val a=>cases hc
 | lst ds=>cases hc;obtain⟨b,xs,h1,h2,h3,h4,h5⟩:=h;exact⟨b,h1,h3,⟨_,h4⟩,h2,xs,h4,h5⟩
 | aX kvs=>cases hc;obtain⟨b,ws,h1,h2,h3,h4,h5,h6⟩:=h;exact⟨b,h1,h3,⟨_,h4⟩,h2,ws,h4,h5,h6⟩
theorem fK.yI{b:Addr}{fd:Fd}{c:Cell}(hc:fd.cell=some c)(hb:b∉ι)(h:lG K G ι H b c):fK K G ι H (.ref b) fd:=by
 cases fd with
 | val a=>cases hc
 | lst ds=>cases hc;obtain⟨h1,xs,h2,h3⟩:=h;exact⟨b,xs,rfl,h1,hb,h2,h3⟩
 | aX kvs=>cases hc;obtain⟨h1,ws,h2,h3,h4⟩:=h;exact⟨b,ws,rfl,h1,hb,h2,h3,h4⟩
theorem Fd.ai8{fd:Fd}{c:Cell}(hc:fd.cell=some c):fd.own=true:=by cases fd <;> first | rfl | cases hc
theorem Fd.ai9{fd:Fd}{c:Cell}(hc:fd.cell=some c):c.noOwn=true:=by cases fd <;> cases hc <;> rfl
theorem fK.lend{b:Addr}{v:V}{fd:Fd}(h:fK K G ι H v fd)(hb:fd.own=true→v ≠ .ref b):fK K G (ι++[b]) H v fd:=by
 cases fd with
 | val a=>exact Den.ext (Ext.cell b) h
 | lst ds =>
  obtain⟨b',xs,h1,h2,h3,h4,h5⟩:=h;exact⟨b',xs,h1,h2,by simp;exact⟨h3,fun e=>hb rfl (by rw [h1,e])⟩,h4,h5.ext (Ext.cell b)⟩
 | aX kvs =>
  obtain⟨b',ws,h1,h2,h3,h4,h5,h6⟩:=h;exact⟨b',ws,h1,h2,by simp;exact⟨h3,fun e=>hb rfl (by rw [h1,e])⟩,h4,h5,h6.ext (Ext.cell b)⟩
theorem Wd.unfold{s:Nat}{cls f:Str}{fs:List (Str×Fd)}{fd:Fd}{c:Cell}(w:Wd K G ι Ω H)(hs:Ω[s]? = some (.ins cls fs))(hf:fs.lookup f=some fd)(hc:fd.cell=some c) :
  ∃b,Wd K G (ι++[b]) (Ω.set s (.ins cls (putD f (.val (.aE Ω.length)) fs))++[c]) H:=by
 obtain⟨a,ha⟩:=w.addr hs;obtain⟨g,C,dx,ws,h0,h1,h2⟩:=w.aE s _ a hs ha;obtain⟨i0,e1,e2⟩:=II hf;obtain⟨q1,q2⟩:=qB.mp h2;have DG:i0<fs.length:=(cL.mp e1).1;obtain⟨⟨k0,v0⟩,e3⟩:∃p,ws[i0]? = some p:=⟨ws[i0]'(by omega),jK _⟩;obtain⟨rfl,o0⟩:=q2 i0 k0 v0 f fd e3 e1;obtain⟨b,rfl,hb,⟨o,ho⟩,hC⟩:=o0.aaZ hc;have Fh:fJ H ι Ω s i0 b:=⟨a,cls,fs,C,dx,ws,_,_,fd,ha,hs,h1,e1,Fd.ai8 hc,e3⟩;have jT:s<Ω.length:=(cL.mp hs).1;have hι:∀k,k<Ω.length→(ι++[b])[k]? = ι[k]?:=fun k hk=>fV (by rw [w.len];exact hk);have hΩ:∀k,k<Ω.length→(Ω.set s (.ins cls (putD k0 (.val (.aE Ω.length)) fs))++[c])[k]? = (Ω.set s (.ins cls (putD k0 (.val (.aE Ω.length)) fs)))[k]?:=fun k hk=>fV (by simpa using hk);refine⟨b,w.sub,?_,by simp [w.len],fun x hx=>?_,fun k c' a' z1 z2=>?_,fun b' k i k' i' z1 z2=>?_⟩
 ·rw [Aa];exact⟨w.inj,by simp,fun x hx y hy=>by simp at hy;subst hy;exact fun e=>hb (e ▸ hx)⟩
 ·rcases LZ.mp hx with h | h
  ·exact w.live x h
  ·simp at h;subst h;exact⟨o,ho⟩
 ·by_cases hk:k<Ω.length
  ·rw [hι k hk]at z2;rw [hΩ k hk]at z1
   by_cases mZ:k=s
   ·subst mZ;rw [fU jT]at z1;cases z1;rw [ha]at z2;cases z2;refine⟨g,C,dx,ws,h0,h1,qB.mpr ⟨by rw [e2];simpa using q1,fun j h v g' fd' y1 y2=>?_⟩⟩;rw [e2]at y2
    by_cases hj:j=i0
    ·subst hj;rw [fU DG]at y2;cases y2;rw [e3]at y1;cases y1;refine⟨rfl,?_⟩;simp only [fK,Den];exact⟨b,rfl,by rw [← w.len];simp⟩
    ·rw [iL (bT hj)]at y2;obtain⟨r1,r2⟩:=q2 j h v g' fd' y1 y2;refine⟨r1,r2.lend fun ow ev=>hj ?_⟩;subst ev;exact(w.sep b _ j _ i0 ⟨a,cls,fs,C,dx,ws,_,_,fd',ha,hs,h1,y2,ow,y1⟩ Fh).2
   ·rw [iL (bT mZ)]at z1;have q:=w.aE k c' a' z1 z2;cases c' with
    | lst ds=>obtain⟨y1,xs,y2,y3⟩:=q;exact⟨y1,xs,y2,y3.ext (Ext.cell b)⟩
    | aX kvs=>obtain⟨y1,eL,y2,y3,y4⟩:=q;exact⟨y1,eL,y2,y3,y4.ext (Ext.cell b)⟩
    | ins lQ kG =>
     obtain⟨y0,C',nD,eL,y1,y2,y3⟩:=q;obtain⟨p1,p2⟩:=qB.mp y3;refine⟨y0,C',nD,eL,y1,y2,qB.mpr ⟨p1,fun j h v g' fd' y4 y5=>?_⟩⟩;obtain⟨r1,r2⟩:=p2 j h v g' fd' y4 y5;refine⟨r1,r2.lend fun ow ev=>mZ ?_⟩;subst ev;exact(w.sep b k j s i0 ⟨a',lQ,kG,C',nD,eL,_,_,fd',z2,z1,y2,y5,ow,y4⟩ Fh).1
    | tab x pos qual=>exact q
    | dead=>trivial
  ·have eY:k=Ω.length:=by
    have:=(cL.mp z1).1;simp at this;omega
   subst eY;rw [← w.len]at z2;simp at z2;subst z2;simp at z1;subst z1;cases fd with
   | val x=>cases hc
   | lst ds=>cases hc;obtain⟨y1,xs,y2,y3⟩:=hC;exact⟨y1,xs,y2,y3.ext (Ext.cell b)⟩
   | aX kvs=>cases hc;obtain⟨y1,eL,y2,y3,y4⟩:=hC;exact⟨y1,eL,y2,y3,y4.ext (Ext.cell b)⟩
 ·have back:∀{k i},fJ H (ι++[b]) (Ω.set s (.ins cls (putD k0 (.val (.aE Ω.length)) fs))++[c]) k i b'→fJ H ι Ω k i b':=fun{k i} h=>by
   have h0':=h;obtain⟨a',lQ,kG,C',nD,eL,g',h',fd',y1,y2,y3,y4,y5,y6⟩:=h
   by_cases hk:k<Ω.length
   ·rw [hι k hk]at y1;rw [hΩ k hk]at y2
    by_cases mZ:k=s
    ·subst mZ;rw [fU jT]at y2;cases y2;rw [ha]at y1;cases y1;rw [h1]at y3;cases y3;rw [e2]at y4
     by_cases hj:i=i0
     ·subst hj;rw [fU DG]at y4;cases y4;cases y5
     ·rw [iL (bT hj)]at y4;exact⟨a,_,fs,C,dx,ws,g',h',fd',ha,hs,h1,y4,y5,y6⟩
    ·rw [iL (bT mZ)]at y2;exact⟨a',lQ,kG,C',nD,eL,g',h',fd',y1,y2,y3,y4,y5,y6⟩
   ·have eY:k=Ω.length:=by
     have:=(cL.mp y2).1;simp at this;omega
    subst eY;exact(h0'.no (by simp) (Fd.ai9 hc)).elim
  exact w.sep b' k i k' i' (back z1) (back z2)
theorem mM.get{n:Nat}:∀{fs:List (Str×Fd)} {i:Nat} {p:Str×Fd},mM n fs→fs[i]? = some p→oF n p.2
 | [],_,_,_,h=>by simp at h
 | _::_,0,_,c,h=>by simp at h;subst h;exact c.1
 | _::fs,i+1,_,c,h=>mM.get (fs:=fs) c.2 (by simpa using h)
theorem Wd.fold{s:Nat}{cls f:Str}{fs:List (Str×Fd)}{fd:Fd}{c:Cell}{Ωa:aI}(w:Wd K G ι (Ωa++[c]) H)(hs:Ωa[s]? = some (.ins cls fs))(hf:fs.lookup f=some (.val (.aE Ωa.length)))(hc:fd.cell=some c)
  (hk:∀k c',k≠s→Ωa[k]? = some c'→AJ Ωa.length c') (hfs:mM Ωa.length (putD f fd fs)):Wd K G (ι.take Ωa.length) (Ωa.set s (.ins cls (putD f fd fs))) H:=by
 have jT:s<Ωa.length:=(cL.mp hs).1;have hlen:ι.length=Ωa.length+1:=by rw [w.len];simp
 have hΩ:∀k,k<Ωa.length→(Ωa++[c])[k]? = Ωa[k]?:=fun k hk=>fV hk;have hι:∀k,k<Ωa.length→(ι.take Ωa.length)[k]? = ι[k]?:=fun k hk=>by rw [FA,if_pos hk]
 obtain⟨b,hb⟩:∃b,ι[Ωa.length]? = some b:=⟨ι[Ωa.length]'(by omega),jK _⟩;have eι:ι=ι.take Ωa.length++[b]:=by
  have:=List.take_append_getElem (l:=ι) (i:=Ωa.length) (by omega);rw [jK (show Ωa.length<ι.length by omega)]at hb;cases hb;rw [List.take_append_getElem,List.take_of_length_le (by omega)]
 have hbn:b∉ι.take Ωa.length:=fun z=>by
  have nd:=w.inj;rw [eι,Aa]at nd;exact nd.2.2 b z b (by simp) rfl
 have sub:∀x,x∉ι→x∉ι.take Ωa.length:=fun x hx z=>hx (List.mem_of_mem_take z);have ha:∃a,ι[s]? = some a:=w.addr (show(Ωa++[c])[s]? = some (.ins cls fs)by rw [hΩ s jT];exact hs);obtain⟨a,ha⟩:=ha;obtain⟨g,C,dx,ws,h0,h1,h2⟩:=w.aE s _ a (by rw [hΩ s jT];exact hs) ha;obtain⟨i0,e1,e2⟩:=II hf;obtain⟨q1,q2⟩:=qB.mp h2;have DG:i0<fs.length:=(cL.mp e1).1;have hcb:=w.aE Ωa.length c b (by simp) hb;refine⟨w.sub,w.inj.sublist (List.take_sublist ..),by simp [hlen],fun x hx=>w.live x (List.mem_of_mem_take hx),fun k c' a' z1 z2=>?_,fun b' k i k' i' z1 z2=>?_⟩
 ·have yU:k<Ωa.length:=by simpa using(cL.mp z1).1
  rw [hι k yU]at z2
  by_cases mZ:k=s
  ·subst mZ;rw [fU jT]at z1;cases z1;rw [ha]at z2;cases z2;refine⟨g,C,dx,ws,h0,h1,qB.mpr ⟨by rw [e2];simpa using q1,fun j h v g' fd' y1 y2=>?_⟩⟩;have Kj:oF Ωa.length fd':=hfs.get y2;rw [e2]at y2
   by_cases hj:j=i0
   ·subst hj;rw [fU DG]at y2;cases y2;obtain⟨r1,r2⟩:=q2 j h v _ _ y1 e1;refine⟨r1,?_⟩;simp only [fK,Den]at r2;obtain⟨b2,rfl,oY⟩:=r2;rw [hb]at oY;cases oY;exact fK.yI hc hbn (hcb.cut hι sub (by cases fd <;> cases hc <;> exact Kj))
   ·rw [iL (bT hj)]at y2;obtain⟨r1,r2⟩:=q2 j h v g' fd' y1 y2;exact⟨r1,r2.cut hι sub Kj⟩
  ·rw [iL (bT mZ)]at z1;exact(w.aE k c' a' (by rw [hΩ k yU];exact z1) z2).cut hι sub (hk k c' mZ z1)
 ·
  have back:∀{k i},fJ H (ι.take Ωa.length) (Ωa.set s (.ins cls (putD f fd fs))) k i b'→(fJ H ι (Ωa++[c]) k i b'∧b'∉ι)∨(k=s∧i=i0∧b'=b):=fun{k i} h=>by
   obtain⟨a',lQ,kG,C',nD,eL,g',h',fd',y1,y2,y3,y4,y5,y6⟩:=h;have yU:k<Ωa.length:=by simpa using(cL.mp y2).1
   rw [hι k yU]at y1;have out:∀{lQ kG eL C' nD fd' g' h'},(Ωa++[c])[k]? = some (.ins lQ kG)→H a'=some (.ins C' nD eL)→kG[i]? = some (g',fd')→fd'.own=true→eL[i]? = some (h',V.ref b')→b'∉ι:=fun{_ _ _ _ _ fdx _ _} x1 x2 x3 x4 x5=>by
    obtain⟨_,_,_,ws2,_,p1,p2⟩:=w.aE k _ a' x1 y1;rw [x2]at p1;cases p1;obtain⟨_,r⟩:=(qB.mp p2).2 i _ _ _ _ x5 x3;cases fdx with
    | val x=>cases x4
    | lst ds=>obtain⟨b3,_,t1,_,t2,_⟩:=r;cases t1;exact t2
    | aX kvs=>obtain⟨b3,_,t1,_,t2,_⟩:=r;cases t1;exact t2
   by_cases mZ:k=s
   ·subst mZ;rw [fU jT]at y2;cases y2;rw [ha]at y1;cases y1;rw [h1]at y3;cases y3;rw [e2]at y4
    by_cases hj:i=i0
    ·subst hj
     right
     rw [fU DG]at y4;cases y4;obtain⟨r1,r2⟩:=q2 i _ _ _ _ y6 e1;simp only [fK,Den]at r2;obtain⟨b2,eb,oY⟩:=r2;rw [hb]at oY;cases oY;cases eb;exact⟨rfl,rfl,rfl⟩
    ·rw [iL (bT hj)]at y4;have hJ:(Ωa++[c])[k]? = some (.ins cls fs):=by rw [hΩ k yU];exact hs
     exact .inl ⟨⟨a,_,fs,C,dx,ws,g',h',fd',ha,hJ,h1,y4,y5,y6⟩,out hJ h1 y4 y5 y6⟩
   ·rw [iL (bT mZ)]at y2;have hJ:(Ωa++[c])[k]? = some (.ins lQ kG):=by rw [hΩ k yU];exact y2
    exact .inl ⟨⟨a',lQ,kG,C',nD,eL,g',h',fd',y1,hJ,y3,y4,y5,y6⟩,out hJ y3 y4 y5 y6⟩
  have Ih:b∈ι:=oA hb
  rcases back z1 with⟨x1,x2⟩ | ⟨x1,x2,x3⟩ <;> rcases back z2 with⟨y1,y2⟩ | ⟨y1,y2,y3⟩
  ·exact w.sep b' k i k' i' x1 y1
  ·subst y3;exact absurd Ih x2
  ·subst x3;exact absurd Ih y2
  ·exact⟨x1.trans y1.symm,x2.trans y2.symm⟩
end
def Ls(s:Nat)(f:Str)(Ω Ω1:aI):Prop:=∃cls fs fd c,Ω[s]? = some (.ins cls fs)∧fs.lookup f=some fd∧fd.cell=some c∧Ω1=Ω.set s (.ins cls (putD f (.val (.aE Ω.length)) fs))++[c]
def Folds(s:Nat)(f:Str)(n:Nat)(Ω2 Ω':aI):Prop:=∃Ωa c cls fs fd,Ω2=Ωa++[c]∧Ωa.length=n∧Ωa[s]? = some (.ins cls fs)∧fs.lookup f=some (.val (.aE n))∧fd.cell=some c ∧
 (∀k c',k≠s→Ωa[k]? = some c'→AJ n c')∧mM n (putD f fd fs)∧Ω'=Ωa.set s (.ins cls (putD f fd fs))
structure Nb(Ω:aI)(ρ:Ev):Prop where
 aE:∀(k:Nat) (c:Cell),Ω[k]? = some c→AJ Ω.length c
 env:∀(i:Nat) (d:A),ρ[i]? = some (some d)→Cl Ω.length d
section
variable{K:Frag}{G H:Hp}{ι:List Addr}{Ω Ω1 Ω2 Ω':aI}{σ:L2.St}{ρ:Ev}{W:WX}{s:Nat}{f:Str}
theorem Wd.KN(w:Wd K G ι Ω H)(r:eW K G ι σ ρ):Nb Ω ρ where
 aE:=fun k c h=>by
  obtain⟨a,ha⟩:=w.addr h;have:=(w.aE k c a h ha).cl;rwa [w.len]at this
 env:=fun i d h=>by
  obtain⟨v,_,q⟩:=r.2 i d h;have:=q.cl;rwa [w.len]at this
theorem Wd.Oy(w:Wd K G ι Ω H)(h:Ls s f Ω Ω1):∃b,Wd K G (ι++[b]) Ω1 H:=by
 obtain⟨cls,fs,fd,c,h1,h2,h3,rfl⟩:=h;exact w.unfold h1 h2 h3
theorem ahC{G':Hp}{ι':List Addr}{b:Addr}{n:Nat}(hl:ι.length=n)(e:Ext G (ι++[b]) G' ι'):Ext G ι G' (ι'.take n):=⟨e.same,fun k x h=>by
 have hk:=(cL.mp h).1;rw [FA,if_pos (by omega)];exact e.pre k x (by rw [fV hk];exact h)⟩
theorem Wd.ag2{n:Nat}(w:Wd K G ι Ω2 H)(h:Folds s f n Ω2 Ω'):Wd K G (ι.take n) Ω' H:=by
 obtain⟨Ωa,c,cls,fs,fd,rfl,rfl,h3,h4,h5,h6,h7,rfl⟩:=h;exact w.fold h3 h4 h5 h6 h7
theorem Pz{ι':List Addr}{n:Nat}:∀k,k<n→(ι'.take n)[k]? = ι'[k]?:=fun k hk=>by rw [FA,if_pos hk]
theorem Jq{σ':L2.St}{ρ':Ev}{G':Hp}{ι':List Addr}{n:Nat}(r:eW K G' ι' σ' ρ')(hc:∀(i:Nat) (d:A),ρ'[i]? = some (some d)→Cl n d):eW K G' (ι'.take n) σ' ρ' :=
 ⟨r.1,fun i d h=>let ⟨v,h1,h2⟩:=r.2 i d h; ⟨v,h1,h2.cut Pz (hc i d h)⟩⟩
theorem Zh{b:Addr}{D:Ends}{ρ':Ev}(w:Wd K G ι Ω H)(hF:Folds s f Ω.length Ω2 Ω')(hc:∀(i:Nat) (d:A),ρ'[i]? = some (some d)→Cl Ω.length d)(h:dA K W G ι D (some (.nx,ρ',Ω'))):dA K W G (ι++[b]) D (some (.nx,ρ',Ω2)):=by
 intro σ' H' G' ι' e w' r';exact h σ' H' G' (ι'.take Ω.length) (ahC w.len e) (w'.ag2 hF) (Jq r' hc)
end
section
variable{X:Cx}{W:WX}{e:Expr}{tg:Expr}{st:Stmt}{g d:Ev→Mo A}{gb db:Ev→Mo Bool}{gs ds:MS}{gt dt:A→MS}
theorem Nu(h:VS X W st gs)(hd:∀ρ Ω r,Nb Ω ρ→ds ρ Ω=some r→∃s f Ω1 Ω2,Ls s f Ω Ω1∧gs ρ Ω1=some (.nx,r.2.1,Ω2)∧Folds s f Ω.length Ω2 r.2.2∧(∀(i:Nat) (d:A),r.2.1[i]? = some (some d)→Cl Ω.length d)∧r.1 = .nx):VS X W st ds:=by
 obtain⟨t,p,sm⟩:=h;refine⟨t,p,fun G ι Ω H σ ρ D w r h=>?_⟩;cases e:ds ρ Ω with
 | none=>rw [e]at h;exact h.elim
 | some q =>
  obtain⟨s,f,Ω1,Ω2,h1,h2,h3,h4,h5⟩:=hd ρ Ω q (w.KN r) e;obtain⟨b,wb⟩:=w.Oy h1;obtain⟨q1,q2,q3⟩:=q;simp only at h2 h3 h4 h5;subst h5;rw [e]at h;refine sm G (ι++[b]) Ω1 H σ ρ D wb (r.ext (Ext.cell b)) ?_;rw [h2];exact Zh w h3 h4 h
end
def cM(K:Frag)(cs:List Str)(f:Str):Prop:=∀cls∈cs,∃C,nsIn K mainGlobals cls=some (some (.ref C))∧kI K C∧wY K C f
@[simp] def WN(cs:List Str)(f:Str)(a:A):Mo A:=fun Ω=>match a with
 | .aE s=>match Ω[s]? with
  | some (.ins cls fs)=>if cls∈cs then match fs.lookup f with
   | some (.val b)=>some (.ok b,Ω)
   | _=>none else none
  | _=>none
 | _=>none
@[simp] def gB(cs:List Str)(f:Str)(fe:Ev→Mo A):Ev→Mo A:=fun ρ=>mb (fe ρ) (WN cs f)
@[simp] def lZ(cs:List Str)(f:Str)(fo fv:Ev→Mo A):MS:=fun ρ=>sM (fv ρ) ρ fun b=>sM (fo ρ) ρ fun a Ω=>match a with
 | .aE s=>match Ω[s]? with
  | some (.ins cls fs)=>if cls∈cs∧fs.length<1000 then some (.nx,ρ,Ω.set s (.ins cls (putD f (.val b) fs)))else none
  | _=>none
 | _=>none
section
variable{K:Frag}{G H:Hp}{ι:List Addr}{Ω:aI}
theorem Wd.ins(w:Wd K G ι Ω H){s:Nat}{cls:Str}{fs:List (Str×Fd)}{v:V}(h:Ω[s]? = some (.ins cls fs))(d:Den K G ι v (.aE s)):∃a C dx,∃ws:List (Str×V),v = .ref a∧ι[s]? = some a∧G a=none∧nsIn K mainGlobals cls=some (some (.ref C))∧H a=some (.ins C dx ws)∧fW K G ι H ws fs:=by
 simp only [Den]at d;obtain⟨a,rfl,ha⟩:=d;obtain⟨g,C,dx,ws,h1,h2,h3⟩:=w.aE s _ a h ha;exact⟨a,C,dx,ws,rfl,ha,g,h1,h2,h3⟩
theorem Et{f:Str}{v:V}{b:A}:∀{ws:List (Str×V)} {fs:List (Str×Fd)} {i:Nat} {g h:Str} {fd:Fd} {x:V},fW K G ι H ws fs→(putD f (.val b) fs)[i]? = some (g,fd)→fd.own=true→(fS f v ws)[i]? = some (h,x)→fs[i]? = some (g,fd)∧ws[i]? = some (h,x)
 | [],[],i,g,h,fd,x,_,y,o,_=>by
  cases i with
  | zero=>simp [putD]at y;obtain⟨_,rfl⟩:=y;cases o
  | succ i=>simp [putD]at y
 | [],_::_,_,_,_,_,_,q,_,_,_=>q.elim
 | _::_,[],_,_,_,_,_,q,_,_,_=>q.elim
 | (k,u)::ws,(k',d)::fs,i,g,h,fd,x,q,y,o,z=>by
  obtain⟨rfl,q2,q3⟩:=q
  by_cases e:k=f
  ·simp only [putD,fS,if_pos e]at y z;cases i with
   | zero=>simp at y;obtain⟨_,rfl⟩:=y;cases o
   | succ i=>exact⟨by simpa using y,by simpa using z⟩
  ·simp only [putD,fS,if_neg e]at y z;cases i with
   | zero=>exact⟨by simpa using y,by simpa using z⟩
   | succ i =>
    have:=Et (f:=f) (v:=v) (b:=b) (i:=i) q3 (by simpa using y) o (by simpa using z);exact⟨by simpa using this.1,by simpa using this.2⟩
theorem Wd.Wi(w:Wd K G ι Ω H){s:Nat}{cls f:Str}{fs:List (Str×Fd)}{a C dx:Addr}{ws:List (Str×V)}{v:V}{b:A}(h:Ω[s]? = some (.ins cls fs))(ha:ι[s]? = some a)(hg:G a=none)(h0:nsIn K mainGlobals cls=some (some (.ref C)))
  (h1:H a=some (.ins C dx ws)) (h2:fW K G ι H ws fs) (d:Den K G ι v b):Wd K G ι (Ω.set s (.ins cls (putD f (.val b) fs))) (upd H a (.ins C dx (fS f v ws))):=by
 have jT:s<Ω.length:=(cL.mp h).1;have ho:∀b o,b∉ι→G b=none→H b=some o→b∉ι∧G b=none∧upd H a (.ins C dx (fS f v ws)) b=some o:=fun b o x y z=>by
  have nb:b≠a:=fun e=>by subst e;exact x (yK ha)
  exact⟨x,y,by rw [aT nb];exact z⟩
 have kW:fW K G ι (upd H a (.ins C dx (fS f v ws))) ws fs:=h2.map fun _ _ q=>q.mono (Ext.refl _ _) ho;refine⟨fun b u q=>?_,w.inj,by simp [w.len],fun b hb=>?_,fun j c' b z1 z2=>?_,fun b2 j i j' i' z1 z2=>?_⟩
 ·have e:b≠a:=fun e=>by subst e;rw [hg]at q;cases q
  rw [aT e];exact w.sub _ _ q
 ·by_cases e:b=a
  ·subst e;exact⟨_,cW⟩
  ·rw [aT e];exact w.live b hb
 ·by_cases hj:j=s
  ·subst hj;rw [fU jT]at z1;cases z1;rw [ha]at z2;cases z2;exact⟨hg,C,dx,_,h0,cW,kW.put d⟩
  ·rw [iL (bT hj)]at z1;have cQ:b≠a:=fun e=>by subst e;exact hj (tI w.inj z2 ha)
   exact(w.aE j c' b z1 z2).mono (Ext.refl _ _) rfl (aT cQ) ho
 ·have back:∀{j i},fJ (upd H a (.ins C dx (fS f v ws))) ι (Ω.set s (.ins cls (putD f (.val b) fs))) j i b2→fJ H ι Ω j i b2:=fun{j i} q=>by
   obtain⟨a',lQ,kG,C',nD,eL,g',h',fd',y1,y2,y3,y4,y5,y6⟩:=q
   by_cases hj:j=s
   ·subst hj;rw [fU jT]at y2;cases y2;rw [ha]at y1;cases y1;rw [cW]at y3;cases y3;have pi:=Et h2 y4 y5 y6;exact⟨a,cls,fs,C,dx,ws,g',h',fd',ha,h,h1,pi.1,y5,pi.2⟩
   ·rw [iL (bT hj)]at y2;have cQ:a'≠a:=fun e=>by subst e;exact hj (tI w.inj y1 ha)
    rw [aT cQ]at y3;exact⟨a',lQ,kG,C',nD,eL,g',h',fd',y1,y2,y3,y4,y5,y6⟩
  exact w.sep b2 j i j' i' (back z1) (back z2)
end
section
variable{X:Cx}{W:WX}{e o value:Expr}{f:Str}{cs:List Str}{pos pos':Pos}{fe fo fv:Ev→Mo A}
theorem mP(h:VE X W e fe)(hc:cM X.K cs f)(hb:attributeBase e f X.env (eval e X.env)=eval e X.env:=by rfl):VE X W (.Attribute e f pos) (gB cs f fe):=by
 obtain⟨t,p,s⟩:=h;refine⟨_,BZ p hb,fun G ι Ω H σ ρ Q w r h=>?_⟩;refine s G ι Ω H σ ρ _ w r (aY.mb h fun a Ω1 v H1 G1 ι1 x1 w1 d1 h1=>?_);unfold WN at h1;cases a with
 | aE k =>
  simp only at h1;cases e2:Ω1[k]? with
  | none=>rw [e2]at h1;exact h1.elim
  | some c =>
   rw [e2]at h1;cases c with
   | ins cls fs =>
    simp only at h1
    by_cases fH:cls∈cs
    ·rw [if_pos fH]at h1;cases e3:fs.lookup f with
     | none=>rw [e3]at h1;exact h1.elim
     | some fd =>
      rw [e3]at h1;cases fd with
      | val b =>
       obtain⟨a,C,dx,ws,rfl,ha,hg,h0,hH,hF⟩:=w1.ins e2 d1;obtain⟨C',q0,q1,q2⟩:=hc cls fH;rw [h0]at q0;cases q0;obtain⟨u,l,du⟩:=hF.look e3;exact⟨a,C,dx,ws,u,rfl,hH,q1,q2,l,h1 u H1 G1 ι1 (Ext.refl _ _) w1 du⟩
      | _=>exact h1.elim
    ·rw [if_neg fH]at h1;exact h1.elim
   | _=>exact h1.elim
 | _=>exact h1.elim
theorem qR(ho:VE X W o fo)(hv:VE X W value fv)(hc:cM X.K cs f)(hs:swapsWith value (some (.Attribute o f pos')) pos.line X.env=pure false:=by rfl):VS X W (.Assign [.Attribute o f pos'] value pos) (lZ cs f fo fv):=by
 obtain⟨t,p,s⟩:=ho;obtain⟨u,q,z⟩:=hv;refine⟨_,Zd p q hs,fun G ι Ω H σ ρ D w r h=>?_⟩;refine z G ι Ω H σ ρ _ w r (dA.sM h r fun b Ω1 y H1 G1 ι1 x1 w1 d1 h1=>?_);refine s G1 ι1 Ω1 H1 σ ρ _ w1 (r.ext x1) (dA.sM h1 (r.ext x1) fun a Ω2 v H2 G2 ι2 x2 w2 d2 h2=>?_);cases a with
 | aE k =>
  simp only at h2;cases e2:Ω2[k]? with
  | none=>rw [e2]at h2;exact h2.elim
  | some c =>
   rw [e2]at h2;cases c with
   | ins cls fs =>
    simp only at h2
    by_cases fH:cls∈cs∧fs.length<1000
    ·rw [if_pos fH]at h2;obtain⟨a,C,dx,ws,rfl,ha,hg,h0,hH,hF⟩:=w2.ins e2 d2;obtain⟨C',q0,q1,q2⟩:=hc cls fH.1;rw [h0]at q0;cases q0;refine⟨a,C,dx,ws,rfl,hH,q1,q2,by rw [hF.len];exact fH.2,?_⟩;exact pN (w2.Wi e2 ha hg h0 hH hF (d1.ext x2)) ((r.ext x1).ext x2) h2
    ·rw [if_neg fH]at h2;exact h2.elim
   | _=>exact h2.elim
 | _=>exact h2.elim
end
end V2
namespace L2
open PySem PySem.Spec PyProof.Rows
section
variable{X:Cx}{W:WX}{k:Nat}{f C:Addr}{fd:FuncData}{ps:List Str}{sp:Sp}{dvs:List V}{ds:List Value}{x m:Str}{p pos apos:Pos}{e o:Expr}{es:List Expr}{ta:TE}{t:TA}
theorem QC{pins:List (Addr×Obj)}{σ:St}{H:Hp}{s:Shared}{Q:VK}{us:List Value}{vs:List V}(T:nG X W)(F:fQ X.prog X.w X.K X.mg X.base (kJ X.prog X.w) k f fd ps sp)(hr:bN k X.A)(hb:Binds X.K fd ps ds)(hd:Vals dvs ds)
  (I:Inv X pins σ H s) (r:Vals vs us) (h:sp (vs++dvs) H Q fun cls dx H'=>W σ cls dx H'):wpAny (model X.prog X.w) X.A (call (.ref f) us) (EP X pins σ Q) X.xe s:=by
 have r2:Vals (vs++dvs) (us++ds):=r.append hd;have hl:(us++ds).length=ps.length:=by rw [← r2.length];exact F.len _ _ _ _ h
 refine wpAny_call (rX (F.run X.A X.stack s H ⟨us,[]⟩ (us++ds) (vs++dvs) Q _ hr I.KG (hb s us I.eQ hl) r2 h) fun r s' hq=>?_);cases r with
 | error ev =>
  obtain⟨a,cls,dx,H',rfl,os,bare,un,aH,ex,q'⟩:=hq;have I2:=(I.EM os un aH bare (fun b z=>absurd z (by simp))).Ey;exact T.to _ _ ⟨σ,H',a,cls,dx,rfl,I2,(ex.first I T.ex).any,q'⟩
 | ok fl =>
  cases fl with
  | ret u=>exact I.after hq
  | next=>exact False.elim hq
  | brk=>exact False.elim hq
  | cont=>exact False.elim hq
def GY(X:Cx)(W:WX)(m:Str)(ta:TE)(t:TA):TE:=fun σ H Q=>ta σ H fun x H1=>∃a C dx fs k f fd ps ds dvs sp,x = .ref a∧H1 a=some (.ins C dx fs)∧fs.lookup m=none∧kI X.K C∧Meth X.K C m f ∧
 fQ X.prog X.w X.K X.mg X.base (kJ X.prog X.w) k f fd ps sp∧bN k X.A∧Binds X.K fd ps ds∧Vals dvs ds∧t σ H1 fun vs H2=>sp (.ref a::vs++dvs) H2 Q fun cls dx H'=>W σ cls dx H'
theorem Zz{pl:Sem Bool}(T:nG X W)(he:PE X o ta)(ha:PA X (e::es) t)
  (gF:starEach (e::es) X.env=(false,eval e X.env)::starEach es X.env:=by rfl) (dF:(backTo pos (starEach es X.env)).any (·.1)=false:=by rfl)
  (ht:eval (.Call (.Attribute o m apos) (e::es) [] pos) X.env=(do
   let ov ← eval o X.env
   standAt apos.atName
   let (f,first) ← holding [ov] (getMethod ov m pl)
   callWith pos f first (backTo pos (starEach (e::es) X.env)) (backToKw pos (keywordEach [] X.env))):=by rfl) :
  PE X (.Call (.Attribute o m apos) (e::es) [] pos) (GY X W m ta t):=by
 intro pins s σ H Q I h;refine methodCall_KW (pl:=pl) (aW (he pins s σ H _ I h) fun u s1 ⟨x,H1,I1,rx,a,C,dx,fs,k,f,fd,ps,ds,dvs,sp,ex,ea,l,c,hm,F,hr,hb,hd,q⟩=>?_) ht;subst ex;obtain rfl:u=Value.ref a:=rx;refine WH I1 ea c hm l ?_;refine callWith_K (first:=[.ref a]) (h₀:=X.base) I.ok.mod.tL hm.kp (aW (ha pos pins s1 σ H1 _ I1 q) fun us s2 ⟨vs,H2,I2,r,q2⟩=>⟨I2.eQ,?_⟩) gF dF;exact QC (us := .ref a::us) (vs := .ref a::vs) T F hr hb hd I2 (.cons rfl r) q2
theorem Zy{pl:Sem Bool}(T:nG X W)(he:PE X o ta)
  (ht:eval (.Call (.Attribute o m apos) [] [] pos) X.env=(do
   let ov ← eval o X.env
   standAt apos.atName
   let (f,first) ← holding [ov] (getMethod ov m pl)
   callWith pos f first (backTo pos (starEach [] X.env)) (backToKw pos (keywordEach [] X.env))):=by rfl) :
  PE X (.Call (.Attribute o m apos) [] [] pos) (GY X W m ta Cr):=by
 intro pins s σ H Q I h;refine methodCall_KW (pl:=pl) (aW (he pins s σ H _ I h) fun u s1 ⟨x,H1,I1,rx,a,C,dx,fs,k,f,fd,ps,ds,dvs,sp,ex,ea,l,c,hm,F,hr,hb,hd,q⟩=>?_) ht;subst ex;obtain rfl:u=Value.ref a:=rx;refine WH I1 ea c hm l ?_;exact PySem.W.callWith_K0 (first:=[.ref a]) I1.eQ hm.kp (QC (us:=[.ref a]) (vs:=[.ref a]) T F hr hb hd I1 (.cons rfl .nil) q)
structure Ax(K:Frag)(R:Addr)(m:Str)(f:Addr):Prop where
 reads:readsIn K R (.type "type")=true
 find:findCls K (.ref R) (.type "type") m=some (.val (.ref f))
 ga:specialIn K (.ref R) "__getattribute__" = some (some (.builtin "type.__getattribute__"))
 kp:keepIn K (.ref f)=true
theorem aaT{pl:Sem Bool}{R:Addr}{rk:Str}{np:Pos}(T:nG X W)(B:Ax X.K R m f)(hmR:X.mg rk=some (.ref R))(hg:Gl X rk)(F:fQ X.prog X.w X.K X.mg X.base (kJ X.prog X.w) k f fd ps sp)(hr:bN k X.A)(hb:Binds X.K fd ps [])(ha:PA X (e::es) t)
  (jD:(rk == ("__debug__" : Str))=false:=by decide) (gF:starEach (e::es) X.env=(false,eval e X.env)::starEach es X.env:=by rfl) (dF:(backTo pos (starEach es X.env)).any (·.1)=false:=by rfl)
  (ht:eval (.Call (.Attribute (.Name rk np) m apos) (e::es) [] pos) X.env=(do
   let ov ← eval (.Name rk np) X.env
   standAt apos.atName
   let (f,first) ← holding [ov] (getMethod ov m pl)
   callWith pos f first (backTo pos (starEach (e::es) X.env)) (backToKw pos (keywordEach [] X.env))):=by rfl) :
  PE X (.Call (.Attribute (.Name rk np) m apos) (e::es) [] pos) (Cw sp W t):=by
 intro pins s σ H Q I h;refine methodCall_KW (pl:=pl) (IP I hg hmR ?_ jD) ht;refine PySem.W.method_cls I.eQ B.ga (PySem.W.cls_value I.eQ B.reads B.find (Ik (v := .ref f) rfl) ?_);have I0:=I.tok (s.toks+1);refine callWith_K (first:=[]) (h₀:=X.base) I.ok.mod.tL B.kp (aW (ha pos pins _ σ H _ I0 h) fun us s2 ⟨vs,H2,I2,r,q2⟩=>⟨I2.eQ,?_⟩) gF dF;have q3:sp (vs++[]) H2 Q fun cls dx H'=>W σ cls dx H':=by rw [FE];exact q2
 exact QC (us:=us) (vs:=vs) (dvs:=[]) T F hr hb .nil I2 r q3
end
end L2
namespace V2
open PySem PySem.Spec PyProof.Rows L2
@[simp] def cE(n:Nat)(das:List A)(F:List A→Mo A):List A→Mo A:=fun as=>if as.length+das.length=n then F (as++das)else stuck
structure bU(P:Program)(w:World)(K:Frag)(mg:Str→Option Value)(base:Heap)(cls m:Str)(k:Nat)(n:Nat)(das:List A)(F:List A→Mo A):Prop where
 ex:∃C f fd ps ds dvs,nsIn K mainGlobals cls=some (some (.ref C))∧kI K C∧Meth K C m f∧ps.length=n∧fQ P w K mg base (kJ P w) k f fd ps (pJ K ps.length F)∧Binds K fd ps ds∧Vals dvs ds∧∀G ι,aK K G ι dvs das
@[simp] def WL(m:Str)(tab:List (Str×(List A→Mo A)))(fs:Mo (List A))(a:A):Mo A:=fun Ω=>match a with
 | .aE s=>match Ω[s]? with
  | some (.ins cls WQ)=>match tab.lookup cls,WQ.lookup m with
   | some F,none=>mb fs (fun as=>F (.aE s::as)) Ω
   | _,_=>none
  | _=>none
 | _=>none
@[simp] def cG(m:Str)(tab:List (Str×(List A→Mo A)))(fo:Ev→Mo A)(fs:Ev→Mo (List A)):Ev→Mo A:=fun ρ=>mb (fo ρ) (WL m tab (fs ρ))
def bR(X:Cx)(m:Str)(tab:List (Str×(List A→Mo A))):Prop:=∀cls F,tab.lookup cls=some F→∃k n das F0,F=cE n das F0∧bN k X.A∧bU X.prog X.w X.K X.mg X.base cls m k n das F0
section
variable{X:Cx}{W:WX}{m:Str}{tab:List (Str×(List A→Mo A))}{o e:Expr}{es:List Expr}{fo:Ev→Mo A}{fs:Ev→Mo (List A)}{pos apos:Pos}
theorem bR.nil:bR X m []:=fun cls F h=>by simp at h
theorem bR.cons{cls:Str}{k n:Nat}{das:List A}{F:List A→Mo A}(h:bU X.prog X.w X.K X.mg X.base cls m k n das F)(hr:bN k X.A)(t:bR X m tab):bR X m ((cls,cE n das F)::tab):=fun c F' q=>by
 by_cases e:c=cls
 ·subst e;simp [List.lookup]at q;exact⟨k,n,das,F,q.symm,hr,h⟩
 ·have hb:(c == cls)=false:=qF.mpr e;simp only [List.lookup,hb]at q;exact t c F' q
theorem OR{ta:TE}{t:TA}(vL:bR X m tab)(s1:dX X.K (Den X.K) W ta fo)(s2:dX X.K (aK X.K) W t fs):dX X.K (Den X.K) W (GY X W m ta t) (cG m tab fo fs):=by
 intro G ι Ω H σ ρ Q w r h;refine s1 G ι Ω H σ ρ _ w r (aY.mb h fun a Ω1 v H1 G1 ι1 x1 w1 d1 h1=>?_);unfold WL at h1;cases a with
 | aE s =>
  simp only at h1;cases e2:Ω1[s]? with
  | none=>rw [e2]at h1;exact h1.elim
  | some c =>
   rw [e2]at h1;cases c with
   | ins cls WQ =>
    simp only at h1;cases e3:tab.lookup cls with
    | none=>rw [e3]at h1;exact h1.elim
    | some F =>
     rw [e3]at h1;cases e4:WQ.lookup m with
     | some _=>rw [e4]at h1;exact h1.elim
     | none =>
      rw [e4]at h1;obtain⟨k,n,das,F0,rfl,hr,MV⟩:=vL cls F e3;obtain⟨C,f,fd,ps,ds,dvs,hC,fH,JF,hn,FO,hb,hv,hda⟩:=MV.ex;obtain⟨a,C',dx,ws,rfl,ha,hg,h0,hH,hF⟩:=w1.ins e2 d1;rw [hC]at h0;cases h0;refine⟨a,C,dx,ws,k,f,fd,ps,ds,dvs,_,rfl,hH,hF.abX e4,fH,JF,FO,hr,hb,hv,?_⟩;refine s2 G1 ι1 Ω1 H1 σ ρ _ w1 (r.ext x1) (aY.mb h1 fun as Ω2 vs H2 G2 ι2 x2 w2 d2 h2=>?_);unfold cE at h2;split at h2
      ·rename_i hl;have dd:aK X.K G2 ι2 (.ref a::vs++dvs) (.aE s::as++das):=(aK.cons (by simp only [Den]at d1 ⊢;obtain⟨a2,e5,e6⟩:=d1;exact⟨a2,e5,x2.pre _ _ e6⟩) d2).append (hda _ _);refine⟨?_,G2,ι2,Ω2,.aE s::as++das,w2,dd,XX h2 (Ext.refl _ _)⟩;have:=dd.length;rw [this,hn];simp only [qK,nH]at hl ⊢;omega
      ·exact h2.elim
   | _=>exact h1.elim
 | _=>exact h1.elim
theorem uO{pl:Sem Bool}(T:nG X W)(vL:bR X m tab)(ho:VE X W o fo)(ha:VA X W (e::es) fs)
  (gF:starEach (e::es) X.env=(false,eval e X.env)::starEach es X.env:=by rfl) (dF:(backTo pos (starEach es X.env)).any (·.1)=false:=by rfl)
  (ht:eval (.Call (.Attribute o m apos) (e::es) [] pos) X.env=(do
   let ov ← eval o X.env
   standAt apos.atName
   let (f,first) ← holding [ov] (getMethod ov m pl)
   callWith pos f first (backTo pos (starEach (e::es) X.env)) (backToKw pos (keywordEach [] X.env))):=by rfl) :
  VE X W (.Call (.Attribute o m apos) (e::es) [] pos) (cG m tab fo fs):=by
 obtain⟨ta,p1,s1⟩:=ho;obtain⟨t,p2,s2⟩:=ha;exact⟨_,Zz T p1 p2 gF dF ht,OR vL s1 s2⟩
theorem lH{pl:Sem Bool}(T:nG X W)(vL:bR X m tab)(ho:VE X W o fo)
  (ht:eval (.Call (.Attribute o m apos) [] [] pos) X.env=(do
   let ov ← eval o X.env
   standAt apos.atName
   let (f,first) ← holding [ov] (getMethod ov m pl)
   callWith pos f first (backTo pos (starEach [] X.env)) (backToKw pos (keywordEach [] X.env))):=by rfl) :
  VE X W (.Call (.Attribute o m apos) [] [] pos) (cG m tab fo a0):=by
 obtain⟨ta,p1,s1⟩:=ho;refine⟨_,Zy T p1 ht,OR vL s1 ?_⟩;intro G ι Ω H σ ρ Q w r h;exact h [] H G ι (Ext.refl _ _) w .nil
structure uB(P:Program)(w:World)(K:Frag)(mg:Str→Option Value)(base:Heap)(cls:Str)(k:Nat)(n:Nat)(F:List A→Mo A):Prop where
 ex:∃C f fd ps,nsIn K mainGlobals cls=some (some (.ref C))∧mg cls=some (.ref C)∧Mk K C f∧ps.length=n∧fQ P w K mg base (kJ P w) k f fd ps (pJ K ps.length F)∧Binds K fd ps []
@[simp] def DX(cls:Str)(n:Nat)(F:List A→Mo A)(as:List A):Mo A:=fun Ω=>if as.length+1=n then match F (.aE Ω.length::as) (Ω++[.ins cls []])with
 | some (.ok .aZ,Ω2)=>some (.ok (.aE Ω.length),Ω2)
 | _=>none else none
theorem Oc{cls:Str}{k n:Nat}{F:List A→Mo A}{p:Pos}(M:uB X.prog X.w X.K X.mg X.base cls k n F)(hr:bN (k+1) X.A)(hg:Gl X cls)(ha:VA X W (e::es) fs)
  (jD:(cls == ("__debug__" : Str))=false:=by decide) (he:starEach (e::es) X.env=(false,eval e X.env)::starEach es X.env:=by rfl) (dF:(backTo pos (starEach es X.env)).any (·.1)=false:=by rfl) :
  VE X W (.Call (.Name cls p) (e::es) [] pos) (aU (DX cls n F) fs):=by
 obtain⟨C,f,fd,ps,hC,hm,mk,hn,FO,hb⟩:=M.ex;obtain⟨t,p1,s1⟩:=ha;refine⟨_,aaB mk (XW FO) hr hg hm hb .nil aaX p1 jD he dF,fun G ι Ω H σ ρ Q w r h=>?_⟩;refine s1 G ι Ω H σ ρ _ w r (aY.mb h fun as Ω1 vs H1 G1 ι1 x1 w1 d1 h1=>?_);unfold DX at h1
 by_cases hl:as.length+1=n
 ·rw [if_pos hl]at h1;intro x dx hx JL cQ;have wA:=w1.grow (H':=upd H1 dx (.own x)) (fA.new JL);have pU:upd H1 dx (.own x) x=none:=by rw [aT (bT cQ)];exact hx
  have wB:Wd X.K G1 (ι1++[x]) (Ω1++[.ins cls []]) (upd (upd H1 dx (.own x)) x (.ins C dx [])):=wA.cell pU ⟨w1.mD hx,C,dx,[],hC,cW,trivial⟩;have nD:aK X.K G1 (ι1++[x]) (.ref x::(vs++[])) (.aE Ω1.length::as) := .cons (by simp only [Den];exact⟨x,rfl,by rw [← w1.len];simp⟩) (by rw [FE];exact d1.ext (Ext.cell x));refine⟨by rw [nD.length,hn];simpa using hl,G1,ι1++[x],_,_,wB,nD,?_⟩
  revert h1
  generalize F (.aE Ω1.length::as) (Ω1++[.ins cls []])=q;intro h1
  match q,h1 with
  | some (.ok .aZ,Ω2),h1 =>
   intro v H' G' ι' e' w' d';simp only [Den]at d';subst d';refine⟨rfl,h1 (.ref x) H' G' ι' ⟨e'.same,fun k a q=>e'.pre k a (by rw [fV (cL.mp q).1];exact q)⟩ w' ?_⟩;simp only [Den];exact⟨x,rfl,e'.pre _ _ (by rw [← w1.len];simp)⟩
 ·rw [if_neg hl]at h1;exact h1.elim
structure qL(P:Program)(w:World)(K:Frag)(mg:Str→Option Value)(base:Heap)(rk m:Str)(k:Nat)(n:Nat)(F:List A→Mo A):Prop where
 ex:∃R f fd ps,mg rk=some (.ref R)∧Ax K R m f∧ps.length=n∧fQ P w K mg base (kJ P w) k f fd ps (pJ K ps.length F)∧Binds K fd ps []
theorem Oq{pl:Sem Bool}{rk:Str}{k n:Nat}{F:List A→Mo A}{np:Pos}(T:nG X W)(B:qL X.prog X.w X.K X.mg X.base rk m k n F)(hg:Gl X rk)(hr:bN k X.A)(ha:VA X W (e::es) fs)
  (jD:(rk == ("__debug__" : Str))=false:=by decide) (gF:starEach (e::es) X.env=(false,eval e X.env)::starEach es X.env:=by rfl) (dF:(backTo pos (starEach es X.env)).any (·.1)=false:=by rfl)
  (ht:eval (.Call (.Attribute (.Name rk np) m apos) (e::es) [] pos) X.env=(do
   let ov ← eval (.Name rk np) X.env
   standAt apos.atName
   let (f,first) ← holding [ov] (getMethod ov m pl)
   callWith pos f first (backTo pos (starEach (e::es) X.env)) (backToKw pos (keywordEach [] X.env))):=by rfl) :
  VE X W (.Call (.Attribute (.Name rk np) m apos) (e::es) [] pos) (aU (dJ n F) fs):=by
 obtain⟨R,f,fd,ps,hm,BM,hn,FO,hb⟩:=B.ex;obtain⟨t,p1,s1⟩:=ha;refine⟨_,aaT T BM hm hg FO hr hb p1 jD gF dF ht,fun G ι Ω H σ ρ Q w r h=>?_⟩;refine s1 G ι Ω H σ ρ _ w r (aY.mb h fun as Ω1 vs H1 G1 ι1 x1 w1 d1 h1=>?_);unfold dJ at h1;split at h1
 ·rename_i hl;exact⟨by rw [d1.length,hn];exact hl,G1,ι1,Ω1,as,w1,d1,XX h1 (Ext.refl _ _)⟩
 ·exact False.elim h1
end
def tF(cs:List Str)(i:Nat)(f:Str)(ρ:Ev)(Ω:aI):Option (Nat×Str×List (Str×Fd)×Fd):=match (ρ[i]?).join with
 | some (.aE s)=>match Ω[s]? with
  | some (.ins cls fs)=>if cls∈cs then(fs.lookup f).map fun fd=>(s,cls,fs,fd)else none
  | _=>none
 | _=>none
abbrev jA(Ω:aI)(s:Nat)(cls f:Str)(fs:List (Str×Fd))(c:Cell):aI:=Ω.set s (.ins cls (putD f (.val (.aE Ω.length)) fs))++[c]
section
variable{cs:List Str}{i:Nat}{f:Str}{ρ:Ev}{Ω:aI}{s:Nat}{cls:Str}{fs:List (Str×Fd)}{fd fd':Fd}{c c':Cell}
theorem Fg(h:tF cs i f ρ Ω=some (s,cls,fs,fd)):ρ[i]? = some (some (.aE s))∧Ω[s]? = some (.ins cls fs)∧cls∈cs∧fs.lookup f=some fd:=by
 unfold tF at h;cases e1:(ρ[i]?).join with
 | none=>rw [e1]at h;cases h
 | some d =>
  rw [e1]at h;cases d with
  | aE k =>
   simp only at h;cases e2:Ω[k]? with
   | none=>rw [e2]at h;cases h
   | some c =>
    rw [e2]at h;cases c with
    | ins lQ kG =>
     simp only at h
     by_cases hc:lQ∈cs
     ·rw [if_pos hc]at h;cases e3:kG.lookup f with
      | none=>rw [e3]at h;cases h
      | some x =>
       rw [e3]at h;cases h;exact⟨join_some e1,e2,hc,e3⟩
     ·rw [if_neg hc]at h;cases h
    | _=>cases h
  | _=>cases h
theorem XT{n:Nat}{f:Str}{fd:Fd}:∀{fs:List (Str×Fd)},mM n fs→oF n fd→mM n (putD f fd fs)
 | [],_,h=>⟨h,trivial⟩
 | (g,x)::r,c,h=>by
  by_cases e:g=f
  ·simp only [putD,if_pos e];exact⟨h,c.2⟩
  ·simp only [putD,if_neg e];exact⟨c.1,XT c.2 h⟩
theorem Gh(h:tF cs i f ρ Ω=some (s,cls,fs,fd)):(jA Ω s cls f fs c)[Ω.length]? = some c:=by
 rw [sF (by simp)];simp
theorem Gg(h:tF cs i f ρ Ω=some (s,cls,fs,fd)):gB cs f (dB i) ρ (jA Ω s cls f fs c)=some (.ok (.aE Ω.length),jA Ω s cls f fs c):=by
 obtain⟨h1,h2,h3,h4⟩:=Fg h;have hs:s<Ω.length:=(cL.mp h2).1;have e:(jA Ω s cls f fs c)[s]? = some (.ins cls (putD f (.val (.aE Ω.length)) fs)):=by
  rw [fV (by simpa using hs),fU hs]
 have l:(putD f (Fd.val (.aE Ω.length)) fs).lookup f=some (.val (.aE Ω.length)):=by rw [HQ,if_pos rfl]
 have rR:(ρ[i]?).join=some (.aE s):=by rw [h1];rfl
 simp only [gB,dB,need,mb,rR,EV,WN,e,if_pos h3,l]
theorem acZ(c2:Cell):(jA Ω s cls f fs c).set Ω.length c2=jA Ω s cls f fs c2:=by
 unfold jA;rw [List.set_append_right _ _ (by simp)];simp
end
def xB(i:Nat)(f:Str)(g:MS)(ρ:Ev)(Ω:aI)(r:Out×Ev×aI):Prop :=
 ∃s cls fs fd c Ωa fd' c',ρ[i]? = some (some (.aE s))∧Ω[s]? = some (.ins cls fs)∧fs.lookup f=some fd∧fd.cell=some c∧g ρ (jA Ω s cls f fs c)=some (.nx,r.2.1,Ωa++[c'])∧Ωa.length=Ω.length ∧
  Ωa[s]? = some (.ins cls (putD f (.val (.aE Ω.length)) fs))∧fd'.cell=some c'∧(∀(k:Nat) (x:Cell),k≠s→Ωa[k]? = some x→Ω[k]? = some x∨AJ Ω.length x)∧(fd'=fd∨oF Ω.length fd') ∧
  (∀(j:Nat) (d:A),r.2.1[j]? = some (some d)→ρ[j]? = some (some d)∨Cl Ω.length d)∧r.1 = .nx∧r.2.2=Ωa.set s (.ins cls (putD f fd' fs))
open Classical in
noncomputable def sV(i:Nat)(f:Str)(g:MS):MS:=fun ρ Ω=>if h:∃r,xB i f g ρ Ω r then some (Classical.choose h)else none
theorem ajA{a b:Fd}{c:Cell}(h1:a.cell=some c)(h2:b.cell=some c):a=b:=by
 cases a with
 | val x=>cases h1
 | lst ds=>cases b with
  | lst es=>cases h1;cases h2;rfl
  | val _=>cases h2
  | aX _=>cases h1;cases h2
 | aX kvs=>cases b with
  | aX es=>cases h1;cases h2;rfl
  | val _=>cases h2
  | lst _=>cases h1;cases h2
theorem xB.uniq{i:Nat}{f:Str}{g:MS}{ρ:Ev}{Ω:aI}{r r':Out×Ev×aI}(h:xB i f g ρ Ω r)(h':xB i f g ρ Ω r'):r=r':=by
 obtain⟨s,cls,fs,fd,c,Ωa,Jj,c1,a1,a2,a3,a4,a5,a6,a7,a8,a9,Lq,Lp,YW,YV⟩:=h;obtain⟨s',lQ,kG,fd',c',Ωb,fd2,c2,b1,b2,b3,b4,b5,b6,b7,b8,b9,b10,b11,b12,b13⟩:=h';rw [a1]at b1;cases b1;rw [a2]at b2;cases b2;rw [a3]at b3;cases b3;rw [a4]at b4;cases b4;rw [a5]at b5;obtain⟨r1,r2,r3⟩:=r;obtain⟨p1,p2,p3⟩:=r';simp only [gW,ZE,true_and]at *;obtain⟨e1,e2⟩:=b5;obtain⟨rfl,e3⟩:=List.append_inj' e2 rfl;simp only [FC,and_true]at e3;subst e3;have:=ajA a8 b8;subst this;subst YW b12;exact⟨rfl,e1,by rw [YV,b13]⟩
theorem Xb{i:Nat}{f:Str}{g:MS}{ρ:Ev}{Ω:aI}{r:Out×Ev×aI}(h:xB i f g ρ Ω r):sV i f g ρ Ω=some r:=by
 have ex:∃r,xB i f g ρ Ω r:=⟨r,h⟩;unfold sV;rw [dif_pos ex];exact congrArg some (xB.uniq (Classical.choose_spec ex) h)
section
variable{X:Cx}{W:WX}{st:Stmt}{f:Str}{cs:List Str}{i:Nat}{pos amE apos jG al8:Pos}{gs:MS}{x:Str}
theorem Bl(h:VS X W st gs):VS X W st (sV i f gs):=by
 refine Nu h fun ρ Ω r cl hd=>?_;unfold sV at hd;split at hd
 ·rename_i ex;cases hd;generalize hr:Classical.choose ex=r;have iH:=Classical.choose_spec ex;rw [hr]at iH;obtain⟨s,cls,fs,fd,c,Ωa,Jj,c1,a1,a2,a3,a4,a5,a6,a7,a8,a9,Lq,Lp,YW,YV⟩:=iH;obtain⟨ix,e1,_⟩:=II a3;have hfd:oF Ω.length fd:=(cl.aE s _ a2:mM _ fs).get e1;refine⟨s,f,_,Ωa++[c1],⟨cls,fs,fd,c,a2,a3,a4,rfl⟩,a5,⟨Ωa,c1,cls,_,Jj,rfl,a6,a7,by rw [HQ,if_pos rfl],a8,fun k x hk hx=>?_,?_,by rw [BX];exact YV⟩,fun j d hj=>?_,YW⟩
  ·rcases a9 k x hk hx with z | z
   ·exact cl.aE k x z
   ·exact z
  ·rw [BX];exact XT (cl.aE s _ a2:mM _ fs) (by rcases Lq with z | z;exact z ▸ hfd;exact z)
  ·rcases Lp j d hj with z | z
   ·exact cl.env j d z
   ·exact z
 ·cases hd
end
def uZ(cs:List Str)(i:Nat)(ρ:Ev)(Ω:aI):Option (Nat×Str×List (Str×Fd)):=match (ρ[i]?).join with
 | some (.aE s)=>match Ω[s]? with
  | some (.ins cls fs)=>if cls∈cs then some (s,cls,fs)else none
  | _=>none
 | _=>none
theorem abO{cs:List Str}{i:Nat}{ρ:Ev}{Ω:aI}{s:Nat}{cls:Str}{fs:List (Str×Fd)}(h:uZ cs i ρ Ω=some (s,cls,fs)):ρ[i]? = some (some (.aE s))∧Ω[s]? = some (.ins cls fs)∧cls∈cs:=by
 unfold uZ at h;cases e1:(ρ[i]?).join with
 | none=>rw [e1]at h;cases h
 | some d =>
  rw [e1]at h;cases d with
  | aE k =>
   simp only at h;cases e2:Ω[k]? with
   | none=>rw [e2]at h;cases h
   | some c =>
    rw [e2]at h;cases c with
    | ins lQ kG =>
     simp only at h
     by_cases hc:lQ∈cs
     ·rw [if_pos hc]at h;cases h;exact⟨join_some e1,e2,hc⟩
     ·rw [if_neg hc]at h;cases h
    | _=>cases h
  | _=>cases h
@[simp] def Fd.yI:Cell→Option Fd
 | .lst ds=>some (.lst ds)
 | .aX kvs=>some (.aX kvs)
 | _=>none
theorem Fd.abM{c:Cell}{fd:Fd}(h:Fd.yI c=some fd):fd.cell=some c:=by
 cases c <;> cases h <;> rfl
open Classical in
@[simp] noncomputable def sX(cs:List Str)(i:Nat)(f:Str)(fv:Ev→Mo A):MS:=fun ρ Ω=>match uZ cs i ρ Ω with
 | some (s,cls,fs)=>match fv ρ Ω with
  | some (.ok (.aE n),Ω1)=>match Ω1[Ω.length]? with
   | some c=>match Fd.yI c with
    | some fd=>if n=Ω.length∧Ω1=Ω++[c]∧fs.length<1000∧oF Ω.length fd then some (.nx,ρ,Ω.set s (.ins cls (putD f fd fs)))else none
    | none=>none
   | none=>none
  | _=>none
 | none=>none
section
variable{X:Cx}{W:WX}{st:Stmt}{f:Str}{cs:List Str}{i:Nat}{fv:Ev→Mo A}
theorem Bm(h:VS X W st (lZ cs f (dB i) fv)):VS X W st (sX cs i f fv):=by
 obtain⟨t,p,sm⟩:=h;refine⟨t,p,fun G ι Ω H σ ρ D w r h=>?_⟩;have cl:=w.KN r;unfold sX at h;split at h
 ·rename_i s cls fs eo;split at h
  ·rename_i n Ω1 e1;split at h
   ·rename_i c e2;split at h
    ·rename_i fd e3;split at h
     ·rename_i hc;obtain⟨rfl,rfl,hl,fH⟩:=hc;obtain⟨h1,h2,h3⟩:=abO eo;have jT:s<Ω.length:=(cL.mp h2).1;have JN:=Fd.abM e3;refine sm G ι Ω H σ ρ D w r ?_;have rR:(ρ[i]?).join=some (.aE s):=by rw [h1];rfl
      have kW:(Ω++[c])[s]? = some (.ins cls fs):=by rw [fV jT];exact h2
      have e:lZ cs f (dB i) fv ρ Ω=some (.nx,ρ,Ω.set s (.ins cls (putD f (.val (.aE Ω.length)) fs))++[c]):=by
       simp only [lZ,sM,e1,dB,need,rR,EV,kW,if_pos (And.intro h3 hl)];rw [List.set_append_left _ _ jT]
      rw [e];intro σ' H' G' ι' ex w' r';have wf:=w'.fold (s:=s) (f:=f) (fd:=fd) (cls:=cls) (fs:=putD f (.val (.aE Ω.length)) fs) (fU jT) (by rw [HQ,if_pos rfl];simp) JN (fun k x hk hx=>by
       rw [iL (bT hk)]at hx;have:=cl.aE k x hx;simpa using this) (by
       rw [BX];have:=XT (f:=f) (cl.aE s _ h2:mM _ fs) fH;simpa using this)
      rw [BX,wZ,AD]at wf;refine h σ' H' G' (ι'.take Ω.length) ⟨ex.same,fun k x q=>?_⟩ wf (Jq r' fun j d hj=>cl.env j d hj);have hk:=(cL.mp q).1;rw [FA,if_pos (by rw [← w.len];exact hk)];exact ex.pre k x q
     ·exact h.elim
    ·exact h.elim
   ·exact h.elim
  ·exact h.elim
 ·exact h.elim
end
theorem EJ{K:Frag}{f:Str}:cM K [] f:=fun cls h=>by simp at h
theorem EK{K:Frag}{f cls:Str}{cs:List Str}{C:Addr}(h1:nsIn K mainGlobals cls=some (some (.ref C)))(h2:kI K C)(h3:findIn K (.ref C) f=some none)(t:cM K cs f):cM K (cls::cs) f:=fun c h=>by
 rcases dG.mp h with e | e
 ·subst e;exact⟨C,h1,h2,h3⟩
 ·exact t c e
section
variable{P:Program}{w:World}{K:Frag}{mg:Str→Option Value}{base:Heap}
theorem WT{x qual:Str}{st:Stmt}{N ps:List Str}{k:Nat}{b:MS}{f:Addr}{fd:FuncData}(F:mL K x qual st f fd)(S:cU N ps (aV st))
  (iI:∀(f:Addr) (aR:Value) (A:Around) (outer:List Env) (s:Shared) (H:Hp) (E:XK),bN k (A.deeper (envOfC qual (aV st) s.heap.objs.size f aR)) →
   jW (nE P w K mg base N qual (aV st) f aR A outer s H E) (fun _=>E) (dW st) b):fQ P w K mg base (kJ P w) (k+1) f fd ps (pJ K ps.length (dQ N.length b)):=by
 obtain⟨oc,od,kV,doc,pm,an,aR,ct,gJ,rfl,lk,jE⟩:=F.ex;refine EC lk jE S (fun vs H Q E h=>h.1) fun A outer s H vs Q E hr iH=>?_;obtain⟨t,p,q⟩:=iI f aR A outer s H E hr;exact⟨t,IM p,XZ q iH⟩
structure lE(K:Frag)(mg:Str→Option Value)(cls m qual:Str)(st:Stmt):Prop where
 ex:∃C f fd,nsIn K mainGlobals cls=some (some (.ref C))∧mg cls=some (.ref C)∧kI K C∧Meth K C m f∧mL K m qual st f fd
theorem bU.of{cls m qual:Str}{st:Stmt}{N ps:List Str}{k:Nat}{b:MS}(h:lE K mg cls m qual st)(S:cU N ps (aV st))
  (bind:∀(kV doc pm:Value) (an:Option Addr) (aR ct:Value) (us:List Value),us.length=ps.length→bindArgs (fnOf m qual (iR st) (dW st) (aV st) .none kV doc pm an aR ct) ⟨us,[]⟩=pure (ps.zip us))
  (iI:∀(f:Addr) (aR:Value) (A:Around) (outer:List Env) (s:Shared) (H:Hp) (E:XK),bN k (A.deeper (envOfC qual (aV st) s.heap.objs.size f aR)) →
   jW (nE P w K mg base N qual (aV st) f aR A outer s H E) (fun _=>E) (dW st) b):bU P w K mg base cls m (k+1) ps.length [] (dQ N.length b):=by
 obtain⟨C,f,fd,h1,_,h2,h3,F⟩:=h.ex;exact⟨C,f,fd,ps,[],[],h1,h2,h3,rfl,WT F S iI,F.binds bind,.nil,fun _ _ => .nil⟩
theorem bU.none{cls m qual:Str}{st:Stmt}{N ps:List Str}{k n:Nat}(h:lE K mg cls m qual st)(hn:ps.length=n)(bind:∀(kV doc pm:Value) (an:Option Addr) (aR ct:Value) (us:List Value),us.length=ps.length→bindArgs (fnOf m qual (iR st) (dW st) (aV st) .none kV doc pm an aR ct) ⟨us,[]⟩=pure (ps.zip us)) :
  bU P w K mg base cls m k n [] (fun _=>stuck):=by
 obtain⟨C,f,fd,h1,_,h2,h3,F⟩:=h.ex;exact⟨C,f,fd,ps,[],[],h1,h2,h3,hn,⟨fun vs H Q E h=>h.1,fun A outer s H args us vs Q E hr he hb hv hs=>by obtain⟨_,_,_,_,_,_,_,q⟩:=hs;exact q.elim⟩,F.binds bind,.nil,fun _ _ => .nil⟩
structure MK(K:Frag)(mg:Str→Option Value)(cls qual:Str)(st:Stmt):Prop where
 ex:∃C f fd,nsIn K mainGlobals cls=some (some (.ref C))∧mg cls=some (.ref C)∧Mk K C f∧mL K "__init__" qual st f fd
theorem uB.of{cls qual:Str}{st:Stmt}{N ps:List Str}{k:Nat}{b:MS}(h:MK K mg cls qual st)(S:cU N ps (aV st))
  (bind:∀(kV doc pm:Value) (an:Option Addr) (aR ct:Value) (us:List Value),us.length=ps.length→bindArgs (fnOf "__init__" qual (iR st) (dW st) (aV st) .none kV doc pm an aR ct) ⟨us,[]⟩=pure (ps.zip us))
  (iI:∀(f:Addr) (aR:Value) (A:Around) (outer:List Env) (s:Shared) (H:Hp) (E:XK),bN k (A.deeper (envOfC qual (aV st) s.heap.objs.size f aR)) →
   jW (nE P w K mg base N qual (aV st) f aR A outer s H E) (fun _=>E) (dW st) b):uB P w K mg base cls (k+1) ps.length (dQ N.length b):=by
 obtain⟨C,f,fd,h1,h2,h3,F⟩:=h.ex;exact⟨C,f,fd,ps,h1,h2,h3,rfl,WT F S iI,F.binds bind⟩
structure FI(K:Frag)(mg:Str→Option Value)(rk m qual:Str)(st:Stmt):Prop where
 ex:∃R f fd,mg rk=some (.ref R)∧Ax K R m f∧mL K m qual st f fd
theorem qL.of{rk m qual:Str}{st:Stmt}{N ps:List Str}{k:Nat}{b:MS}(h:FI K mg rk m qual st)(S:cU N ps (aV st))
  (bind:∀(kV doc pm:Value) (an:Option Addr) (aR ct:Value) (us:List Value),us.length=ps.length→bindArgs (fnOf m qual (iR st) (dW st) (aV st) .none kV doc pm an aR ct) ⟨us,[]⟩=pure (ps.zip us))
  (iI:∀(f:Addr) (aR:Value) (A:Around) (outer:List Env) (s:Shared) (H:Hp) (E:XK),bN k (A.deeper (envOfC qual (aV st) s.heap.objs.size f aR)) →
   jW (nE P w K mg base N qual (aV st) f aR A outer s H E) (fun _=>E) (dW st) b):qL P w K mg base rk m (k+1) ps.length (dQ N.length b):=by
 obtain⟨R,f,fd,h1,h2,F⟩:=h.ex;exact⟨R,f,fd,ps,h1,h2,rfl,WT F S iI,F.binds bind⟩
end
theorem Inv.Ce{X:Cx}{pins:List (Addr×Obj)}{σ:L2.St}{H:Hp}{s:Shared}{h':Heap}{t':Nat}{ch:List Addr}(I:Inv X pins σ H s)(k:∀b o,b∉ch→s.heap.get? b=some o→h'.get? b=some o)(hf:∀b∈ch,nI X pins H b):Inv X pins σ H { s with heap:=h',toks:=t' }:=by
 have ne:∀b u,H b=some u→b∉ch:=fun b u q z=>by rw [(hf b z).1]at q;cases q
 refine I.step (g':=s.gens) (d':=s.drawn) (ch:=ch) (fun b hb=>?_) (fun b o _ _ hc q _=>k b o hc q) (fun b o _ _ hc q _=>⟨o.slots,k b o hc q⟩) (fun _ _ _ _ n=>n)
  (fun b o hc q=>⟨o,k b o hc q⟩) (fun _ _ q=>q) (fun _ _ _ q=>q) (fun b ps q=>⟨#[],by rw [q];simp⟩) (fun m hm=>?_) (fun b u q=>?_) I.bare
 ·obtain⟨a0,a1,a2,a3,a4,a5⟩:=hf b hb;exact⟨a3,a1,a4,a5⟩
 ·obtain⟨o,es,ep,ho,r⟩:=hm;exact⟨o,es,ep,k _ o (fun z=>(hf _ z).2.1 rfl) ho,r⟩
 ·refine(I.aH b u q).lI (fun c v hc q'=>k c v ?_ q') (fun _ q=>q) fun _ _ q=>q
  rcases hc with z | z
  ·rw [z];exact ne b u q
  ·exact ne c _ z
open PySem PySem.Spec PyProof PyProof.Rows L2
end V2
namespace L2
open PySem PySem.Spec PyProof.Rows
section
variable{X:Cx}
theorem Yy{elt tg iter:Expr}{ifs:List Expr}{scope:Scope}{pos BJ pos':Pos}{ls:List Str}{js:List Nat}{wi:TI}{g:TG}{tc:TT}{te:TE}{k:Nat}{x:Str}(hN:X.N.Nodup)(rM:X.N[k]? = some x)(pU:Loc X.env.scope x)(hc:X.calm=true)(L:uF X scope ls js)(hi:PI X tg iter wi)
  (hb:∀cl C s H fp,PG (dP X scope ls js cl C s H fp) tg g∧zU (dP X scope ls js cl C s H fp) ifs tc∧PE (dP X scope ls js cl C s H fp) elt te)
  (TJ:swapsWith (.ListComp elt [⟨tg,iter,ifs,0⟩] scope pos) (some (.Name x pos')) BJ.line X.env=pure true)
  (hs:∀x,foldedSetIterable iter X.env x=pure x) (hf:X.fn x=true∨X.env.scope.names.lookup x=some .local):PS X (.Assign [.Name x pos'] (.ListComp elt [⟨tg,iter,ifs,0⟩] scope pos) BJ) (OH (OD ls js wi g tc te) (WK k)):=by
 intro pins s σ H D I h;obtain⟨cl,fH,fT,eY⟩:=Kh (scope:=scope) (env:=X.env) fun y hy hf=>I.ok.has y.1 (L.free y hy hf);rw [exec_Assign_Name_used _ _ _ _ TJ];refine aF (wpAny_standAt (aF ?_));show wpAny _ X.A (do let _ ← comprehension (.ListComp elt [⟨tg,iter,ifs,0⟩] scope pos) scope X.env _ (newList []) false (eval iter X.env) (some (assign (.Name x pos') X.env))) _ _ s;refine aF (jM (wpAny_comprehension_free (use:=some (assign (.Name x pos') X.env)) (Q:=fun _ s'=>SP X pins D .next s') rfl hs fH L.kind L.names (aW (hi pins s σ H _ I h) fun v s1 h1=>aW h1 fun IS s2 h2=>?_)) (fun _ s' hq=>aS (aS hq)) fun _ _ e=>e);obtain⟨it,fp,tn,J,H1,e,I2,T,uQ,f2,h2⟩:=h2;subst e;refine nJ (wpAny_newFunctionEnv L.cell (by intro y hy;simp at hy) (fun h₁ vP vN=>?_) L.kind);dsimp only at vP vN ⊢;generalize vY:s2.heap.push { cls := .type "list",dict:=none,data := .seq ([]:List Value).toArray }=G2 at vP vN ⊢;have JP:G2.objs.size=s2.heap.objs.size+1:=by rw [← vY,xE]
 have DU:H1 s2.heap.objs.size=none:=I2.aH.fresh bG;have VD:H1 G2.objs.size=none:=I2.aH.fresh (by omega);have VB:s2.heap.objs.size≠G2.objs.size:=by omega
 have UZ:G2.get? s2.heap.objs.size=some { cls := .type "list",dict:=none,data := .seq ([]:List Value).toArray }:=by rw [← vY];exact dY _ rfl
 have vE:∀b o,s2.heap.get? b=some o→G2.get? b=some o:=fun b o e=>by rw [← vY];exact bP _ e
 have I3:Inv X pins σ (upd H1 s2.heap.objs.size (.lst [])) { s2 with heap:=G2,toks:=s2.toks } :=
  I2.laid (t':=s2.toks) vE bG (show eV X.prog X.w _ G2 _ (.lst [])from⟨by simp,[],0,.nil,UZ⟩)
 have vF:∀b o,G2.get? b=some o→h₁.get? b=some o:=fun b o e=>(vN.2 b (cK (bO e))).trans (bP _ e);have I4:Inv X pins σ (upd H1 s2.heap.objs.size (.lst [])) { s2 with heap:=h₁,toks:=s2.toks+0 }:=I3.kept (h':=h₁) (t':=s2.toks+0) vF;generalize hT:(H1,(⟨tg,iter,ifs,0⟩:Comprehension))=SS;clear hT SS;have wG:∀b∈fp,b<s2.heap.objs.size:=fun b hb=>by
  obtain⟨o,e,_⟩:=T.obj 0 _ uQ b hb;exact bO e
 have fpD:s2.heap.objs.size∉fp:=fun z=>Nat.lt_irrefl _ (wG _ z);have EB:∀b∈fp,b≠G2.objs.size:=fun b hb=>cK (by rw [JP];exact uA (wG b hb));have QT:(dP X scope ls js cl G2.objs.size { s2 with heap:=G2 } (upd H1 s2.heap.objs.size (.lst [])) fp).Ok:=by
  refine Gp L I3 fT eY bG I3.bs (qJ I3.ok.mF I3.sz) I3.stack I3.HA (fun b hb=>⟨EB b hb,(f2 b hb).2.2.2.2.1⟩) (fun b o e hb=>?_) (fun b hb z=>?_)
  ·rcases(f2 b hb).2.2.2.1 with q | q
   ·exact I2.ok.pO b o e q
   ·exact absurd (jJ (bO (I2.ok.bs b o e).1) q) (Nat.lt_irrefl _)
  ·rcases dG.mp (I3.sT b z)with q | q
   ·exact(f2 b hb).2.1 q
   ·exact(f2 b hb).2.2.1 q
 have IC:Inv (dP X scope ls js cl G2.objs.size { s2 with heap:=G2 } (upd H1 s2.heap.objs.size (.lst [])) fp) [] (pS ls js σ) (upd H1 s2.heap.objs.size (.lst [])) { s2 with heap:=h₁,toks:=s2.toks+0 }:=by
  refine⟨QT,rfl,I4.bare,Un.kept vF,⟨_,vP,fun i x v e1 e2 e3=>?_⟩,fun x c e=>I4.cell x c (fT x c e),?_,fun x c e=>I4.hU x c (fT x c e),fun p hp=>?_,I4.aH,?_⟩
  ·obtain⟨k,j,rM,hj,hσ⟩:=Gn e2;obtain⟨y,hy,vK⟩:=L.XU j (oA hj);have TB:x=y:=by
    have wK:(ls++js.map (fun j=>X.N.getD j Str.empty))[i]? = some x:=e1;rw [rM,sF (Nat.le_add_right ..),Nat.add_sub_cancel_left,iM,hj]at wK;have XF:X.N.getD j Str.empty=x:=lR wK;rw [← XF,Mp,hy];rfl
   subst TB;have DC:X.env.kindOf x=some .cell∨X.env.kindOf x=some .free:=by
    have hm:(x,NameKind.free)∈scope.names:=by
     have q:=BV (env:=X.env) L.cell (yL (env:=X.env) vK);exact q
    exact L.free _ hm rfl
   obtain⟨m,hn,hl⟩:=I4.loc;obtain⟨u,r,l⟩:=hl j x v hy hσ (DC.elim (fun z => .inr (.inl z)) fun z => .inr (.inr z));refine⟨u,r,.inr ⟨yL (env:=X.env) vK,?_⟩⟩
   rcases l with⟨kl,_⟩ | ⟨_,c,nV,z⟩
   ·rcases DC with q | q
    ·rw [q]at kl;cases kl
    ·rw [q]at kl;cases kl
   ·have hm:(x,NameKind.free)∈scope.names:=BV (env:=X.env) L.cell (yL (env:=X.env) vK);obtain⟨c',DQ⟩:=eY _ hm rfl;have:=fT _ _ DQ;rw [nV]at this;cases this;exact⟨c,DQ,z⟩
  ·show upd H1 s2.heap.objs.size (.lst []) G2.objs.size=none;rw [aT (bT VB)];exact VD
  ·have oU:p∈X.pn:=by simpa [dP]using hp
   obtain⟨e,n,ne,nf,d⟩:=I4.pin p (uE _ oU);obtain⟨e3,_⟩:=I3.pin p (uE _ oU);refine⟨e,n,?_,fun z=>?_,d⟩
   ·exact cK (bO e3)
   ·rcases dG.mp (I3.sT p.1 z)with q | q
    ·exact ne q
    ·exact nf q
  ·simp [pS,dP]
 obtain⟨UQ,UP,UR⟩:=hb cl G2.objs.size { s2 with heap:=G2 } (upd H1 s2.heap.objs.size (.lst [])) fp;obtain⟨W,⟨m0,w0⟩,turn⟩:=h2 s2.heap.objs.size DU;have BI:tn 0 h₁:=T.keep _ _ _ uQ fun b hb o e=>vF b o (vE b o e);have bW:∀{H':Hp},(∀b∈fp,H' b=none)→∀b∈fp,nI (dP X scope ls js cl G2.objs.size { s2 with heap:=G2 } (upd H1 s2.heap.objs.size (.lst [])) fp) [] H' b:=fun hn b hb=>by
  refine⟨hn b hb,EB b hb,fun z=>?_,.inl hb,fun x c e=>(f2 b hb).2.2.2.2.1 x c (fT x c e),fun p hp=>?_⟩
  ·rcases dG.mp (I3.sT b z)with q | q
   ·exact(f2 b hb).2.1 q
   ·exact(f2 b hb).2.2.1 q
  ·have oU:p∈X.pn:=by simpa [dP]using hp
   exact(f2 b hb).2.2.2.2.2 p (uE _ oU)
 have WS:∀b∈fp,(upd H1 s2.heap.objs.size (.lst [])) b=none:=fun b hb=>by
  rw [aT (show b≠s2.heap.objs.size from cK (wG b hb))];exact(f2 b hb).1
 have loop:∀s4:Shared,s4 = { s2 with heap:=h₁,toks:=s2.toks+0 } →
   codeAny (model X.prog X.w) X.A (.compLoop (.ListComp elt [⟨tg,iter,ifs,0⟩] scope pos) 0 (.ref it) (.ref s2.heap.objs.size) (compEnvC scope cl G2.objs.size X.env))
    (compPost (model X.prog X.w) X.A X.xe (some (assign (.Name x pos') X.env)) (fun _ s'=>SP X pins D .next s') (.ref s2.heap.objs.size) G2.objs.size) s4:=by
  rintro s4 rfl;refine Ke (fun n s'=>∃i σ' H',Inv (dP X scope ls js cl G2.objs.size { s2 with heap:=G2 } (upd H1 s2.heap.objs.size (.lst [])) fp) [] σ' H' s'∧tn i s'.heap∧(∀b∈fp,H' b=none)∧W i n σ' H') ?_ m0 ⟨0,_,_,IC,BI,WS,w0⟩;rintro n s5 ⟨i,σ5,H5,I5,qX,wF,w5⟩
  rcases turn i n σ5 H5 w5 with⟨stop,qn⟩ | ⟨go,N,hN,step⟩
  ·refine aW (T.done (dP X scope ls js cl G2.objs.size { s2 with heap:=G2 } (upd H1 s2.heap.objs.size (.lst [])) fp) rfl rfl rfl hc i [] s5 σ5 H5 _ I5 (bW wF) qX stop) fun r s6 ⟨hr,I6⟩=>?_;subst hr;obtain⟨m6,TY,_⟩:=I6.loc;have vS:H5 G2.objs.size=none:=I6.free;have NP:Un (eR X.stack) fp (upd H1 s2.heap.objs.size (.lst [])) H5 G2 s6.heap:=I6.base;have NQ:Un (eR X.stack) fp H1 (upd H1 s2.heap.objs.size (.lst [])) s2.heap G2:=Un.laid vE bG DU;have un:=NQ.trans NP;have Ic:Inv X pins σ H5 s6:=I2.EM (s':=s6) (ch:=fp) I6.os un I6.aH I6.bare fun b hb=>⟨(f2 b hb).2.2.2.1,(f2 b hb).2.1,(f2 b hb).2.2.2.2.1,(f2 b hb).2.2.2.2.2⟩
   have vT:nI X pins H5 G2.objs.size:=I3.wH bG vS;have afG:∀b∈[G2.objs.size],nI X pins H5 b:=fun b hb=>by rw [mK.mp hb];exact vT
   obtain⟨oC,esC,epC,eC,dC,kC,fC⟩:=id TY;have Ip:=Ic.pinned (fp:=[G2.objs.size]) afG fun b hb=>⟨oC,by rw [mK.mp hb];exact eC,fun v z=>by rw [dC]at z;cases z⟩
   refine aW (Fc (pos:=pos') hN rM pU hf _ s6 σ H5 (.ref s2.heap.objs.size) _ _ Ip rfl qn) fun _ s8 ⟨σ8,H8,I8,q8⟩=>?_;obtain⟨p8,n8,_⟩:=I8.pin (G2.objs.size,oC) (lW _ (lW _ (vB (List.mem_singleton_self _) eC)));refine⟨m6,⟨oC,esC,epC,p8,dC,kC,fC⟩,fun h' jC=>⟨σ8,H8,?_,q8⟩⟩;have ne1:∀b,b∉[G2.objs.size]→b≠G2.objs.size:=fun b hb z=>hb (by rw [z];exact List.mem_singleton_self _);have NR:Un (eR X.stack) [G2.objs.size] H8 H8 s8.heap h':=⟨fun b o e n a x=>(jC.2 b (ne1 b x)).trans e,fun b o e n a x=>⟨o.slots,(jC.2 b (ne1 b x)).trans e⟩,fun _ _ _ n _=>n,fun b o e x=>⟨o,(jC.2 b (ne1 b x)).trans e⟩,fun _ _ q=>q,fun _ _ _ q=>q,fun _ ps q=>⟨#[],by rw [q];simp⟩⟩;have CY:dO X.prog X.w H8 h':=fun b o e=>by
    refine(I8.aH b o e).lI (fun c u nV q=>(jC.2 c ?_).trans q) (fun _ q=>q) fun _ _ q=>q;have Hu:H8 G2.objs.size=none:=n8;rintro rfl
    rcases nV with z | z
    ·subst z;rw [Hu]at e;cases e
    ·rw [Hu]at z;cases z
   exact I8.xR.EM (s':={ s8 with heap:=h' }) (ch:=[G2.objs.size]) rfl NR CY I8.bare fun b hb=>by
    rw [mK.mp hb];exact⟨vT.2.2.2.1,vT.2.1,vT.2.2.2.2.1,vT.2.2.2.2.2⟩
  ·refine aW (T.item (dP X scope ls js cl G2.objs.size { s2 with heap:=G2 } (upd H1 s2.heap.objs.size (.lst [])) fp) rfl rfl rfl hc i [] s5 σ5 H5 _ I5 (bW wF) qX go) fun r s6 ⟨u,hr,h6⟩=>?_;subst hr;refine aW h6 fun _ s7 ⟨x,H7,I7,r7,y7,uP,WR⟩=>?_;have Am:=I7.pinned (bW WR) (T.obj _ _ uP);refine aW (UQ _ s7 σ5 H7 x u _ Am r7 (step x H7 y7)) fun _ s8 ⟨σ8,H8,I8,q8⟩=>?_;refine aW (UP _ s8 σ8 H8 _ I8 q8) fun ok s9 ⟨H9,I9,q9⟩=>?_;have again:∀{σa:St} {Ha:Hp} {sa:Shared},Inv (dP X scope ls js cl G2.objs.size { s2 with heap:=G2 } (upd H1 s2.heap.objs.size (.lst [])) fp) ([]++yG fp s7.heap) σa Ha sa→N σa Ha →
     ∃m,m<n∧∃i σ' H',Inv (dP X scope ls js cl G2.objs.size { s2 with heap:=G2 } (upd H1 s2.heap.objs.size (.lst [])) fp) [] σ' H' sa∧tn i sa.heap∧(∀b∈fp,H' b=none)∧W i m σ' H':=fun{σa Ha sa} Ia na=>by
    obtain⟨m',hm,wa⟩:=hN σa Ha na;refine⟨m',hm,i+1,σa,Ha,Ia.xR,T.keep _ _ _ uP fun b hb o e=>(Ia.pin (b,o) (lW _ (lW _ (vB hb e)))).1,fun b hb=>?_,wa⟩;obtain⟨o,e,d⟩:=T.obj _ _ uP b hb;exact(Ia.pin (b,o) (lW _ (lW _ (vB hb e)))).2.1
   cases ok with
   | false=>exact again I9 q9
   | true =>
    refine aW (UR _ s9 σ8 H9 _ I9 q9) fun y QB ⟨z,H10,FG,QJ,ys,hD,cP,nn⟩=>?_;obtain⟨zz,aN,k,r,hl,e⟩:=FG.CM hD;refine call_meets F.slot_list_append ⟨_,e,rfl⟩ F.entry_list_append (Mz _ _) (PySem.list_append s2.heap.objs.size aN.toArray k y (by rw [hX];omega)) ⟨e,?_⟩;refine again (FG.QZ (its':=aN++[y]) (t':=QB.toks) hD e ?_ (r.append (.cons QJ .nil)) ?_) nn
    ·simp
    ·simp;omega
 exact codeAny_compStart_list (loop _ rfl) (T.self _ 0 _ _ _ BI (loop _ rfl))
end
end L2
namespace V2
open PySem PySem.Spec PyProof.Rows L2
theorem Nt{X:Cx}{W:WX}{elt tg iter:Expr}{ifs:List Expr}{scope:Scope}{pos BJ pos':Pos}{fi:Ev→Mo Src}{g:A→MS}{c:Ev→Mo Bool}{e:Ev→Mo A}{i:Nat}{x:Str}(cf:Bool)(ls:List Str)(js:List Nat)(hN:X.N.Nodup)(rM:X.N[i]? = some x)(pU:Loc X.env.scope x)(hc:X.calm=true)(L:uF X scope ls js)(hi:VI X W tg iter fi)
  (hb:∀cl C s H fp,VG (dP X scope ls js cl C s H fp) pP tg g∧zS (dP X scope ls js cl C s H fp) pP ifs c∧VE (dP X scope ls js cl C s H fp) pP elt e)
  (TJ:swapsWith (.ListComp elt [⟨tg,iter,ifs,0⟩] scope pos) (some (.Name x pos')) BJ.line X.env=pure true:=by rfl)
  (hs:∀x,foldedSetIterable iter X.env x=pure x:=by intro _;rfl) (hf:X.fn x=true∨X.env.scope.names.lookup x=some .local:=by first | exact .inl rfl | exact .inr rfl | assumption) :
  VS X W (.Assign [.Name x pos'] (.ListComp elt [⟨tg,iter,ifs,0⟩] scope pos) BJ) (dE (kN cf ls.length js fi g c e) (gN i)):=by
 obtain⟨t1,p1,s1⟩:=hi;exact⟨_,Yy hN rM pU hc L p1 (fun cl C s H fp=>⟨(hb cl C s H fp).1.tX,(hb cl C s H fp).2.1.tX,(hb cl C s H fp).2.2.tX⟩) TJ hs hf,Ds (Dq _ s1 Du HF HF) fun _ _ _ _ _ _ _ _ _ w r d h=>pN w (r.set i d) h⟩
end V2
namespace L2
open PySem PySem.Spec PyProof.Rows
def ak8(h:Heap)(mg:Str→Option Value):Prop:=∃bm o,mg "__builtins__" = some (.ref bm)∧bm≠builtinsNs∧h.get? bm=some o∧o.cls = .type "module"∧o.dict=some builtinsNs∧o.data = .plain
structure an3(h:Heap)(H:Hp)(f:Addr)(qual:Str)(params:Arguments)(body:Expr)(scope:Scope)(Ko:List (Str×Int)):Prop where
 ex:∃(cl:List (Str×Addr)) (pm ctv:Value) (c':Addr) (oc:Obj) (vs:Array Value) (t:Tok),
  H f=some (.bW (PySem.W.kla_obj "<lambda>" qual params body scope cl pm c' ctv) (.own 0))∧H c'=some (.bW oc (.own 0))∧oc.data = .fields vs∧vs[1]? = some (.str qual t) ∧
  (∀x y c,cl.lookup x=some c→cl.lookup y=some c→x=y)∧(∀y∈scope.names,y.2 = .free→∃c,cl.lookup y.1=some c) ∧
  (∀x c,cl.lookup x=some c→(∃v,h.IsCell c v)∧H c=none)∧∀p∈Ko,∃c t,cl.lookup p.1=some c∧h.IsCell c (some (.int p.2 t))
structure ak3(scope:Scope)(y:Str)(cs:List Str):Prop where
 kind:scope.kind = .function
 co:scope.isCoroutine=false
 gen:scope.isGenerator=false
 amA:∀x∈scope.names,x.2 ≠ .cell
 par:scope.names.lookup y=some .local
 XU:∀x∈cs,scope.names.lookup x=some .free
end L2
namespace V2
open PySem PySem.Spec PyProof.Rows L2
structure an2(K:Frag)(mg:Str→Option Value)(base:Heap)(x:Str):Prop where
 tL:K.In base
 glob:base.Ns mainGlobals mg
 blt:ak8 base mg
 hd:∃c P,PySem.W.tabIn K x=some (c,P)∧PySem.W.codeHdIn K c P=true
structure Mw(X:Cx)(scope:Scope)(y:Str)(cs:List Str)(js:List Nat):Prop where
 S:ak3 scope y cs
 free:∀y∈scope.names,y.2 = .free→X.env.kindOf y.1=some .cell∨X.env.kindOf y.1=some .free
 Ko:js.map (fun j=>X.N[j]?)=cs.map some
 cell:∀x∈cs,X.env.scope.names.lookup x=some .cell
def An(sc:Scope)(N:List Str)(scope:Scope)(y:Str)(cs:List Str)(js:List Nat):Prop :=
 ((scope.kind == .function)=true∧scope.isCoroutine=false∧scope.isGenerator=false)∧(∀x∈scope.names,(x.2 == .cell)=false)∧(scope.names.lookup y == some .local)=true∧(∀x∈cs,(scope.names.lookup x == some .free)=true) ∧
 (∀y∈scope.names,(y.2 == .free)=true→(sc.names.lookup y.1 == some .cell)=true)∧js.map (fun j=>N[j]?)=cs.map some∧∀x∈cs,(sc.names.lookup x == some .cell)=true
instance (sc:Scope) (N:List Str) (scope:Scope) (y:Str) (cs:List Str) (js:List Nat):Decidable (An sc N scope y cs js):=by unfold An;infer_instance
theorem Mw.of{X:Cx}{scope:Scope}{y:Str}{cs:List Str}{js:List Nat}(sc:Scope)(N:List Str)(h1:X.env.scope=sc)(h2:X.N=N)(h:An sc N scope y cs js):Mw X scope y cs js:=by
 obtain⟨⟨a1,a2,a3⟩,a4,a5,a6,a7,a8,a9⟩:=h;refine⟨⟨by simpa using a1,a2,a3,fun x hx=>by simpa using a4 x hx,by simpa using a5,fun x hx=>by simpa using a6 x hx⟩,fun y hy hf => .inl ?_,by rw [h2];exact a8,fun x hx=>by rw [h1];simpa using a9 x hx⟩;have:=a7 y hy (by simp [hf]);show X.env.scope.names.lookup y.1=some .cell;rw [h1];simpa using this
@[elab_as_elim] theorem Ou{P:List Value→Prop}(us:List Value)(h:us.length=0)(f:P []):P us:=by cases us with | nil=>exact f | cons _ _=>simp at h
@[elab_as_elim] theorem oJ{P:List Value→Prop}(us:List Value)(h:us.length=1)(f:∀a,P [a]):P us:=by
 cases us with
 | nil=>simp at h
 | cons a r=>exact Ou r (by simpa using h) (f a)
@[elab_as_elim] theorem nN{P:List Value→Prop}(us:List Value)(h:us.length=2)(f:∀a b,P [a,b]):P us:=by
 cases us with
 | nil=>simp at h
 | cons a r=>exact oJ (P:=fun r=>P (a::r)) r (by simpa using h) (f a)
@[elab_as_elim] theorem GQ{P:List Value→Prop}(us:List Value)(h:us.length=3)(f:∀a b c,P [a,b,c]):P us:=by
 cases us with
 | nil=>simp at h
 | cons a r=>exact nN (P:=fun r=>P (a::r)) r (by simpa using h) (f a)
@[elab_as_elim] theorem Cb{P:List Value→Prop}(us:List Value)(h:us.length=4)(f:∀a b c d,P [a,b,c,d]):P us:=by
 cases us with
 | nil=>simp at h
 | cons a r=>exact GQ (P:=fun r=>P (a::r)) r (by simpa using h) (f a)
@[elab_as_elim] theorem Ca{P:List Value→Prop}(us:List Value)(h:us.length=5)(f:∀a b c d e,P [a,b,c,d,e]):P us:=by
 cases us with
 | nil=>simp at h
 | cons a r=>exact Cb (P:=fun r=>P (a::r)) r (by simpa using h) (f a)
section
variable{X:Cx}{pins:List (Addr×Obj)}{σ:L2.St}{H:Hp}{s:Shared}
theorem Inv.EA(I:Inv X pins σ H s):∃m,s.heap.Ns X.env.locals m∧Fr X.base X.env.locals s.heap m :=
 let ⟨m,hn,_⟩:=I.loc
 ⟨m,hn,hn,I.bk,qJ I.ok.mF I.ok.above⟩
theorem Inv.led(I:Inv X pins σ H s){h':Heap}{m:Str→Option Value}{news:List (Addr×Obj)}(F:Fr X.base X.env.locals h' m)(N:News X.base X.env.locals h' news)(hN:∀p∈YU X.base s.heap X.env.locals,p∈news) :
  ∀b o,b≠X.env.locals→s.heap.get? b=some o→h'.get? b=some o:=fun b o h1 e=>by
 cases q:X.base.get? b with
 | some u =>
  have:=I.bk b u q;rw [e]at this;cases this;exact F.keep b _ q
 | none=>exact(N (b,o) (hN _ (acM h1 q e))).1
end
end V2
namespace L2
open PySem PySem.Spec PyProof.Rows
open PySem PySem.Spec PyProof.Rows Builtin Builtin.ObjectAttr
section
variable{X:Cx}
def Qc(j:Nat):TE:=fun σ H Q=>∃i,σ[j]? = some (some (.int i))∧i.natAbs.log2<1920∧∀x,Q (.str x) H
end
theorem abW{K:Frag}{h:Heap}{N:Addr}{mg:Str→Option Value}{n:Str}{v:Value}(X:K.In h)(G:h.Ns N mg)(e:nsIn K N n=some (some v)):mg n=some v:=by
 obtain⟨o,es,ep,ho,hd,_,hf⟩:=G;unfold nsIn at e;split at e
 ·rename_i c d cZ n' sl q;have:=X _ _ q;rw [ho]at this;cases this;cases hd;split at e
  ·rename_i en he;cases e;rw [← hf];unfold nsFind findBy;rw [← Array.find?_toList,he];rfl
  ·split at e <;> cases e
 ·cases e
def Jn(K:Frag)(C fI:Addr):Bool:=match K.lookup C with
 | some ⟨.type "type",_,.cls cd,sl⟩=>(match cd.mro,sl.toList with
  | .ref C'::bm,[_,_,_,_,some (.builtin n),_]=>C' == C&&n == "ValueError.__new__" && !cd.hasDel&&cd.hasDict&&PySem.W.tailIn K KW bm&&PySem.W.nsOkIn K cd.ns&&nsIn K cd.ns "__init__" == some (some (.ref fI))
  | _,_=>false)
 | _=>false
structure Mg(K:Frag)(C fI:Addr)(fld:Str):Prop where
 SX:Jn K C fI=true
 fn:typeIn K (.ref fI)=some (.type "function")
 al4:findIn K (.ref C) "__setattr__" = some (some (.builtin "object.__setattr__"))
 nof:findIn K (.ref C) fld=some none
theorem Mg.obj{K:Frag}{C fI:Addr}{fld:Str}(O:Mg K C fI fld){h:Heap}(X:K.In h):∃bm N nm q bs sn sub ab col dd k0 k1 k2 k3 k5 mN oI,h.get? C=some (excClassObj nm q C N bs bm true sn sub ab col dd k0 k1 k2 k3 k5 "ValueError.__new__")∧h.Ns N mN∧mN "__init__" = some (.ref fI)∧OwnTail h KW bm∧h.get? fI=some oI∧oI.cls = .type "function":=by
 have q:=O.SX;obtain⟨oI,jU,nV⟩:=sA.mp O.fn;unfold Jn at q;split at q
 ·rename_i dd cd sl ho;split at q
  ·rename_i C' bm k0 k1 k2 k3 n k5 hm hs;simp only [jY,qE,Nd]at q;obtain⟨⟨⟨⟨⟨⟨rfl,rfl⟩,DM⟩,Hz⟩,ht⟩,aH⟩,CZ⟩:=q;obtain⟨nm,bs,mro,ns,qn,hd,sn,sub,ab,col,del⟩:=cd;dsimp only at hm DM aH CZ Hz;subst hm DM Hz;have jT:sl = #[k0,k1,k2,k3,some (.builtin "ValueError.__new__"),k5]:=by
    obtain⟨l⟩:=sl;simp only at hs;rw [hs]
   subst jT;exact⟨bm,ns,nm,qn,bs,sn,sub,ab,col,dd,k0,k1,k2,k3,k5,_,oI,X _ _ ho,.of_isNs (isNs_of_in X aH),abW X (.of_isNs (isNs_of_in X aH)) CZ,PySem.W.tail_of_in X ht,X _ _ jU,nV⟩
  ·cases q
 ·cases q
structure an8(K:Frag)(R:Addr):Prop where
 reads:readsIn K R (.type "type")=true
 find:findCls K (.ref R) (.type "type") "__init__" = some (.val (.builtin "ValueError.__init__"))
 ga:specialIn K (.ref R) "__getattribute__" = some (some (.builtin "type.__getattribute__"))
section
variable{X:Cx}{pins:List (Addr×Obj)}{σ:St}{H:Hp}{s1:Shared}{C fI R e:Addr}{fld qual rk sf pa:Str}{st:Stmt}{fd:FuncData}{t:Tok}{i:Int}{h2:Heap}{k:Nat}{je:Expr}{np ap cp ep p1 p2 YT p3 apos:Pos}
structure an5(st:Stmt)(fld rk sf pa:Str):Prop where
 scope:cU [sf,pa] [sf,pa] (aV st)
 glob:(aV st).names.lookup rk=some .globalImplicit
 amG:(aV st).names.lookup sf=some .local
 amF:(aV st).names.lookup pa=some .local
 dbg:(rk == ("__debug__" : Str))=false∧(sf == ("__debug__" : Str))=false∧(pa == ("__debug__" : Str))=false∧(sf == ("__classdict__" : Str))=false∧(pa == ("__classdict__" : Str))=false
 text:∃(je:Expr) (np ap cp ep p1 p2 YT p3 apos:Pos),dW st=[.Expr (.Call (.Attribute (.Name rk np) "__init__" ap) [.Name sf p1,je] [] cp) ep, .Assign [.Attribute (.Name sf p2) fld YT] (.Name pa p3) apos] ∧
  (∀env,starEach [.Name sf p1,je] env=(false,eval (.Name sf p1) env)::starEach [je] env)∧(∀env,starEach [je] env=(false,eval je env)::starEach [] env) ∧
  (∀env:Env,∃pl,eval (.Call (.Attribute (.Name rk np) "__init__" ap) [.Name sf p1,je] [] cp) env=(do
   let ov ← eval (.Name rk np) env
   standAt ap.atName
   let (f,first) ← holding [ov] (getMethod ov "__init__" pl)
   callWith cp f first (backTo cp (starEach [.Name sf p1,je] env)) [])) ∧
  (∀env,swapsWith (.Call (.Attribute (.Name rk np) "__init__" ap) [.Name sf p1,je] [] cp) none ep.line env=pure false) ∧
  (∀env,swapsWith (.Name pa p3) (some (.Attribute (.Name sf p2) fld YT)) apos.line env=pure false) ∧
  (∀Y:Cx,Y.N=[sf,pa]→Y.env.scope=aV st→PE Y je (Qc 1))
end
structure XAt(K:Frag)(D:Addr)(fld:Str):Prop where
 ga:findIn K (.ref D) "__getattribute__" = some (some (.builtin "BaseException.__getattribute__"))
 gx:findIn K (.ref D) "__getattr__" = some none
 no:findIn K (.ref D) fld=some none
 be:subIn K (.ref D) (.type "BaseException")=some true
 hd:(clsIn K D).any (·.hasDict)=true
end L2
namespace V2
open PySem PySem.Spec PyProof.Rows L2
section
variable{K:Frag}{G H:Hp}{ι:List Addr}{Ω:aI}{d:Addr}
theorem Wd.neG(w:Wd K G ι Ω H)(hd:H d=none){a:Addr}{o:HO}(h:G a=some o):a≠d:=fun z=>by
 have:=w.sub _ _ h;rw [z,hd]at this;cases this
theorem Wd.ahD(w:Wd K G ι Ω H)(hd:H d=none)(o:HO):Ext G ι (upd G d o) ι:=⟨fun a u h=>by rw [aT (w.neG hd h)];exact h,fun _ _ h=>h⟩
theorem Wd.up(w:Wd K G ι Ω H)(hd:H d=none)(o:HO):Wd K (upd G d o) ι Ω (upd H d o):=w.new hd o
end
def ak6(e:Exc)(d:Addr)(dx:Option Addr):Prop:=(e.fs=[]∧dx=none)∨(e.fs≠[]∧dx=some d)
structure Cau(K:Frag)(oe:Obj)(d:Addr)(e:Exc):Prop where
 dat:∃vs,oe.data = .fields vs
 cls:∃E,nsIn K mainGlobals e.cls=some (some (.ref E))∧oe.cls = .ref E
 dic:ak6 e d oe.dict
def jO:Hp→List Addr→List (List V)→Hp
 | H,a::as,t::ts=>jO (upd H a (.tup t)) as ts
 | H,[],_=>H
 | H,_::_,[]=>H
theorem Ov{H:Hp}{a b:Addr}{o u:HO}(h:a≠b):upd (upd H a o) b u=upd (upd H b u) a o:=by
 funext c
 by_cases h1:c=a
 ·subst h1;rw [aT h,cW,cW]
 ·by_cases h2:c=b
  ·subst h2;rw [cW,aT h1,cW]
  ·rw [aT h2,aT h1,aT h1,aT h2]
theorem Cc{l:Addr}{o:HO}:∀(as:List Addr) (ts:List (List V)) (H:Hp),l∉as→jO (upd H l o) as ts=upd (jO H as ts) l o
 | [],ts,H,_=>by cases ts <;> rfl
 | a::as,[],H,_=>rfl
 | a::as,t::ts,H,h=>by
  have lK:l≠a:=fun e=>h (by rw [e];exact List.mem_cons_self ..);show jO (upd (upd H l o) a (.tup t)) as ts=upd (jO (upd H a (.tup t)) as ts) l o;rw [Ov lK];exact Cc as ts _ fun e=>h (fP _ e)
theorem IV{P:Program}{w:World}{k:Key}{u:Value}(h:(eO P w).is k u=true):RelV (kV k) u:=by
 rcases pT (k:=k) (v:=u) h with⟨i,t,q1,q2⟩ | ⟨x,t,q1,q2⟩
 ·subst q1;exact⟨t,q2⟩
 ·subst q1;exact⟨t,q2⟩
section
variable{X:Cx}{W:WX}
theorem NY{pins:List (Addr×Obj)}{σ:L2.St}{s2 s3:Shared}{H0:Hp}(I2:Inv X pins σ H0 s2):∀(as:List Addr) (ts:List (List V)) (H:Hp),Inv X pins σ H s3→as.length=ts.length→as.Nodup→(∀a∈as,s2.heap.objs.size≤a∧H a=none) →
  (∀(j:Nat) (a:Addr) (t:List V),as[j]? = some a→ts[j]? = some t→t.length≤sizeLine∧∃aN n,Vals t aN∧s3.heap.get? a=some { cls := .type "tuple",data := .seq aN.toArray n })→Inv X pins σ (jO H as ts) s3
 | [],[],H,I,_,_,_,_=>I
 | [],_::_,H,I,hl,_,_,_=>by simp at hl
 | _::_,[],H,I,hl,_,_,_=>by simp at hl
 | a::as,t::ts,H,I,hl,hn,hb,ho=>by
  obtain⟨h1,h2⟩:=hb a nR;obtain⟨hz,aN,n,rv,e⟩:=ho 0 a t rfl rfl;have aH:dO X.prog X.w (upd H a (.tup t)) s3.heap:=by
   refine fun b o q=>?_
   by_cases eb:b=a
   ·subst eb;rw [cW]at q;cases q;exact⟨hz,aN,rv,⟨_,e,rfl,_,rfl⟩⟩
   ·rw [aT eb]at q;exact(I.aH b o q).lI (fun c v _ z=>z) (fun c z=>by rw [aT (gE z h2)];exact z) fun c xs z=>by rw [aT (gE z h2)];exact z
  have fp:nI X pins H a:=I2.wH h1 h2;have h0:X.s₀.heap.get? a=none:=by
   cases q:X.s₀.heap.get? a with
   | none=>rfl
   | some ob=>exact absurd (jJ (bO q) (qJ I2.sz h1)) (Nat.lt_irrefl _)
  have I':=Inv.Ci I h2 h0 fp.2.1 fp.2.2.2.2.1 fp.2.2.2.2.2 aH;rw [lU]at hn;exact NY I2 as ts _ I' (by simpa using hl) hn.2 (fun b rO=>⟨(hb b (fP _ rO)).1,by rw [aT (fun z=>hn.1 (by rw [← z];exact rO))];exact(hb b (fP _ rO)).2⟩) (fun j b u e1 e2=>ho (j+1) b u e1 e2)
theorem HV{α β:Type}{F:α→β→Prop}:∀{l₁:List α} {l₂:List β},Paired F l₁ l₂→∀{j:Nat} {a:α},l₁[j]? = some a→∃b,l₂[j]? = some b∧F a b
 | _,_,.nil,j,a,h=>by simp at h
 | _,_,.cons r _,0,a,h=>by cases h;exact⟨_,rfl,r⟩
 | _,_,.cons _ rs,j+1,a,h=>by obtain⟨b,q,f⟩:=HV rs (j:=j) (by simpa using h);exact⟨b,by simpa using q,f⟩
theorem GL:∀as:List Addr,Vals (as.map V.ref) (as.map Value.ref)
 | [] => .nil
 | a::as => .cons rfl (GL as)
theorem aaF{o:Expr}{td:TE}{p1 apos q1 q2:Pos}(hc:X.calm=true)(oW:Gl X "list")(oV:X.mg "list" = none)(ho:PE X o td)
  (hs:starEach [.Call (.Attribute o "items" apos) [] [] q2] X.env=[(false,eval (.Call (.Attribute o "items" apos) [] [] q2) X.env)]:=by rfl)
  (gS:attributeBase o "items" X.env (eval o X.env)=eval o X.env:=by rfl) (gR:(apos.endLine == q2.line)=true:=by rfl) :
  PE X (.Call (.Name "list" p1) [.Call (.Attribute o "items" apos) [] [] q2] [] q1) (fun σ H Q=>td σ H fun x H1=>∃a kvs,x = .ref a∧H1 a=some (.dK kvs) ∧
   ∀(as:List Addr) (l:Addr),as.length=kvs.length→as.Nodup→l∉as→(∀b∈as,H1 b=none)→H1 l=none→Q (.ref l) (upd (jO H1 as (kvs.map fun kv=>[kV kv.1,kv.2])) l (.lst (as.map V.ref)))):=by
 intro pins s σ H Q I h;refine sQ (rF I oW oV LV ?_);refine LU ?_ hs rfl;rw [hs];show wpAny _ _ (spliced ((false,eval (.Call (.Attribute o "items" apos) [] [] q2) X.env)::[])) _ _ s;refine AK ?_;refine GC gS gR (aW (ho pins s σ H _ I h) fun v s1 ⟨x,H1,I1,r1,q1⟩=>?_);obtain⟨a,kvs,rfl,hH,q⟩:=q1;cases r1;obtain⟨h1,h2,oS⟩:=vH I1 (.inl ⟨kvs,.inl hH⟩);obtain⟨z,_,vs,rel,dd⟩:=wM I1.aH hH;refine⟨"dict", "dict.items",PySem.F.plainAttrs_dict,PySem.F.slot_dict_items,PySem.F.type_dict_items,h1,h2,AL rfl (PySem.evalArgs_none ?_)⟩;refine zP PySem.F.slot_dict_items dd.typeIs PySem.F.entry_dict_items (PySem.F.args_dict_items_1 _) (meets_dict_items (eO X.prog X.w) a oS) ⟨⟨vs,dd⟩,?_⟩;refine FW ?_;have I2:Inv X pins σ H1 { s1 with heap:=s1.heap.push { cls := .type "dict_items",data := .fields #[.ref a] } }:=I1.kept (t':=s1.toks) fun b o e=>bP _ e;obtain⟨ep,rP⟩:=dd.dictAt;have CS:kvs.length=vs.length:=rel.length;refine PySem.W.kdx_call (knd:=eO X.prog X.w) (kvs:=vs) (ep:=ep) (s:={ s1 with heap:=s1.heap.push { cls := .type "dict_items",data := .fields #[.ref a] } }) (I2.ok.hd hc) ⟨_,dY _ rfl,rfl,rfl⟩ (rP.push _) (by omega) fun h' tk acc c as hk hS hl hG iQ=>?_;generalize iP:({ s1 with heap:=s1.heap.push { cls := .type "dict_items",data := .fields #[.ref a] } }:Shared)=s2 at I2 hk hS hG;have yS:as.Nodup:=hG.rise.imp fun h=>cK h;have lK:s2.heap.objs.size∉as:=fun z=>absurd (hG.above _ z) (Nat.lt_irrefl _);have rN:∀b∈as,s2.heap.objs.size≤b:=fun b hb=>LW (hG.above b hb);have hsz:as.length≤sizeLine:=by omega
 have I3:Inv X pins σ (upd H1 s2.heap.objs.size (.lst (as.map V.ref))) { s2 with heap:=h',toks:=tk }:=I2.laid (t':=tk) (o := .lst (as.map V.ref)) hk bG ⟨by rw [dN];exact hsz,as.map Value.ref,c,GL as,by rw [← iQ];exact hS⟩;have I4:=NY I2 as (kvs.map fun kv=>[kV kv.1,kv.2]) _ I3 (by simp;omega) yS (fun b hb=>⟨rN b hb,by rw [aT (fun z=>lK (by rw [← z];exact hb))];exact I2.aH.fresh (rN b hb)⟩) (fun j b t e1 e2=>by
  obtain⟨key,k,x,g1,g2,g3⟩:=hG.pairs j b e1;rw [iM]at e2;cases g4:kvs[j]? with
  | none=>rw [g4]at e2;cases e2
  | some kv =>
   rw [g4]at e2;cases e2;obtain⟨rG,g5,g6,g7⟩:=HV rel g4;rw [g1]at g5;cases g5;refine⟨by show 2≤sizeLine;decide,[key,x],0,.cons (by rw [g6];exact IV g2) (.cons g7 .nil),g3⟩)
 rw [Cc as _ H1 lK]at I4;exact⟨.ref s2.heap.objs.size,_,I4,rfl,q as _ (by omega) yS lK (fun b hb=>I2.aH.fresh (rN b hb)) (I2.aH.fresh bG)⟩
end
def kA:Key→A
 | .inl i => .int i
 | .inr s => .str s
theorem XH{K:Frag}{G:Hp}{ι:List Addr}(k:Key):Den K G ι (kV k) (kA k):=by cases k <;> simp only [kV,kA,Den]
def kS(kv:Key×A):A := .tup [kA kv.1,kv.2]
section
variable{K:Frag}
theorem NT{Ω:aI}:∀(as:List Addr) (ws:List (Key×V)) (kvs:List (Key×A)) (G H:Hp) (ι:List Addr),Wd K G ι Ω H→as.length=ws.length→as.Nodup→(∀b∈as,H b=none)→ws.map (·.1)=kvs.map (·.1)→aK K G ι (ws.map (·.2)) (kvs.map (·.2)) →
  ∃G',Ext G ι G' ι∧Wd K G' ι Ω (jO H as (ws.map fun kv=>[kV kv.1,kv.2]))∧aK K G' ι (as.map V.ref) (kvs.map kS)
 | [],[],[],G,H,ι,w,_,_,_,_,_=>⟨G,Ext.refl _ _,w,by rw [oB,oB,kZ]⟩
 | [],[],_::_,_,_,_,_,_,_,_,h,_=>by simp at h
 | [],_::_,_,_,_,_,_,h,_,_,_,_=>by simp at h
 | _::_,[],_,_,_,_,_,h,_,_,_,_=>by simp at h
 | _::_,_::_,[],_,_,_,_,_,_,_,h,_=>by simp at h
 | a::as,wv::ws,kv::kvs,G,H,ι,w,hl,hn,hb,hk,d=>by
  rw [cF,cF]at d hk;obtain⟨x,r,hx,d1,d2⟩:=d.gX;obtain⟨rfl,rfl⟩:=FD hx;obtain⟨fT,eY⟩:=FD hk;rw [lU]at hn;have ha:=hb a nR;have e0:=w.ahD ha (.tup [kV wv.1,wv.2]);have w':=w.up ha (.tup [kV wv.1,wv.2]);obtain⟨G',e1,w1,d3⟩:=NT as ws kvs _ _ ι w' (by simpa using hl) hn.2 (fun b rO=>by rw [aT (fun z=>hn.1 (by rw [← z];exact rO))];exact hb b (fP _ rO)) eY (d2.ext e0);refine⟨G',e0.trans e1,w1,?_⟩;rw [cF,cF];refine .cons ?_ d3;simp only [kS,Den];refine⟨a,[kV wv.1,wv.2],rfl,e1.same _ _ cW,.cons (by rw [fT];exact XH _) (.cons (d1.ext (e0.trans e1)) (by rw [kZ]))⟩
end
end V2
namespace L2
open PySem PySem.Spec PyProof.Rows
theorem ahL:entryFor table "dict_itemiterator.__iter__" = some Builtin.«dict_keyiterator.__iter__» :=
 entryFor_alias (id' := "dict_keyiterator.__iter__") (by kernel_rfl) (by rfl) (by decide +kernel) (by kernel_rfl)
theorem adU{prog:Program}{w:World}{A:Around}{E:Value→Shared→Prop}{s:Shared}{it d:Addr}{i n ep:Nat}{ok ov:Value}{Q:Value→Shared→Prop}(h:IsItemIter s.heap it d i n ep ok ov)(q:Q (.ref it) s):wpAny (model prog w) A (pyIter (.ref it)) Q E s:=by
 have ty:s.TypeIs (.ref it) "dict_itemiterator":=⟨_,h,rfl⟩;exact wpAny_pyIter_slot ty F.slot_dict_itemiterator_iter (oH F.slot_dict_itemiterator_iter ty ahL (aS ⟨_,rfl,_,_,ty,F.slot_dict_itemiterator_next.lookup,q⟩) (F.args_dict_itemiterator_iter_1 _))
end L2
namespace V2
open PySem PySem.Spec PyProof.Rows L2
def Al(a:Addr)(o:Obj)(kvs:List (Key×V)):It :=
 ⟨fun i H=>H a=some (.bW o (.dK kvs))∧i<kvs.length,fun i H x H'=>∃p kv,kvs[i]? = some kv∧H p=none∧H'=upd H p (.tup [kV kv.1,kv.2])∧x = .ref p,fun i H=>H a=some (.bW o (.dK kvs))∧kvs.length≤i⟩
theorem Ja{X:Cx}{pins:List (Addr×Obj)}{σ:L2.St}{H:Hp}{s:Shared}{a:Addr}{o:Obj}{kvs:List (Key×V)}{es:Array DictEntry}{ep:Nat}(I:Inv X pins σ H s)(h:H a=some (.bW o (.dK kvs)))(hd:o.data = .dict es ep) :
  ∃vs,KV kvs vs∧Heap.DictAt (eO X.prog X.w) s.heap a vs ep:=by
 obtain⟨h1,z,y,vs,rel,o',cZ,KD,q1,q2,q3,q4⟩:=I.aH a _ h;rw [h1]at q1;cases q1;rw [hd]at q3;cases q3;exact⟨vs,rel,o,es,h1,q2,hd,q4⟩
theorem Pg{P:Program}{w:World}{K:Frag}{elts:List Expr}{x1:Nat}{tp:Pos}(a it:Addr)(o:Obj)(kvs:List (Key×V))(es:Array DictEntry)(ep:Nat)(hd:o.data = .dict es ep) :
  Turn P w K (.Tuple elts x1 tp) (Al a o kvs) [it] it (fun i h=>∃ok ov,IsItemIter h it a i kvs.length ep ok ov)where
 mem:=by simp
 obj:=fun i h st c hc=>by
  obtain⟨ok,ov,st⟩:=st;have e:c=it:=by simpa using hc
  subst e;exact⟨_,st,fun v z=>by cases z⟩
 keep:=fun i h h' st k=>by
  obtain⟨ok,ov,st⟩:=st;exact⟨ok,ov,k it (by simp) _ st⟩
 item:=by
  intro X hP hw hK hc i pins s σ H E I hf st hg;subst hP hw hK;obtain⟨ok,ov,st⟩:=st;obtain⟨hH,hi⟩:=hg;obtain⟨vs,rel,dat⟩:=Ja I hH hd;have hl:kvs.length=vs.length:=rel.length;have UD:kvs[i]? = some kvs[i]:=jK hi;generalize kvs[i]=kv at UD;obtain⟨rG,g1,g2,g3⟩:=HV rel UD;have hsz:it<s.heap.objs.size:=bO st;rw [hl]at st;refine wpAny_pyNext_items_item (k:=rG.1) (v:=rG.2) st dat g1 fun key h1 hk a1 a2 a3 a4=>?_;refine⟨_,rfl,wpAny_letOwnedTupleGo_items (s:={ s with heap:=h1 }) a1 fun h2 e2 sb=>?_⟩;have CW:H s.heap.objs.size=none:=I.aH.fresh bG;have k2:∀c o,c∉[it]→s.heap.get? c=some o→h2.get? c=some o:=fun c o hc q=>by
   have hc:c≠it:=by simpa using hc
   exact sb.extBut c o hc (a4 c o hc q)
  have t2:h2.get? s.heap.objs.size=some { cls := .type "tuple",data := .seq #[key,rG.2] }:=sb.extBut _ _ (zW hsz) a2;have I1:Inv X pins σ H { s with heap:=h2 }:=Inv.Ce (t':=s.toks) I k2 hf;have rk:RelV (kV kv.1) key:=by rw [g2];exact IV hk
  have aH:dO X.prog X.w (upd H s.heap.objs.size (.tup [kV kv.1,kv.2])) h2:=by
   refine fun b o q=>?_
   by_cases eb:b=s.heap.objs.size
   ·subst eb;rw [cW]at q;cases q;exact⟨by show 2≤sizeLine;decide,[key,rG.2],.cons rk (.cons g3 .nil),⟨_,t2,rfl,_,rfl⟩⟩
   ·rw [aT eb]at q;exact(I1.aH b o q).lI (fun c v _ z=>z) (fun c z=>by rw [aT (gE z CW)];exact z) fun c xs z=>by rw [aT (gE z CW)];exact z
  have fp:nI X pins H s.heap.objs.size:=I.wH bG CW;have h0:X.s₀.heap.get? s.heap.objs.size=none:=by
   cases q:X.s₀.heap.get? s.heap.objs.size with
   | none=>rfl
   | some ob=>exact absurd (jJ (bO q) I.sz) (Nat.lt_irrefl _)
  have I2:Inv X pins σ (upd H s.heap.objs.size (.tup [kV kv.1,kv.2])) { s with heap:=h2 }:=Inv.Ci I1 CW h0 fp.2.1 fp.2.2.2.2.1 fp.2.2.2.2.2 aH;rw [← hl]at e2;refine⟨.ref s.heap.objs.size,_,I2,rfl,⟨_,kv,UD,CW,rfl,rfl⟩,⟨_,_,e2⟩,fun c hc=>?_⟩;have JO:=(hf c hc).1;have e:c=it:=by simpa using hc
  subst e;rw [aT (cK hsz)];exact JO
 done:=by
  intro X hP hw hK hc i pins s σ H E I hf st hg;subst hP hw hK;obtain⟨ok,ov,st⟩:=st;obtain⟨hH,hi⟩:=hg;obtain⟨vs,rel,dat⟩:=Ja I hH hd;have hl:kvs.length=vs.length:=rel.length;rw [hl]at st;refine wpAny_pyNext_items_end (I.ok.hd hc) st dat (by simp;omega) fun h' hk=>⟨rfl,Inv.Ce (t':=s.toks) I (fun c o hc q=>hk c o (by simpa using hc) q) hf⟩
 self:=fun _ _ _ _ _ st h=>by
  obtain⟨ok,ov,st⟩:=st;exact adU st h
theorem Inv.agZ{X:Cx}{pins:List (Addr×Obj)}{σ:L2.St}{H:Hp}{s:Shared}{a:Addr}{kvs:List (Key×V)}{o:Obj}(I:Inv X pins σ H s)(h:H a=some (.dK kvs))(ho:s.heap.get? a=some o):Inv X pins σ (upd H a (.bW o (.dK kvs))) s where
 ok:=I.ok
 os:=I.os
 bare:=I.bare
 base:={
  keep:=I.base.keep
  slot:=I.base.slot
  free:=fun b ob q n hx=>by
   have z:=I.base.free b ob q n hx;rw [aT (bT (gE h z))];exact z
  there:=I.base.there
  iW:=fun b xs q=>by have z:=I.base.iW b xs q;rw [aT (pQ z h (by intro w;cases w))];exact z
  iJ:=fun b ob u q=>by have z:=I.base.iJ b ob u q;rw [aT (pQ z h (by intro w;cases w))];exact z
  iY:=fun b ps q=>by obtain⟨more,z⟩:=I.base.iY b ps q;exact⟨more,by rw [aT (pQ z h (by intro w;cases w))];exact z⟩ }
 loc:=I.loc
 cell:=I.cell
 free:=by rw [aT (bT (gE h I.free))];exact I.free
 hU:=fun x c q=>by rw [aT (bT (gE h (I.hU x c q)))];exact I.hU x c q
 pin:=fun q hq=>by
  obtain⟨x,y,c⟩:=I.pin q hq;exact⟨x,by rw [aT (bT (gE h y))];exact y,c⟩
 aH:=fun b u q=>by
  have st:∀c v,H c=some v→v ≠ .dK kvs→upd H a (.bW o (.dK kvs)) c=some v:=fun c v z hv=>by rw [aT (pQ z h hv)];exact z
  by_cases eb:b=a
  ·subst eb;rw [cW]at q;cases q;exact⟨ho,(I.aH b _ h).lI (fun c v _ z=>z) (fun c z=>st c _ z (by intro w;cases w)) fun c xs z=>st c _ z (by intro w;cases w)⟩
  ·rw [aT eb]at q;exact(I.aH b u q).lI (fun c v _ z=>z) (fun c z=>st c _ z (by intro w;cases w)) fun c xs z=>st c _ z (by intro w;cases w)
 len:=I.len
section
variable{X:Cx}{W:WX}{pos:Pos}
theorem Zm{o:Expr}{td:TE}{elts:List Expr}{x1:Nat}{tp apos q2:Pos}(ho:PE X o td)(gS:attributeBase o "items" X.env (eval o X.env)=eval o X.env:=by rfl)(gR:(apos.endLine == q2.line)=true:=by rfl) :
  PI X (.Tuple elts x1 tp) (.Call (.Attribute o "items" apos) [] [] q2) (fun σ H R=>td σ H fun x H1=>∃a kvs,x = .ref a∧H1 a=some (.dK kvs)∧∀ob,R (Al a ob kvs) (upd H1 a (.bW ob (.dK kvs)))):=by
 intro pins s σ H R I h;refine GC gS gR (aW (ho pins s σ H _ I h) fun v s1 ⟨x,H1,I1,r1,q1⟩=>?_);obtain⟨a,kvs,rfl,hH,q⟩:=q1;cases r1;obtain⟨h1,h2,oS⟩:=vH I1 (.inl ⟨kvs,.inl hH⟩);obtain⟨z,_,vs,rel,dd⟩:=wM I1.aH hH;refine⟨"dict", "dict.items",PySem.F.plainAttrs_dict,PySem.F.slot_dict_items,PySem.F.type_dict_items,h1,h2,AL rfl (PySem.evalArgs_none ?_)⟩;refine zP PySem.F.slot_dict_items dd.typeIs PySem.F.entry_dict_items (PySem.F.args_dict_items_1 _) (meets_dict_items (eO X.prog X.w) a oS) ⟨⟨vs,dd⟩,?_⟩;obtain⟨ob,es,ep,g1,g2,g3,g4⟩:=dd;have hl:kvs.length=vs.length:=rel.length;have I2:Inv X pins σ H1 { s1 with heap:=s1.heap.push { cls := .type "dict_items",data := .fields #[.ref a] } }:=I1.kept (t':=s1.toks) fun b o e=>bP _ e;have dat:Heap.DictAt (eO X.prog X.w) (s1.heap.push { cls := .type "dict_items",data := .fields #[.ref a] }) a vs ep:=⟨ob,es,bP _ g1,g2,g3,g4⟩;refine wpAny_pyIter_items (s:={ s1 with heap:=s1.heap.push { cls := .type "dict_items",data := .fields #[.ref a] } }) ⟨_,dY _ rfl,rfl,rfl⟩ dat ?_;generalize iP:({ s1 with heap:=s1.heap.push { cls := .type "dict_items",data := .fields #[.ref a] } }:Shared)=s2 at I2 dat;have ga:s2.heap.get? a=some ob:=by rw [← iP];exact bP _ g1
 have I3:=V2.Inv.agZ I2 hH ga;have I4:Inv X pins σ (upd H1 a (.bW ob (.dK kvs))) { s2 with heap:=s2.heap.push { cls := .type "dict_itemiterator",data := .fields #[.none,.bool false,.ref a,.int 0 0,.int vs.length 0,.int ep 0,.none,.none] } }:=I3.kept (t':=s2.toks) fun b o e=>bP _ e;have hs3:s2.heap=s1.heap.push { cls := .type "dict_items",data := .fields #[.ref a] }:=by rw [← iP]
 refine⟨s2.heap.objs.size,[s2.heap.objs.size],_,_,_,rfl,I4,Pg a _ ob kvs es ep g3,⟨.none,.none,by rw [hl];exact dY _ rfl⟩,fun c hc=>?_,q ob⟩;have e:c=s2.heap.objs.size:=by simpa using hc
 subst e;exact I3.wH bG (I3.aH.fresh bG)
def IU(kvs:List (Key×A)):Src:=⟨kvs.map kS,fun _=>True⟩
theorem adT{K:Frag}{G:Hp}{ι:List Addr}{p:Addr}{o:Obj}{ws:List (Key×V)}{kvs:List (Key×A)}(hG:G p=some (.bW o (.dK ws)))(hk:ws.map (·.1)=kvs.map (·.1))(d:aK K G ι (ws.map (·.2)) (kvs.map (·.2))):sH K G ι (Al p o ws) (IU kvs):=by
 have hl:ws.length=kvs.length:=by have:=congrArg List.length hk;simpa using this
 have ls:(IU kvs).ds.length=kvs.length:=by simp [IU]
 refine⟨fun G' ι' Ω' H' e w h i hi=>⟨w.sub _ _ (e.same _ _ hG),by rw [hl,← ls];exact hi⟩,fun G' ι' Ω' H' e w h i hi=>⟨w.sub _ _ (e.same _ _ hG),by rw [hl,← ls];exact hi⟩,fun G' ι' Ω' H' e w h i x H2 y hy hd=>?_⟩;obtain⟨q,kv,g1,g2,rfl,rfl⟩:=hd;have CQ:(kvs.map kS)[i]? = some y:=hy;rw [iM]at CQ;cases ek:kvs[i]? with
 | none=>rw [ek]at CQ;cases CQ
 | some rG =>
  rw [ek]at CQ;cases CQ;have k1:kv.1=rG.1:=by
   have:=congrArg (fun l=>l[i]?) hk;simp only [iM,g1,ek,EV,gW]at this;exact this
  obtain⟨z,z1,z2⟩:=d.get (i:=i) (d:=rG.2) (by rw [iM,ek];rfl);rw [iM,g1]at z1;cases z1;refine⟨upd G' q (.tup [kV kv.1,kv.2]),Ext.new (w.mD g2) _,w.new g2 _,?_⟩;simp only [kS,Den];exact⟨q,[kV kv.1,kv.2],rfl,cW,.cons (by rw [k1];exact XH _) (.cons ((z2.ext e).ext (Ext.new (w.mD g2) _)) .nil)⟩
end
section
variable{P:Program}{w:World}{K:Frag}{mg:Str→Option Value}{base:Heap}
structure Mx(K:Frag)(x qual:Str)(st:Stmt)(f T:Addr)(fd:FuncData):Prop where
 ex:∃(oc:Value) (od:Option Addr) (kV doc pm:Value) (an:Option Addr) (aR ct:Value) (gJ:Array (Option Value)),
  fd=fnOf x qual (iR st) (dW st) (aV st) (.ref T) kV doc pm an aR ct∧K.lookup f=some ⟨oc,od,.func fd,gJ⟩∧codeIn K aR qual=true
structure MJ(K:Frag)(mg:Str→Option Value)(cls m qual:Str)(st:Stmt)(dv:Array Value):Prop where
 ex:∃C f fd T o n,nsIn K mainGlobals cls=some (some (.ref C))∧mg cls=some (.ref C)∧kI K C∧Meth K C m f∧Mx K m qual st f T fd∧K.lookup T=some o∧o.data = .seq dv n
theorem bU.ofD{cls m qual:Str}{st:Stmt}{N ps:List Str}{k:Nat}{b:MS}{dv:Array Value}{ds:List Value}{dvs:List V}{das:List A}(h:MJ K mg cls m qual st dv)(hv:Vals dvs ds)(hd:∀G ι,aK K G ι dvs das)(S:cU N ps (aV st))
  (bind:∀(T:Addr) (kV doc pm:Value) (an:Option Addr) (aR ct:Value) (us:List Value),us.length+ds.length=ps.length→∃k,bindArgs (fnOf m qual (iR st) (dW st) (aV st) (.ref T) kV doc pm an aR ct) ⟨us,[]⟩=seqItems? (.ref T) >>= k∧k (some dv)=pure (ps.zip (us++ds)))
  (iI:∀(f:Addr) (aR:Value) (A:Around) (outer:List Env) (s:Shared) (H:Hp) (E:XK),bN k (A.deeper (envOfC qual (aV st) s.heap.objs.size f aR)) →
   jW (nE P w K mg base N qual (aV st) f aR A outer s H E) (fun _=>E) (dW st) b):bU P w K mg base cls m (k+1) ps.length das (dQ N.length b):=by
 obtain⟨C,f,fd,T,o,n,h1,_,h2,h3,F,hT,ho⟩:=h.ex;obtain⟨oc,od,kV,doc,pm,an,aR,ct,gJ,rfl,lk,jE⟩:=F.ex;refine⟨C,f,_,ps,ds,dvs,h1,h2,h3,rfl,EC lk jE S (fun vs H Q E h=>h.1) fun A outer s H vs Q E hr iH=>?_,fun s us hK hl=>?_,hv,hd⟩
 ·obtain⟨t,p,q⟩:=iI f aR A outer s H E hr;exact⟨t,IM p,XZ q iH⟩
 ·obtain⟨k',e1,e2⟩:=bind T kV doc pm an aR ct us (by rw [← qK];exact hl);exact BindsTo.of_defaults rfl (hK _ _ hT) ho e1 e2
end
end V2
namespace L2
open PySem
theorem bN.m{j k:Nat}{A:Around}(r:bN k A)(h:j≤k:=by first | decide | omega):bN j A:=r.mono h
end L2
namespace V2
open PySem L2 PyProof.Rows
variable{P:Program}{w:World}{K:Frag}{mg:Str→Option Value}{base:Heap}
theorem ai0{h:Heap}{x:Str}{v:Int}{t:Tok}(X:K.In h)(G:h.Ns mainGlobals mg)(a:nsIn K mainGlobals x=some (some (.int v t))):∃t,mg x=some (.int v t):=⟨_,mg_of X G a⟩
structure lD(K:Frag)(X:Addr)(m q:Str)(st:Stmt):Prop where
 ex:∃f fd,Meth K X m f∧mL K m q st f fd
theorem mW{X f:Addr}{m q:Str}{st:Stmt}{oc:Value}{od an:Option Addr}{gJ:Array (Option Value)}{kV doc pm aR ct:Value}(a:findIn K (.ref X) m=some (some (.ref f)))
  (l:K.lookup f=some ⟨oc,od,.func (fnOf m q (iR st) (dW st) (aV st) .none kV doc pm an aR ct),gJ⟩) (c:codeIn K aR q=true) (k:keepIn K (.ref f)=true) (i:isFn K (.ref f)=true):lD K X m q st:=⟨f,_,⟨a,i,k⟩,DZ l c k⟩
theorem lD.has{h:Heap}{cls m q:Str}{st:Stmt}{C:Addr}(M:lD K C m q st)(X:K.In h)(G:h.Ns mainGlobals mg)(n:nsIn K mainGlobals cls=some (some (.ref C)))(L:kI K C):lE K mg cls m q st :=
 let ⟨f,fd,a,b⟩:=M.ex; ⟨C,f,fd,n,mg_of X G n,L,a,b⟩
structure MG(K:Frag)(X:Addr)(q:Str)(st:Stmt):Prop where
 ex:∃f fd,Mk K X f∧mL K "__init__" q st f fd
theorem ad7{X f:Addr}{q:Str}{st:Stmt}{oc:Value}{od an:Option Addr}{gJ:Array (Option Value)}{kV doc pm aR ct:Value}(a:findIn K (.ref X) "__init__" = some (some (.ref f)))
  (l:K.lookup f=some ⟨oc,od,.func (fnOf "__init__" q (iR st) (dW st) (aV st) .none kV doc pm an aR ct),gJ⟩) (c:codeIn K aR q=true) (k:keepIn K (.ref f)=true) (i:isFn K (.ref f)=true)
  (mk:makesIn K X=true) (kc:keepIn K (.ref X)=true):MG K X q st:=⟨f,_,⟨mk,a,i,kc⟩,DZ l c k⟩
theorem MG.has{h:Heap}{cls q:Str}{st:Stmt}{C:Addr}(M:MG K C q st)(X:K.In h)(G:h.Ns mainGlobals mg)(n:nsIn K mainGlobals cls=some (some (.ref C))):MK K mg cls q st :=
 let ⟨f,fd,a,b⟩:=M.ex; ⟨C,f,fd,n,mg_of X G n,a,b⟩
structure LX(K:Frag)(X:Addr)(m q:Str)(st:Stmt)(dv:Array Value):Prop where
 ex:∃f fd T o n,Meth K X m f∧Mx K m q st f T fd∧K.lookup T=some o∧o.data = .seq dv n
theorem acH{X f T:Addr}{m q:Str}{st:Stmt}{oc tc:Value}{od an td:Option Addr}{gJ ts:Array (Option Value)}{kV doc pm aR ct:Value}{n:Nat}{dv:Array Value}(a:findIn K (.ref X) m=some (some (.ref f)))
  (l:K.lookup f=some ⟨oc,od,.func (fnOf m q (iR st) (dW st) (aV st) (.ref T) kV doc pm an aR ct),gJ⟩) (c:codeIn K aR q=true) (k:keepIn K (.ref f)=true) (i:isFn K (.ref f)=true)
  (t:K.lookup T=some ⟨tc,td,.seq dv n,ts⟩):LX K X m q st dv:=⟨f,_,T,_,n,⟨a,i,k⟩,⟨⟨_,_,_,_,_,_,_,_,_,rfl,l,c⟩⟩,t,rfl⟩
theorem LX.has{h:Heap}{cls m q:Str}{st:Stmt}{C:Addr}{dv:Array Value}(M:LX K C m q st dv)(X:K.In h)(G:h.Ns mainGlobals mg)(n:nsIn K mainGlobals cls=some (some (.ref C)))(L:kI K C):MJ K mg cls m q st dv :=
 let ⟨f,fd,T,o,k,a,b,c,d⟩:=M.ex; ⟨C,f,fd,T,o,k,n,mg_of X G n,L,a,b,c,d⟩
theorem fN{N P:List Str}{sc:Scope}(a:sc.kind = .function:=by rfl)(b:sc.isCoroutine=false:=by rfl)(c:sc.isGenerator=false:=by rfl)(d:N.Nodup:=by decide +kernel)(e:N.take P.length=P:=by rfl)(f:∀x∈P,sc.names.lookup x=some .local∨sc.names.lookup x=some .cell:=by decide +kernel)(g:∀y∈sc.names,y.2 ≠ .free:=by decide +kernel):cU N P sc:=⟨a,b,c,d,e,f,g⟩
theorem yM{X:Cx}{scope:Scope}{ls:List Str}{js:List Nat}(sc:Scope)(N:List Str)(vM:X.env.scope=sc:=by rfl)(hN:X.N=N:=by rfl)(ok:RF scope sc N js=true:=by decide +kernel):uF X scope ls js := .of sc N vM hN ok
end V2
namespace PySem
open PyProof.Rows
def qH(xs:Array Nat):Prop:=∀i j a b:Nat,i<j→xs[i]? = some a→xs[j]? = some b→a<b
theorem YC(xs:Array Nat)(j:Nat)(hr:qH xs):∀(fuel lo hi:Nat),lo≤hi→hi≤xs.size→hi - lo≤fuel→(∀i a,i<lo→xs[i]? = some a→a<j)→(∀i a,hi≤i→xs[i]? = some a→j≤a) →
  lo≤SetTable.below.go xs j fuel lo hi∧SetTable.below.go xs j fuel lo hi≤xs.size∧(∀i a,i<SetTable.below.go xs j fuel lo hi→xs[i]? = some a→a<j)∧(∀i a,SetTable.below.go xs j fuel lo hi≤i→xs[i]? = some a→j≤a)
 | 0,lo,hi,h1,h2,h3,h4,h5=>by
  have:lo=hi:=by omega
  subst this;exact⟨mJ _,h2,h4,h5⟩
 | fuel+1,lo,hi,h1,h2,h3,h4,h5=>by
  unfold SetTable.below.go
  by_cases cP:lo<hi
  ·rw [if_pos cP];have hm:(lo+hi)/2<xs.size:=by omega
   have hg:xs[(lo+hi)/2]? = some xs[(lo+hi)/2]:=WI xs _ hm;have hd:xs.getD ((lo+hi)/2) j=xs[(lo+hi)/2]:=by simp [Array.getD,hm]
   show lo≤(if xs.getD ((lo+hi)/2) j<j then SetTable.below.go xs j fuel ((lo+hi)/2+1) hi else SetTable.below.go xs j fuel lo ((lo+hi)/2))∧(if xs.getD ((lo+hi)/2) j<j then SetTable.below.go xs j fuel ((lo+hi)/2+1) hi else SetTable.below.go xs j fuel lo ((lo+hi)/2))≤xs.size∧(∀i a,i<(if xs.getD ((lo+hi)/2) j<j then SetTable.below.go xs j fuel ((lo+hi)/2+1) hi else SetTable.below.go xs j fuel lo ((lo+hi)/2))→xs[i]? = some a→a<j)∧(∀i a,(if xs.getD ((lo+hi)/2) j<j then SetTable.below.go xs j fuel ((lo+hi)/2+1) hi else SetTable.below.go xs j fuel lo ((lo+hi)/2))≤i→xs[i]? = some a→j≤a);rw [hd]
   by_cases hx:xs[(lo+hi)/2]<j
   ·rw [if_pos hx];obtain⟨a,b,c,d⟩:=YC xs j hr fuel ((lo+hi)/2+1) hi (by omega) h2 (by omega) (fun i a rM ha=>by
     rcases ZL i ((lo+hi)/2)with z | z
     ·have:=hr i ((lo+hi)/2) a _ z ha hg;omega
     ·have:i=(lo+hi)/2:=by omega
      subst this;rw [hg]at ha;cases ha;exact hx) h5
    exact⟨by omega,b,c,d⟩
   ·rw [if_neg hx];obtain⟨a,b,c,d⟩:=YC xs j hr fuel lo ((lo+hi)/2) (by omega) (by omega) (by omega) h4 (fun i a rM ha=>by
     rcases ZL ((lo+hi)/2) i with z | z
     ·have:=hr ((lo+hi)/2) i _ a z hg ha;omega
     ·have:i=(lo+hi)/2:=by omega
      subst this;rw [hg]at ha;cases ha;omega)
    exact⟨a,b,c,d⟩
  ·rw [if_neg cP];have:lo=hi:=by omega
   subst this;exact⟨mJ _,h2,h4,h5⟩
theorem YB{xs:Array Nat}(hr:qH xs)(j:Nat):SetTable.below xs j≤xs.size∧(∀i a,i<SetTable.below xs j→xs[i]? = some a→a<j)∧(∀i a,SetTable.below xs j≤i→xs[i]? = some a→j≤a):=by
 obtain⟨_,b,c,d⟩:=YC xs j hr xs.size 0 xs.size vA bG (by omega) (fun i a h=>absurd h (Nat.not_lt_zero _)) (fun i a h ha=>by
  have:=(FY.mp ha).1;omega)
 exact⟨b,c,d⟩
theorem aj3{xs:Array Nat}(hr:qH xs){i a:Nat}(h:xs[i]? = some a):SetTable.below xs (a+1)=i+1:=by
 obtain⟨b,c,d⟩:=YB hr (a+1);have hi:=(FY.mp h).1
 rcases Nat.lt_trichotomy (SetTable.below xs (a+1)) (i+1)with z | z | z
 ·have:=d i a (by omega) h;omega
 ·exact z
 ·have hl:i+1<xs.size:=by omega
  have hg:xs[i+1]? = some xs[i+1]:=WI xs _ hl;have h1:=c (i+1) _ z hg;have h2:=hr i (i+1) a _ (by omega) h hg;omega
theorem aj2{xs:Array Nat}(hr:qH xs):SetTable.below xs 0=0:=by
 obtain⟨b,c,d⟩:=YB hr 0
 rcases Nat.eq_zero_or_pos (SetTable.below xs 0)with z | z
 ·exact z
 ·have hl:0<xs.size:=by omega
  have hg:xs[0]? = some xs[0]:=WI xs _ hl;have:=c 0 _ z hg;omega
theorem ad6{α:Type}(xs:Array α)(p:Nat)(x:α)(hp:p≤xs.size)(i:Nat):(SetTable.insertAt xs p x)[i]? = if i<p then xs[i]? else if i=p then some x else xs[i - 1]?:=by
 unfold SetTable.insertAt;have e1:(xs.extract 0 p).size=p:=by simp;omega
 have e2:((xs.extract 0 p).push x).size=p+1:=by rw [Array.size_push,e1]
 rw [Array.getElem?_append,e2]
 by_cases h1:i<p
 ·rw [if_pos (by omega),if_pos h1,Array.getElem?_push,e1,if_neg (by omega),Array.getElem?_extract];simp;intro h;omega
 ·rw [if_neg h1]
  by_cases h2:i=p
  ·rw [if_pos (by omega),if_pos h2,Array.getElem?_push,e1,if_pos h2]
  ·rw [if_neg (by omega),if_neg h2,Array.getElem?_extract]
   by_cases h3:i - (p+1)<xs.size - p
   ·rw [if_pos (by simpa using h3),show(p+(i - (p+1)))=i - 1 by omega]
   ·rw [if_neg (by simpa using h3),eq_comm,Ng];omega
theorem Xj{xs:Array Nat}(hr:qH xs)(j:Nat)(hn:xs[SetTable.below xs j]? ≠ some j):qH (SetTable.insertAt xs (SetTable.below xs j) j):=by
 obtain⟨b,c,d⟩:=YB hr j;have d':∀i a,SetTable.below xs j≤i→xs[i]? = some a→j<a:=fun i a h1 h2=>by
  have h3:=d i a h1 h2
  rcases ZL j a with z | z
  ·exact z
  ·exfalso;have:a=j:=by omega
   subst this
   rcases ZL (SetTable.below xs a) i with y | y
   ·have hl:SetTable.below xs a<xs.size:=by have:=(FY.mp h2).1;omega
    have hg:xs[SetTable.below xs a]? = some xs[SetTable.below xs a]:=WI xs _ hl;have h4:=d _ _ bG hg;have h5:=hr _ i _ a y hg h2;omega
   ·have:i=SetTable.below xs a:=by omega
    subst this;exact hn h2
 intro i k x y hik hx hy;rw [ad6 _ _ _ b]at hx hy
 by_cases h1:i<SetTable.below xs j
 ·rw [if_pos h1]at hx
  by_cases h2:k<SetTable.below xs j
  ·rw [if_pos h2]at hy;exact hr i k x y hik hx hy
  ·rw [if_neg h2]at hy
   by_cases h3:k=SetTable.below xs j
   ·rw [if_pos h3]at hy;cases hy;exact c i x h1 hx
   ·rw [if_neg h3]at hy;exact hr i (k - 1) x y (by omega) hx hy
 ·rw [if_neg h1]at hx;rw [if_neg (by omega),if_neg (by omega)]at hy
  by_cases h3:i=SetTable.below xs j
  ·rw [if_pos h3]at hx;cases hx;exact d' (k - 1) y (by omega) hy
  ·rw [if_neg h3]at hx;exact hr (i - 1) (k - 1) x y (by omega) hx hy
theorem Xi(n:Nat):qH (Array.range n):=by
 intro i j a b nA ha hb;have h1:=(FY.mp ha);have h2:=(FY.mp hb);obtain⟨p,q⟩:=h1;obtain⟨p',q'⟩:=h2;simp at q q';omega
theorem Xk{l:List Nat}(h:l.Pairwise (· < ·)):qH l.toArray:=by
 intro i j a b nA ha hb;simp only [List.getElem?_toArray]at ha hb;obtain⟨p,q⟩:=cL.mp ha;obtain⟨p',q'⟩:=cL.mp hb;have:=ZZ.mp h i j p p' nA;rw [q,q']at this;exact this
theorem QN(t:SetTable)(ha:Nat→Int)(h:Int):∀(fuel:Nat) (p:SetTable.Probe) (j:Nat) (dm:Option Nat),SetTable.probe.go t ha h fuel p=some (.empty j dm)→t.slot j = .empty∧∀d,dm=some d→p.dummy=some d∨t.slot d = .dummy
 | 0,p,j,dm,e=>by cases e
 | fuel+1,p,j,dm,e=>by
  unfold SetTable.probe.go at e;cases hs:t.slot p.j with
  | empty =>
   rw [hs]at e;dsimp only at e;cases e;exact⟨hs,fun d hd => .inl hd⟩
  | dummy =>
   rw [hs]at e;dsimp only at e;obtain⟨a,b⟩:=QN t ha h fuel _ j dm e;refine⟨a,fun d hd=>?_⟩
   rcases b d hd with z | z
   ·have e2:(t.advance { p with dummy:=some p.j }).dummy=some p.j:=by
     unfold SetTable.advance;split <;> rfl
    rw [e2]at z;cases z;exact .inr hs
   ·exact .inr z
  | live i =>
   rw [hs]at e;dsimp only at e
   by_cases hh:(ha i == h)=true
   ·rw [if_pos hh]at e;cases e
   ·rw [if_neg hh]at e;obtain⟨a,b⟩:=QN t ha h fuel _ j dm e;refine⟨a,fun d hd=>?_⟩
    rcases b d hd with z | z
    ·have e2:(t.advance p).dummy=p.dummy:=by
      unfold SetTable.advance;split <;> rfl
     rw [e2]at z;exact .inl z
    ·exact .inr z
theorem Dl{t:SetTable}{j:Nat}(h:t.slot j = .empty∨t.slot j = .dummy):t.place[SetTable.below t.place j]? ≠ some j:=by
 intro z;unfold SetTable.slot at h;simp only [z,beq_self_eq_true,kT]at h
 rcases h with h | h <;> cases h
theorem ag0{t:SetTable}{h:Int}{j:Nat}{b:Bool}(e:t.freeSlot h=some (j,b)):t.place[SetTable.below t.place j]? ≠ some j:=by
 unfold SetTable.freeSlot at e;split at e
 ·next j0 dm hp =>
  cases e;obtain⟨a,c⟩:=QN t _ h _ _ j0 dm hp;cases dm with
  | none=>exact Dl (.inl a)
  | some d =>
   rcases c d rfl with z | z
   ·cases z
   ·exact Dl (.inr z)
 ·cases e
structure lC(led:Bool)(t:SetTable):Prop where
 rise:qH t.place
 led:t.led=led
theorem Pq(led:Bool):lC led (.fresh 0 0 led):=⟨fun i j a b _ h=>by simp [SetTable.fresh]at h,rfl⟩
theorem GV{led:Bool}{t:SetTable}(h:lC led t)(n:Nat):lC led (t.standIn n):=⟨Xi n,h.led⟩
theorem Pp{led:Bool}{t:SetTable}(h:lC led t)(es:Array (Int×Value))(hs:Int)(x:Value):lC led (layNew t es hs x).2.1:=by
 unfold layNew;split
 ·next slot wd e =>
  show lC led ((t.put slot).1.orStandIn _);have hp:lC led (t.put slot).1:=⟨Xj h.rise slot (ag0 e),h.led⟩;unfold SetTable.orStandIn;split
  ·exact hp
  ·exact GV hp _
 ·exact GV h _
theorem Pn{led:Bool}{t:SetTable}(h:lC led t)(es:Array (Int×Value))(w:Nat):lC led (relayAll t es w).2.1:=by
 unfold relayAll;split
 ·next t' order e =>
  show lC led (if(coversAll order es.size&&t'.fits (order.filterMap (es[·]?)).size)=true then(order.filterMap (es[·]?),t',false)else(es,t.standIn es.size,true)).2.1;split
  ·show lC led t';unfold SetTable.relaid SetTable.laid at e;cases hc:SetTable.layClean (SetTable.sizeAbove w - 1) (es.map (·.1))with
   | none=>rw [hc]at e;cases e
   | some ow =>
    rw [hc]at e;simp at e;obtain⟨e1,e2⟩:=e;subst e1;refine⟨Xk ?_,h.led⟩;rw [List.map_filterMap];refine List.Pairwise.filterMap _ (R:=(· < ·)) (fun a b DR x hx y hy=>?_) List.pairwise_lt_range;simp at hx hy;obtain⟨_,_,rfl⟩:=hx;obtain⟨_,_,rfl⟩:=hy;exact DR
  ·exact GV h _
 ·exact GV h _
theorem Po{led:Bool}{t:SetTable}(h:lC led t)(b:Bool):lC led { t with plain:=b }:=⟨h.rise,h.led⟩
def kE(w:World):Bool:=!w.params.followText "set-order"
def gU(prog:Program)(w:World)(h:Heap)(a:Addr)(es:Array (Int×Value)):Prop :=
 ∃o ep t,h.get? a=some o∧o.ExactSet∧o.data = .set es ep t∧ElemsOf (intKind prog w) es.toList∧es.size<scanBound∧t.fits es.size=true∧lC (kE w) t
section
variable{prog:Program}{w:World}{A:Around}{E:Value→Shared→Prop}{s:Shared}
theorem gU.at{h h':Heap}{a:Addr}{es:Array (Int×Value)}(x:gU prog w h a es)(e:∀o,h.get? a=some o→h'.get? a=some o):gU prog w h' a es :=
 let ⟨o,ep,t,ho,r⟩:=x; ⟨o,ep,t,e _ ho,r⟩
theorem gU.typeIs{a:Addr}{es:Array (Int×Value)}(x:gU prog w s.heap a es):s.TypeIs (.ref a) "set":=let ⟨o,_,_,ho,hx,_⟩:=x; ⟨o,ho,hx.1⟩
theorem gU.lt{h:Heap}{a:Addr}{es:Array (Int×Value)}(x:gU prog w h a es):a<h.objs.size:=let ⟨_,_,_,ho,_⟩:=x;bO ho
theorem Lo{g:Bool→Sem Unit}(hg:∀(b:Bool) (s₁:Shared) (Q':Unit→Shared→Prop),Q' () s₁→wpAny (model prog w) A (g b) Q' E s₁)
  {a:Addr} {o:Obj} {es:Array (Int×Value)} {ep:Nat} {t:SetTable} (ho:s.heap.get? a=some o) (hex:o.ExactSet) (hd:o.data = .set es ep t)
  {fO:Array (Int×Value)} {t2:SetTable} (DJ:ElemsOf (intKind prog w) fO.toList) (yY:fO.size<scanBound) (hf2:t2.fits fO.size=true) (hT:lC (kE w) t2) {Bi:Bool} {R:Option Bool→Shared→Prop}
  (h:∀h' cZ,Heap.SameBut a s.heap h'→gU prog w h' a cZ→cZ.toList.Perm fO.toList→R (some true) { s with heap:=h' }) :
  wpAny (model prog w) A (do
    storeSet a fO t2
    if(!Bi&&t2.tooFull)=true then do
      g (relayAll t2 fO (SetTable.grown fO.size)).2.2
      storeSet a (relayAll t2 fO (SetTable.grown fO.size)).1 (relayAll t2 fO (SetTable.grown fO.size)).2.1
      pure (some true)
     else pure (some true)) R E s:=by
 have store:∀{h:Heap} {o:Obj} {es:Array (Int×Value)} {ep:Nat} {t:SetTable} (cZ:Array (Int×Value)) (t':SetTable),h.get? a=some o→o.data = .set es ep t→(h.update a (Obj.putSet cZ t')).get? a=some { o with data := .set cZ (ep+1) t' }:=fun{h o es ep t} cZ t' ho hd=>by
  have:=MI (Obj.putSet cZ t') ho (by rw [putSet_of cZ t' hd];rfl);rw [putSet_of cZ t' hd]at this;exact this
 refine aF (wpAny_storeSet_of ho hd ?_ (WV yY));have pW:=store fO t2 ho hd;have Hf:=Heap.SameBut.update s.heap a (Obj.putSet fO t2);split
 ·have hp:=relayAll_perm t2 fO (SetTable.grown fO.size);have DH:=relayAll_fits t2 fO (SetTable.grown fO.size);have UT:=Pn hT fO (SetTable.grown fO.size);generalize hRl:relayAll t2 fO (SetTable.grown fO.size)=Rl at hp DH UT ⊢;obtain⟨EF,t3,anF⟩:=Rl;dsimp only at hp DH UT ⊢;have afL:ElemsOf (intKind prog w) EF.toList:=DJ.perm hp;have hsz:EF.size=fO.size:=by rw [← jZ,hp.length_eq,jZ]
  have oY:EF.size<scanBound:=by rw [hsz];exact yY
  refine aF (hg _ _ _ ?_);refine aF (wpAny_storeSet_of pW rfl ?_ (WV oY));have pV:=store EF t3 pW rfl;exact aS (h _ EF (Hf.trans (Heap.SameBut.update _ a _)) ⟨_,_,t3,pV,hex,rfl,afL,oY,DH,UT⟩ hp)
 ·exact aS (h _ fO Hf ⟨_,_,t2,pW,hex,rfl,DJ,yY,hf2,hT⟩ (AF _))
theorem akF{a:Addr}{es:Array (Int×Value)}{k:Int}{x:Value}{Q:Bool→Shared→Prop}(JH:(intKind prog w).is k x=true)(vM:x.scannable=true)(hS:gU prog w s.heap a es)(TM:es.size+1<scanBound)
  (h:∀b h' cZ,Heap.SameBut a s.heap h'→gU prog w h' a cZ→(((∃e∈es.toList,(intKind prog w).is k e.2=true)∧cZ=es)∨((∀e∈es.toList,(intKind prog w).is k e.2≠true)∧cZ.toList.Perm (es.toList++[((intKind prog w).hash k,x)])))→Q b { s with heap:=h' }) :
  wpAny (model prog w) A (setAddHashed a x ((intKind prog w).hash k)) Q E s:=by
 obtain⟨o,ep,t,ho,hex,hd,JK,hb,hf,hT⟩:=hS;unfold setAddHashed setAddHashedIn;refine qQ (aF (uJ ho hd hf ?_));dsimp only;rw [byScan_of vM hb JK];simp only [↓reduceIte];unfold setAddByScan;refine aF ?_;refine aF (AO ?_);refine aF (wpAny_setScan_of JH ho hd hf JK ?_);cases hr:List.findIdx? (fun e=>(intKind prog w).is k e.2) es.toList with
 | some j =>
  dsimp only;obtain⟨hj,hpj,_⟩:=List.findIdx?_eq_some_iff_getElem.mp hr;refine aS (aS ?_);have e:s = { s with heap:=s.heap }:=by cases s;rfl
  rw [e];exact h _ s.heap es (Heap.SameBut.refl a s.heap) ⟨o,ep,t,ho,hex,hd,JK,hb,hf,hT⟩ (.inl ⟨⟨es.toList[j],MC hj,hpj⟩,rfl⟩)
 | none =>
  dsimp only;have vQ:∀e∈es.toList,(intKind prog w).is k e.2≠true:=fun e he hp=>by
   have:=List.findIdx?_eq_none_iff.mp hr e he;rw [hp]at this;exact Bool.noConfusion this
  have hgw:∀(b:Bool) {s₁:Shared} {Q':Unit→Shared→Prop},Q' () s₁→wpAny (model prog w) A (match b with | true=>rule "set.scan.the-table-gave-way" | false=>pure ()) Q' E s₁ :=
   fun b s₁ Q' hq=>by cases b <;> first | exact aS hq | exact AO hq
  have yR:=layNew_perm t es ((intKind prog w).hash k) x;have DI:=layNew_fits t es ((intKind prog w).hash k) x;have DS:=Pp hT es ((intKind prog w).hash k) x;generalize hL:layNew t es ((intKind prog w).hash k) x=L at yR DI DS ⊢;obtain⟨fO,t1,Bi,anG⟩:=L;dsimp only at yR DI DS ⊢;rw [Array.toList_push]at yR;have DJ:ElemsOf (intKind prog w) fO.toList:=(JK.push JH vM).perm yR;have Ij:fO.size<scanBound:=by rw [← jZ,yR.length_eq,qK,jZ];simpa using TM
  refine aF (hgw _ ?_);have Hw:∀b h' cZ,Heap.SameBut a s.heap h'→gU prog w h' a cZ→cZ.toList.Perm fO.toList→Q b { s with heap:=h' }:=fun b h' cZ jC jF hp=>h b h' cZ jC jF (.inr ⟨vQ,hp.trans yR⟩);split
  ·refine aF ?_;rw [hashByValue_scannable 8 vM];refine aS ?_;refine Lo ?_ ho hex hd DJ Ij ?_ ?_ ?_
   ·intro b s₁ Q' hq;cases b <;> first | exact aS hq | exact AO hq
   ·split
    ·exact DI
    ·exact SetTable.fits_plain_off DI
   ·split
    ·exact DS
    ·exact Po DS _
   ·intro h' cZ jC jF hp;dsimp only;exact wpAny_pure (Hw _ h' cZ jC jF hp)
  ·refine aF (aS ?_);simp only [↓reduceIte];refine Lo ?_ ho hex hd DJ Ij DI DS ?_
   ·intro b s₁ Q' hq;cases b <;> first | exact aS hq | exact AO hq
   ·intro h' cZ jC jF hp;dsimp only;exact wpAny_pure (Hw _ h' cZ jC jF hp)
end
def Nums(es:Array (Int×Value))(ms:List Int):Prop:=IntsAre (es.toList.map (·.2)) ms
theorem abU{es cZ:Array (Int×Value)}{ms:List Int}(h:Nums es ms){l:List (Int×Value)}(hl:cZ.toList.Perm l){jR:List Int}(h2:IntsAre (l.map (·.2)) jR):∃rD,Nums cZ rD∧rD.Perm jR:=by
 have yZ:∀v∈cZ.toList.map (·.2),∃n t,v = .int n t:=fun v hv=>by
  have:=(hl.map (·.2)).mem_iff.mp hv;exact IntsAre.all h2 v this
 refine⟨_,intsAre_map _ yZ,?_⟩;have:=(hl.map (·.2)).map numOf;rw [IntsAre.nums h2]at this;exact this
theorem ints_snoc:∀{vs:List Value} {ns:List Int},IntsAre vs ns→∀(n:Int) (t:Tok),IntsAre (vs++[.int n t]) (ns++[n])
 | _,_,.nil,n,t => .cons n t .nil
 | _,_,.cons m u h,n,t => .cons m u (ints_snoc h n t)
open PyProof.Rows PySem.Spec
set_option maxRecDepth 100000
theorem Fy{prog:Program}{w:World}:∀{l:List (Int×Value)} {ms:List Int},IntsAre (l.map (·.2)) ms→∀k:Int,(∃e∈l,(intKind prog w).is k e.2=true)↔k∈ms
 | [],_,h,k=>by
  cases h;constructor
  ·rintro⟨e,he,_⟩;cases he
  ·intro z;cases z
 | (hs,v)::l,_,h,k=>by
  cases h with
  | cons n t h =>
   have ih:=Fy (prog:=prog) (w:=w) h k;constructor
   ·rintro⟨e,he,hp⟩
    rcases dG.mp he with z | z
    ·subst z;have:=(intKind prog w).inj _ _ _ hp (intKind_is prog w n t);rw [this];exact List.mem_cons_self ..
    ·exact fP _ (ih.mp ⟨e,z,hp⟩)
   ·intro z
    rcases dG.mp z with z | z
    ·subst z;exact⟨_,List.mem_cons_self ..,intKind_is prog w k t⟩
    ·obtain⟨e,he,hp⟩:=ih.mpr z;exact⟨e,fP _ he,hp⟩
section
variable{prog:Program}{w:World}{A:Around}{R:Result→Shared→Prop}{I:Addr}{fp wr:List Addr}{G:Array GenState→Array GenState→Prop}{n:Nat}{P:Nat→Value→Prop}{St:Nat→Shared→Prop}
theorem ai2(W:WalksS prog w A.in1 I fp wr G n P St)(S:Addr)(pY:S∉fp)
  (val:Nat→Int) (TC:∀i v,P i v→∃t,v = .int (val i) t) (hb:n+1<scanBound) :
  ∀(k i:Nat) (s:Shared) (es:Array (Int×Value)) (ms:List Int),n - i=k→i≤n→St i s →
   gU prog w s.heap S es→Nums es ms→ms.Perm (firstMet val i) →
   (∀s' cZ jR,Moved (S::wr) G s s'→gU prog w s'.heap S cZ→Nums cZ jR→jR.Perm (firstMet val n)→R (.ok (.ret .none)) s') →
   codeAny (model prog w) A (.builtin "set.update.loop" ⟨[.ref S,.ref I],[]⟩) R s:=by
 have DT:S∉wr:=fun h=>pY (W.sub _ h);have tM:∀b∈wr,b∈S::wr:=fun b hb=>fP _ hb;intro k
 induction k with
 | zero =>
  intro i s es ms hk hi gF hS hN hP hR;have kU:i=n:=by omega
  subst kU;refine wO akK ?_;rw [AM Md _];show wpAny _ A.in1 (pyNext (.ref I) >>= _) _ _ s;refine aF (W.done s _ _ gF fun s' hm=>?_);show wpAny _ A.in1 (ret Value.none) _ _ s';exact aS (hR s' es ms (hm.mono tM) (hS.at fun o e=>hm.heap S _ DT e) hN hP)
 | succ k ih =>
  intro i s es ms hk hi gF hS hN hP hR;have cP:i<n:=by omega
  refine wO akK ?_;rw [AM Md _];show wpAny _ A.in1 (pyNext (.ref I) >>= _) _ _ s;refine aF (W.item i s _ _ cP gF fun v s' UW TK hm=>?_);obtain⟨t,rfl⟩:=TC i v UW;have jF:gU prog w s'.heap S es:=hS.at fun o e=>hm.heap S _ DT e;show wpAny _ A.in1 (holding [Value.int (val i) t] (setAdd S (.int (val i) t)) >>= _) _ _ s';refine aF (qQ ?_);unfold setAdd;refine qQ ?_;refine aF ((intKind prog w).pyHash (k:=val i) (intKind_is _ _ _ _) ?_);have hsz:es.size=(firstMet val i).length:=by
   have h1:=IntsAre.length hN;rw [dN,jZ]at h1;rw [h1];exact hP.length_eq
  have TM:es.size+1<scanBound:=by have:=firstMet_length_le val i;omega
  refine akF (s:={ s' with toks:=s'.toks+1 }) (intKind_is _ _ _ _) rfl jF TM fun b h' cZ jC hS2 hor=>?_;have Hv:∀rD,Nums cZ rD→rD.Perm (firstMet val (i+1))→_:=fun rD UX vX =>
   aS (M:=model prog w) (A:=A.in1) (s:={ s' with heap:=h',toks:=s'.toks+1 }) (a:=PySem.Fin.again (.builtin "set.update.loop" ⟨[.ref S,.ref I],[]⟩)) (Q:=fun fin s'=>match fin with | .done f=>R (.ok f) s' | .again c'=>c'.quiet=true∧codeAny (model prog w) A c' R s') (E:=fun e s'=>R (.error e) s')
    ⟨yF Md _,ih (i+1) _ cZ rD (by omega) cP (W.frame _ s' _ _ TK (nY _) fun b hb o e=>by
     rw [jC.2 b (fun h:b=S=>pY (by rw [← h];exact hb))];exact e) hS2 UX vX fun rA ahF acJ UB agG agJ agI=>by
     refine hR rA ahF acJ (Moved.trans W.gtrans ((hm.mono tM).then_heap (nY _) fun b o hb e=>?_) UB) agG agJ agI;rw [jC.2 b (fun h:b=S=>hb (by rw [h];exact List.mem_cons_self))];exact e⟩
  have JF:=Fy (prog:=prog) (w:=w) hN (val i)
  rcases hor with⟨kU,rfl⟩ | ⟨vQ,hp⟩
  ·refine Hv ms hN ?_;have vR:val i∈firstMet val i:=hP.mem_iff.mp (JF.mp kU);rw [firstMet_succ];unfold step_dedup;rw [if_pos (by rw [List.any_eq_true];exact⟨_,vR,by simp⟩)];exact hP
  ·have hnm:val i∉firstMet val i:=fun z=>by
    obtain⟨e,he,hpe⟩:=JF.mpr (hP.mem_iff.mpr z);exact vQ e he hpe
   have h2:IntsAre ((es.toList++[((intKind prog w).hash (val i),Value.int (val i) t)]).map (·.2)) (ms++[val i]):=by
    rw [EZ];exact ints_snoc hN (val i) t
   obtain⟨rD,UX,vX⟩:=abU hN hp h2;refine Hv rD UX ?_;rw [firstMet_succ];unfold step_dedup;rw [if_neg (by rw [List.any_eq_true];rintro⟨y,hy,e⟩;simp at e;subst e;exact hnm hy)];exact vX.trans (hP.append_right _)
end
section
variable{prog:Program}{w:World}{A:Around}{E:Value→Shared→Prop}{s:Shared}
theorem Wf(a:Value){Q₁:Value→Shared→Prop}
  (h:Q₁ (.ref s.heap.objs.size) { s with heap:=s.heap.push { cls := .type "set",dict:=none,data := .set #[] 0 (.fresh 0 0 (kE w)) } }) :
  codeAny (model prog w) A (.call (.builtin "set.__new__") ⟨[.type "set",a],[]⟩) (wants Q₁ E) s:=by
 refine codeAny_of_tree ?_;show wpAny _ A.in1 (do checkBuiltinCall "set.__new__" ⟨[.type "set",a],[]⟩;again (.builtin "set.__new__" ⟨[.type "set",a],[]⟩)) _ _ s;refine aF (wpAny_of_eq (F.newCall_set_1 a) (aS ⟨yF F.plain_set_new _,wO F.entry_set_new ?_⟩));rw [AM F.plain_set_new _];unfold Builtin.«set.__new__» Builtin.Frozenset.newClass;have tM:=sub_set_self;obtain⟨hp,g,d,tk,os⟩:=s;dsimp only
 wp_walk
 refine uK (aS ?_);dsimp only;simp only [newObj];refine aF (wpAny_alloc (aS ?_));exact aS h
set_option maxHeartbeats 3200000 in
theorem ajL{l:Addr}{items:Array Value}{ns:List Int}{Q:Value→Shared→Prop}
  (hh:A.handled=none) (hl:s.heap.IsList l items) (hi:PyProof.Rows.IntsAre items.toList ns) (hb:items.size+1<scanBound)
  (h:∀(h':Heap) (tk:Nat) es ms,gU prog w h' s.heap.objs.size es→Nums es ms→ms.Perm (firstMet (fun i=>ns.getD i 0) items.size) →
   (∀b o,b<s.heap.objs.size→s.heap.get? b=some o→h'.get? b=some o)→Q (.ref s.heap.objs.size) { s with heap:=h',toks:=tk }) :
  wpAny (model prog w) A (call (.type "set") [.ref l]) Q E s:=by
 obtain⟨c,tl,amZ⟩:=F.called_set.mro;have am0:=F.called_set.made;have tM:=F.called_set.sub;refine wpAny_call (codeAny_of_tree ?_);show wpAny _ _ (callAny (.type "set") _) _ _ _;refine aS ⟨Code.quiet_builtin _ (by decide +kernel),wO F.entry_type_call ?_⟩;rw [Around.under_plain (weight_type_call_type "set" [.ref l] []) rfl];have h1:=F.called_set.notType;have h2:=F.called_set.canCreate;have hct:=F.typeCall_set_1 (.ref l)
 repeat (any_goals (first | assumption | wp_step))
 refine rX (Wf (.ref l) (E:=E) (Q₁:=fun obj s₁=>obj = .ref s.heap.objs.size∧s₁ = { s with heap:=s.heap.push { cls := .type "set",dict:=none,data := .set #[] 0 (.fresh 0 0 (kE w)) } }) ⟨rfl,rfl⟩) fun r s₁ hr=>?_;cases r with
 | error e=>exact hr
 | ok fl =>
  cases fl with
  | ret obj =>
   obtain⟨rfl,rfl⟩:=hr;have hS:(s.heap.push { cls := .type "set",dict:=none,data := .set #[] 0 (.fresh 0 0 (kE w)) }).get? s.heap.objs.size=some { cls := .type "set",dict:=none,data := .set #[] 0 (.fresh 0 0 (kE w)) }:=dY _ rfl;have hT:Shared.TypeIs { s with heap:=s.heap.push { cls := .type "set",dict:=none,data := .set #[] 0 (.fresh 0 0 (kE w)) } } (.ref s.heap.objs.size) "set":=⟨_,hS,rfl⟩;have hli:=F.called_set.init.lookup;have hbi:=F.called_set.init.bind (.ref s.heap.objs.size)
   repeat (any_goals (first | assumption | wp_step))
   refine rX (codeAny_call_builtin (R:=wants (fun r s₂=>r = .none∧∃h' tk es ms,s₂ = { s with heap:=h',toks:=tk } ∧
     gU prog w h' s.heap.objs.size es∧Nums es ms∧ms.Perm (firstMet (fun i=>ns.getD i 0) items.size) ∧
     (∀b o,b<s.heap.objs.size→s.heap.get? b=some o→h'.get? b=some o)) E) F.called_set.init.plain F.entry_set_init (check_set_init_1 hT ?_)) fun r₂ s₂ TL=>?_
   ·obtain⟨ol,rJ,fH,nl,yW⟩:=hl;obtain⟨al7,abN,al6,aa0⟩:=ol;simp only at fH yW;subst fH;subst yW;have JB:(s.heap.push { cls := .type "set",dict:=none,data := .set #[] 0 (.fresh 0 0 (kE w)) }).get? l=some { cls := .type "list",dict:=abN,data := .seq items nl,slots:=aa0 }:=bP _ rJ;have amV:=F.sub_list_set;have amW:=F.sub_list_frozenset;have cQ:(Value.type "list" == Value.type "dict")=false:=by decide
    have Ho:(s.heap.push { cls := .type "set",dict:=none,data := .set #[] 0 (.fresh 0 0 (kE w)) }).IsList l items:=⟨_,JB,rfl,nl,rfl⟩;unfold Builtin.«set.__init__» noKeywords Builtin.Frozenset.updateFrom;generalize hPI:pyIter=PI
    wp_walk
    subst hPI;refine wpAny_pyIter_list Ho ?_;refine aF (wpAny_runValue ?_);have tN:l<s.heap.objs.size:=bO rJ;have UH:A.in1.in1.in1.handled=none:=by simp [hh]
    have ae0:l≠(s.heap.push { cls := .type "set",dict:=none,data := .set #[] 0 (.fresh 0 0 (kE w)) }).objs.size:=by
     rw [xE];exact cK (uA tN)
    have pY:s.heap.objs.size∉[(s.heap.push { cls := .type "set",dict:=none,data := .set #[] 0 (.fresh 0 0 (kE w)) }).objs.size,l]:=by
     rw [xE];simp only [dG,mK,xA,uX,not_or];exact⟨cK (ZK _),zW tN⟩
    have TC:∀(i:Nat) (v:Value),items[i]? = some v→∃t,v = .int ((fun i=>ns.getD i 0) i) t:=fun i v hv =>
     PyProof.Rows.IntsAre.int_at hi i v (by rw [MT];exact hv)
    refine ai2 ((Walks.list UH _ l ae0 items).toS) s.heap.objs.size
     pY (fun i=>ns.getD i 0) TC hb (items.size - 0) 0 _ #[] [] (by omega) vA
     ⟨⟨_,dY _ rfl,rfl,rfl⟩,(Ho.push _)⟩ ?hS0 .nil (AF _) ?hR
    case hS0 =>
     have afE:((s.heap.push { cls := .type "set",dict:=none,data := .set #[] 0 (.fresh 0 0 (kE w)) }).push { cls := .type "list_iterator",data := .fields #[.ref l,.int 0 0] }).get? s.heap.objs.size
       = some { cls := .type "set",dict:=none,data := .set #[] 0 (.fresh 0 0 (kE w)) }:=bP _ hS
     exact⟨_,0,_,afE,⟨rfl,rfl,rfl⟩,rfl,fun e he=>by simp at he,by decide,rfl,Pq _⟩
    case hR =>
     intro s' cZ jR hm jF UY tR;obtain⟨h',g',d',xV,CC⟩:=s';have eg:g'=s.gens:=hm.gens;have ed:d'=s.drawn:=hm.drawn;have eo:CC=s.os:=hm.os;subst eg;subst ed;subst eo;show wpAny _ _ _ _ _ _;refine aS ?_;show wpAny _ _ (ret Value.none) _ _ _;refine aS ⟨rfl,h',xV,cZ,jR,rfl,jF,UY,tR,fun b o hb e=>?_⟩;have yY:b≠s.heap.objs.size:=cK hb;have oY:b≠(s.heap.push { cls := .type "set",dict:=none,data := .set #[] 0 (.fresh 0 0 (kE w)) }).objs.size:=by
      rw [xE];exact cK (uA hb)
     exact hm.heap b o (by simp only [dG,mK,xA,uX,not_or];exact⟨yY,oY⟩) (bP _ (bP _ e))
   ·cases r₂ with
    | error e=>exact TL
    | ok fl₂ =>
     cases fl₂ with
     | ret r =>
      obtain⟨rfl,h',tk,es,ms,rfl,jF,UY,tR,nU⟩:=TL
      repeat (any_goals (first | assumption | wp_step))
      exact h _ _ es ms jF UY tR nU
     | _=>exact TL.elim
  | _=>exact hr.elim
end
set_option maxRecDepth 100000
theorem kO:Slot "set_iterator" "__next__" "set_iterator.__next__" :=
 .of (owner := "set_iterator") (n := "__next__") (by rw [typeLookup_type,builtinLookup_eq_fast];kernel_rfl) (by decide +kernel) (by decide +kernel) (by decide +kernel)
  (by first | exact .inl (by decide +kernel) | exact .inr (by decide +kernel)) (by rw [isSubtype_type];kernel_rfl)
theorem Dk:Slot "set_iterator" "__iter__" "set_iterator.__iter__" :=
 .of (owner := "set_iterator") (n := "__iter__") (by rw [typeLookup_type,builtinLookup_eq_fast];kernel_rfl) (by decide +kernel) (by decide +kernel) (by decide +kernel)
  (by first | exact .inl (by decide +kernel) | exact .inr (by decide +kernel)) (by rw [isSubtype_type];kernel_rfl)
theorem zH:entryFor table "set_iterator.__next__" = some Builtin.«set_iterator.__next__»:=entryFor_of_tree (by kernel_rfl)
theorem ahJ:entryFor table "set_iterator.__iter__" = some Builtin.«dict_keyiterator.__iter__»:=entryFor_alias (id' := "dict_keyiterator.__iter__") (by kernel_rfl) rfl (by decide +kernel) (by kernel_rfl)
theorem ahK:entryFor table "set.__iter__" = some Builtin.«frozenset.__iter__»:=entryFor_alias (id' := "frozenset.__iter__") (by kernel_rfl) rfl (by decide +kernel) (by kernel_rfl)
theorem Ff:Manifest.owners.lookup (String.ofList ['r','o','t','a','r','e','t','i','_','t','e','s'].reverse)=some Manifest.sig_set_iterator:=by kernel_rfl
theorem zR(a:Value):argsOk "set_iterator.__next__" ⟨[a],[]⟩:=by
 unfold argsOk;rw [signature?_of (id := "set_iterator.__next__") (n:=['_','_','t','x','e','n','_','_']) (o:=['r','o','t','a','r','e','t','i','_','t','e','s']) (by kernel_rfl) Ff];kernel_rfl
theorem akE(a:Value):argsOk "set_iterator.__iter__" ⟨[a],[]⟩:=by
 unfold argsOk;rw [signature?_of (id := "set_iterator.__iter__") (n:=['_','_','r','e','t','i','_','_']) (o:=['r','o','t','a','r','e','t','i','_','t','e','s']) (by kernel_rfl) Ff];kernel_rfl
def hZ(h:Heap)(I a:Addr)(first:Value)(i n ep:Nat):Prop:=h.get? I=some { cls := .type "set_iterator",data := .fields #[first,.int i 0,.ref a,.int n 0,.int ep 0] }
def mI(w:World)(h:Heap)(a:Addr)(es:Array (Int×Value))(ep:Nat)(t:SetTable):Prop:=∃o,h.get? a=some o∧o.data = .set es ep t∧t.fits es.size=true∧lC (kE w) t
theorem hZ.typeIs{s:Shared}{I a:Addr}{f:Value}{i n ep:Nat}(x:hZ s.heap I a f i n ep):s.TypeIs (.ref I) "set_iterator":=⟨_,x,rfl⟩
theorem hZ.at{h h':Heap}{I a:Addr}{f:Value}{i n ep:Nat}(x:hZ h I a f i n ep)(e:∀o,h.get? I=some o→h'.get? I=some o):hZ h' I a f i n ep:=e _ x
theorem mI.at{w:World}{h h':Heap}{a:Addr}{es:Array (Int×Value)}{ep:Nat}{t:SetTable}(x:mI w h a es ep t)(e:∀o,h.get? a=some o→h'.get? a=some o):mI w h' a es ep t:=let ⟨o,ho,r⟩:=x; ⟨o,e _ ho,r⟩
def sU(t:SetTable)(i:Nat):Nat:=if i=0 then 0 else t.place.getD (i - 1) 0+1
theorem Dm{t:SetTable}(h:qH t.place){i:Nat}(hi:i≤t.place.size):SetTable.below t.place (sU t i)=i:=by
 unfold sU
 by_cases h0:i=0
 ·rw [if_pos h0,aj2 h,h0]
 ·rw [if_neg h0];have hl:i - 1<t.place.size:=by omega
  have hg:t.place[i - 1]? = some (t.place.getD (i - 1) 0):=by simp [Array.getD,hl]
  rw [aj3 h hg];omega
section
variable{prog:Program}{w:World}{A:Around}{E:Value→Shared→Prop}{s:Shared}
theorem ab4{I a:Addr}{es:Array (Int×Value)}{ep i:Nat}{t:SetTable}{x:Int×Value}{Q:Option Value→Shared→Prop}(hit:hZ s.heap I a (.int (sU t i) 0) i es.size ep)(hs:mI w s.heap a es ep t)
  (hb:w.params.followText "set-order" = false) (hd:(!t.plain&&decide (es.size>1))=false) (hx:es[i]? = some x)
  (hQ:∀h',hZ h' I a (.int (sU t (i+1)) 0) (i+1) es.size ep→Heap.SameBut I s.heap h'→Q (some x.2) { s with heap:=h' }):wpAny (model prog w) A (pyNext (.ref I)) Q E s:=by
 obtain⟨os,gK,gL,hf,hT⟩:=id hs;have UM:=hf;simp only [SetTable.fits,jY,qE,zL]at UM;have cP:i<es.size:=(FY.mp hx).1;have aeO:i<t.place.size:=by omega
 have dF:t.place[i]? = some (t.place.getD i 0):=by simp [Array.getD,aeO]
 have UC:(!t.led && !es.isEmpty)=false:=by rw [hT.led];simp [kE,hb]
 unfold pyNext;refine aF (AS (AR (name:=Str.ofString "__next__") hit.typeIs kO
  (oH kO hit.typeIs zH ?_ (zR _))))
 unfold Builtin.«set_iterator.__next__»;refine aF (aS ?_);refine aF (AQ hit rfl ?_);dsimp only;refine aF (xN gK gL hf ?_);rw [if_neg (by simp)];refine aF ?_;unfold setNext;refine aF (uJ gK gL hf ?_);dsimp only;unfold setsByText;refine aF (aF (uK (aS ?_)));refine pE (lP (show ¬(w.params.followText "set-order" = true)by rw [hb];simp)) ?_;refine pE (lP (show ¬((!t.plain&&decide (es.size>1))=true)by rw [hd];simp)) ?_;refine aF ?_;show wpAny (model prog w) A.in1 (if(!t.led && !es.isEmpty)=true then unsupported "set:maker-not-led" else pure ()) _ _ _;refine pE (by simp [UC]) (aS ?_);rw [AH,Dm hT.rise (by omega),hx,dF];refine aS ?_;dsimp only;refine aF (sP hit (by simp) fun h1 e1 oK=>?_);refine aF (sP e1 (by simp) fun h2 e2 OY=>?_);refine aS ⟨_,rfl,aS (hQ h2 ?_ (oK.trans OY))⟩;unfold hZ;rw [e2];have:sU t (i+1)=t.place.getD i 0+1:=by unfold sU;simp
 rw [this];simp [rawInt]
theorem ab5{I a:Addr}{es:Array (Int×Value)}{ep:Nat}{t:SetTable}{Q:Option Value→Shared→Prop}(hh:A.handled=none)(hit:hZ s.heap I a (.int (sU t es.size) 0) es.size es.size ep)(hs:mI w s.heap a es ep t)
  (hb:w.params.followText "set-order" = false) (hd:(!t.plain&&decide (es.size>1))=false)
  (hQ:∀h',Heap.ExtBut I s.heap h'→Q none { s with heap:=h' }):wpAny (model prog w) A (pyNext (.ref I)) Q E s:=by
 obtain⟨os,gK,gL,hf,hT⟩:=id hs;have UM:=hf;simp only [SetTable.fits,jY,qE,zL]at UM;have UC:(!t.led && !es.isEmpty)=false:=by rw [hT.led];simp [kE,hb]
 unfold pyNext;refine aF (AS (AR (name:=Str.ofString "__next__") hit.typeIs kO
  (oH kO hit.typeIs zH ?_ (zR _))))
 unfold Builtin.«set_iterator.__next__»;refine aF (aS ?_);refine aF (AQ hit rfl ?_);dsimp only;refine aF (xN gK gL hf ?_);rw [if_neg (by simp)];refine aF ?_;unfold setNext;refine aF (uJ gK gL hf ?_);dsimp only;unfold setsByText;refine aF (aF (uK (aS ?_)));refine pE (lP (show ¬(w.params.followText "set-order" = true)by rw [hb];simp)) ?_;refine pE (lP (show ¬((!t.plain&&decide (es.size>1))=true)by rw [hd];simp)) ?_;refine aF ?_;show wpAny (model prog w) A.in1 (if(!t.led && !es.isEmpty)=true then unsupported "set:maker-not-led" else pure ()) _ _ _;refine pE (by simp [UC]) (aS ?_);rw [AH,Dm hT.rise (by omega),Array.getElem?_eq_none bG];refine aS ?_;dsimp only;refine aF (sP hit (by simp) fun h1 e1 oK=>?_);show wpAny _ _ (newExc (.type "StopIteration") [] >>= _) _ _ _;refine aF ?_;simp only [newExc,newTuple];refine aF (nJ ?_ (by size_fits));refine aF (m:=firstArgMember _ _) (wpAny_of_eq (a:=Value.none) (by first | rfl | (simp only [firstArgMember];rfl)) ?_);refine nJ ?_ (by size_fits);simp only [raiseNew];refine aF (wpAny_handled ?_);rw [show A.in1.handled=none from hh];refine aF (aS (wpAny_throw ?_));refine aF (MY (T := "StopIteration") (b:=true) ⟨_,dY _ rfl,rfl⟩ isSubtype_stop ?_);exact aS (hQ _ ((oK.extBut.push _).push _))
end
set_option maxRecDepth 100000
theorem XA{α:Type}:∀(l:List α) (i:Nat) (h:i<l.length),(l[i]::l.eraseIdx i).Perm l
 | [],i,h=>absurd h (Nat.not_lt_zero _)
 | x::l,0,h=>AF _
 | x::l,i+1,h=>by
  have ih:=XA l i (by simpa using h);simp only [List.getElem_cons_succ,List.eraseIdx_cons_succ];exact(List.Perm.swap _ _ _).trans (ih.cons x)
theorem Fb{α:Type}(f:Nat→Nat):∀(fuel k:Nat) (left:List α) (out:Array α),left.length=fuel→(pickOrder.go f fuel k left out).toList.Perm (out.toList++left)
 | 0,k,left,out,h=>by
  have:left=[]:=List.length_eq_zero_iff.mp h;subst this;unfold pickOrder.go;simp
 | fuel+1,k,left,out,h=>by
  have hi:f k%left.length<left.length:=Nat.mod_lt _ (by omega);unfold pickOrder.go;rw [jK hi];have ih:=Fb f fuel (k+1) (left.eraseIdx (f k%left.length)) (out.push left[f k%left.length]) (by rw [List.length_eraseIdx_of_lt hi];omega);refine ih.trans ?_;rw [Array.toList_push,List.append_assoc];exact(XA _ _ hi).append_left _
theorem QQ{α:Type}(f:Nat→Nat)(xs:Array α):(pickOrder f xs).toList.Perm xs.toList:=by
 have h:=Fb f xs.size 0 xs.toList #[] (by simp);simp only [List.nil_append]at h;exact h
section
variable{prog:Program}{w:World}{A:Around}{E:Value→Shared→Prop}{s:Shared}
theorem Bj{a:Addr}{es:Array (Int×Value)}{ep:Nat}{t:SetTable}{Q:Array (Int×Value)→Shared→Prop}(hs:mI w s.heap a es ep t)(hb:w.params.followText "set-order" = true)
  (h:Q (pickOrder (w.params.setOrder a ep) es) s):wpAny (model prog w) A (setWalk a) Q E s:=by
 obtain⟨os,gK,gL,hf,hT⟩:=id hs;unfold setWalk;refine aF (uJ gK gL hf ?_);dsimp only;unfold setsByText;refine aF (aF (uK (aS ?_)));refine GA (wN (show w.params.followText "set-order" = true from hb)) ?_;exact aF (uK (aS h))
theorem ab6{I a:Addr}{es:Array (Int×Value)}{ep i:Nat}{t:SetTable}{x:Int×Value}{Q:Option Value→Shared→Prop}(hit:hZ s.heap I a (.int 0 0) i es.size ep)(hs:mI w s.heap a es ep t)
  (hb:w.params.followText "set-order" = true) (hx:(pickOrder (w.params.setOrder a ep) es)[i]? = some x)
  (hQ:∀h',hZ h' I a (.int 0 0) (i+1) es.size ep→Heap.SameBut I s.heap h'→Q (some x.2) { s with heap:=h' }):wpAny (model prog w) A (pyNext (.ref I)) Q E s:=by
 obtain⟨os,gK,gL,hf,hT⟩:=id hs;unfold pyNext;refine aF (AS (AR (name:=Str.ofString "__next__") hit.typeIs kO
  (oH kO hit.typeIs zH ?_ (zR _))))
 unfold Builtin.«set_iterator.__next__»;refine aF (aS ?_);refine aF (AQ hit rfl ?_);dsimp only;refine aF (xN gK gL hf ?_);rw [if_neg (by simp)];refine aF ?_;unfold setNext;refine aF (uJ gK gL hf ?_);dsimp only;unfold setsByText;refine aF (aF (uK (aS ?_)));refine GA (wN (show w.params.followText "set-order" = true from hb)) ?_;refine pE (by simp) ?_;refine aF (Bj hs hb ?_);rw [AH,hx];refine aS ?_;simp only [EV];refine aF (sP hit (by simp) fun h1 e1 oK=>?_);refine aF (sP e1 (by simp) fun h2 e2 OY=>?_);refine aS ⟨_,rfl,aS (hQ h2 ?_ (oK.trans OY))⟩;unfold hZ;rw [e2];simp [rawInt]
theorem ab7{I a:Addr}{es:Array (Int×Value)}{ep:Nat}{t:SetTable}{Q:Option Value→Shared→Prop}(hh:A.handled=none)(hit:hZ s.heap I a (.int 0 0) es.size es.size ep)(hs:mI w s.heap a es ep t)
  (hb:w.params.followText "set-order" = true)
  (hQ:∀h',Heap.ExtBut I s.heap h'→Q none { s with heap:=h' }):wpAny (model prog w) A (pyNext (.ref I)) Q E s:=by
 obtain⟨os,gK,gL,hf,hT⟩:=id hs;have hx:(pickOrder (w.params.setOrder a ep) es)[es.size]? = none:=by
  rw [Ng];have:=(QQ (w.params.setOrder a ep) es).length_eq;simp only [jZ]at this;omega
 unfold pyNext;refine aF (AS (AR (name:=Str.ofString "__next__") hit.typeIs kO
  (oH kO hit.typeIs zH ?_ (zR _))))
 unfold Builtin.«set_iterator.__next__»;refine aF (aS ?_);refine aF (AQ hit rfl ?_);dsimp only;refine aF (xN gK gL hf ?_);rw [if_neg (by simp)];refine aF ?_;unfold setNext;refine aF (uJ gK gL hf ?_);dsimp only;unfold setsByText;refine aF (aF (uK (aS ?_)));refine GA (wN (show w.params.followText "set-order" = true from hb)) ?_;refine pE (by simp) ?_;refine aF (Bj hs hb ?_);rw [AH,hx];refine aS ?_;simp only [Option.map_none];refine aF (sP hit (by simp) fun h1 e1 oK=>?_);show wpAny _ _ (newExc (.type "StopIteration") [] >>= _) _ _ _;refine aF ?_;simp only [newExc,newTuple];refine aF (nJ ?_ (by size_fits));refine aF (m:=firstArgMember _ _) (wpAny_of_eq (a:=Value.none) (by first | rfl | (simp only [firstArgMember];rfl)) ?_);refine nJ ?_ (by size_fits);simp only [raiseNew];refine aF (wpAny_handled ?_);rw [show A.in1.handled=none from hh];refine aF (aS (wpAny_throw ?_));refine aF (MY (T := "StopIteration") (b:=true) ⟨_,dY _ rfl,rfl⟩ isSubtype_stop ?_);exact aS (hQ _ ((oK.extBut.push _).push _))
theorem Nk{src:Source}{n:Nat}{Q:Nat→Shared→Prop}(hn:n≠0)(h:∀i,i<n→Q i { s with drawn:=s.drawn.bump src }):wpAny (model prog w) A (choose src n) Q E s:=fun Γ p _=>by
 unfold choose;rw [Sem.wp_choose];exact⟨hn,h _ (Nat.mod_lt _ (by omega))⟩
theorem Bg{α:Type}:∀(n:Nat) (xs:List α) (s:Shared) {Q:List α→Shared→Prop},xs.length=n→(∀ys d,ys.Perm xs→Q ys { s with drawn:=d })→wpAny (model prog w) A (drawOrder n xs) Q E s
 | 0,xs,s,Q,hl,h=>by
  have:xs=[]:=List.length_eq_zero_iff.mp hl;subst this;unfold drawOrder;have e:s = { s with drawn:=s.drawn }:=by cases s;rfl
  rw [e];exact aS (h [] s.drawn (AF _))
 | n+1,[],s,Q,hl,h=>by simp at hl
 | n+1,x::xs,s,Q,hl,h=>by
  unfold drawOrder;refine aF (Nk (by simp) fun i hi=>?_);rw [jK hi];dsimp only;refine aF (Bg n ((x::xs).eraseIdx i) _ (by rw [List.length_eraseIdx_of_lt hi];omega) fun ys d hp=>?_);refine aS (h ((x::xs)[i]::ys) d ?_);exact(hp.cons _).trans (XA _ _ hi)
end
set_option maxRecDepth 100000
def AG(h:Heap)(T:Addr)(ps:List Nat):Prop:=h.get? T=some { cls := .type "tuple",data := .seq (ps.map fun i:Nat=>rawInt (i:Int)).toArray }
section
variable{prog:Program}{w:World}{A:Around}{E:Value→Shared→Prop}{s:Shared}
theorem ab2{I a T:Addr}{es:Array (Int×Value)}{ep i j:Nat}{t:SetTable}{ps:List Nat}{x:Int×Value}{Q:Option Value→Shared→Prop}(hit:hZ s.heap I a (.ref T) i es.size ep)(hs:mI w s.heap a es ep t)(hT:AG s.heap T ps)
  (hj:ps[i]? = some j) (hx:es[j]? = some x)
  (hQ:∀h',hZ h' I a (.ref T) (i+1) es.size ep→Heap.SameBut I s.heap h'→Q (some x.2) { s with heap:=h' }):wpAny (model prog w) A (pyNext (.ref I)) Q E s:=by
 obtain⟨os,gK,gL,hf,_⟩:=id hs;unfold pyNext;refine aF (AS (AR (name:=Str.ofString "__next__") hit.typeIs kO
  (oH kO hit.typeIs zH ?_ (zR _))))
 unfold Builtin.«set_iterator.__next__»;refine aF (aS ?_);refine aF (AQ hit rfl ?_);dsimp only;refine aF (xN gK gL hf ?_);rw [if_neg (by simp)];refine aF (wpAny_seqItems hT rfl ?_);have hp:(ps.map fun i:Nat=>rawInt (i:Int)).toArray[i]? = some (rawInt (j:Int)):=by simp [hj]
 dsimp only;rw [AH,hp];show wpAny _ _ (setNextDrawn a (j:Int).toNat (ep:Int).toNat >>= _) _ _ _;refine aF ?_;unfold setNextDrawn;refine aF (uJ gK gL hf ?_);dsimp only;refine pE (by simp) ?_;rw [AH,hx];refine aS ?_;refine aF (sP hit (by simp) fun h1 e1 oK=>?_);refine aS ⟨_,rfl,aS (hQ h1 ?_ oK)⟩;unfold hZ;rw [e1];simp [rawInt]
theorem ab3{I a T:Addr}{es:Array (Int×Value)}{ep:Nat}{t:SetTable}{ps:List Nat}{Q:Option Value→Shared→Prop}(hh:A.handled=none)(hit:hZ s.heap I a (.ref T) es.size es.size ep)(hs:mI w s.heap a es ep t)(hT:AG s.heap T ps)
  (hj:ps.length=es.size)
  (hQ:∀h',Heap.ExtBut I s.heap h'→Q none { s with heap:=h' }):wpAny (model prog w) A (pyNext (.ref I)) Q E s:=by
 obtain⟨os,gK,gL,hf,_⟩:=id hs;unfold pyNext;refine aF (AS (AR (name:=Str.ofString "__next__") hit.typeIs kO
  (oH kO hit.typeIs zH ?_ (zR _))))
 unfold Builtin.«set_iterator.__next__»;refine aF (aS ?_);refine aF (AQ hit rfl ?_);dsimp only;refine aF (xN gK gL hf ?_);rw [if_neg (by simp)];refine aF (wpAny_seqItems hT rfl ?_);have hp:(ps.map fun i:Nat=>rawInt (i:Int)).toArray[es.size]? = none:=by simp [← hj]
 dsimp only;rw [AH,hp];refine aF (sP hit (by simp) fun h0 e0 Xa=>?_);refine aF (sP e0 (by simp) fun h1 e1 oK=>?_);show wpAny _ _ (newExc (.type "StopIteration") [] >>= _) _ _ _;refine aF ?_;simp only [newExc,newTuple];refine aF (nJ ?_ (by size_fits));refine aF (m:=firstArgMember _ _) (wpAny_of_eq (a:=Value.none) (by first | rfl | (simp only [firstArgMember];rfl)) ?_);refine nJ ?_ (by size_fits);simp only [raiseNew];refine aF (wpAny_handled ?_);rw [show A.in1.handled=none from hh];refine aF (aS (wpAny_throw ?_));refine aF (MY (T := "StopIteration") (b:=true) ⟨_,dY _ rfl,rfl⟩ isSubtype_stop ?_);exact aS (hQ _ (((Xa.trans oK).extBut.push _).push _))
theorem QK{I a:Addr}{f:Value}{i n ep:Nat}{Q:Value→Shared→Prop}(hit:hZ s.heap I a f i n ep)(h:Q (.ref I) s):wpAny (model prog w) A (pyIter (.ref I)) Q E s:=by
 refine wpAny_pyIter_slot hit.typeIs Dk (oH Dk hit.typeIs ahJ ?_ (akE _));show wpAny _ _ (ret (.ref I)) _ _ s;exact aS ⟨_,rfl, "set_iterator",_,hit.typeIs,kO.lookup,h⟩
theorem AG.at{h h':Heap}{T:Addr}{ps:List Nat}(x:AG h T ps)(e:∀o,h.get? T=some o→h'.get? T=some o):AG h' T ps:=e _ x
theorem Nn(hh:A.handled=none)(I a:Addr)(cQ:a≠I)(es:Array (Int×Value))(ep:Nat)(t:SetTable)(hb:w.params.followText "set-order" = true) :
  Walks prog w A I [I,a] [I] es.size (fun i v=>((pickOrder (w.params.setOrder a ep) es).toList.map (·.2))[i]? = some v) (fun i h=>hZ h I a (.int 0 0) i es.size ep∧mI w h a es ep t)where
 sub:=fun b hb=>by simp at hb;simp [hb]
 frame:=fun _ _ _ st hk=>⟨st.1.at fun o e=>hk I (by simp) o e,st.2.at fun o e=>hk a (by simp) o e⟩
 item:=fun i s Q E hi st hQ=>by
  have hl:i<(pickOrder (w.params.setOrder a ep) es).size:=by
   have:=(QQ (w.params.setOrder a ep) es).length_eq;simp only [jZ]at this;omega
  have hx:=Ay hl;refine ab6 st.1 st.2 hb hx fun h' DD hJ=>?_;exact hQ _ h' s.toks (by simp [hl]) ⟨DD,st.2.at fun o e=>hJ.extBut a o cQ e⟩ fun b o hb e=>hJ.extBut b o (fun h=>hb (by simp [h])) e
 done:=fun s Q E st hQ=>ab7 hh st.1 st.2 hb fun h' DK=>hQ h' s.toks fun b o hb e=>DK b o (fun h=>hb (by simp [h])) e
 self:=fun _ _ _ _ st hQ=>QK st.1 hQ
theorem Nm(hh:A.handled=none)(I a:Addr)(cQ:a≠I)(es:Array (Int×Value))(ep:Nat)(t:SetTable)(hb:w.params.followText "set-order" = false)(hd:(!t.plain&&decide (es.size>1))=false) :
  Walks prog w A I [I,a] [I] es.size (fun i v=>(es.toList.map (·.2))[i]? = some v) (fun i h=>hZ h I a (.int (sU t i) 0) i es.size ep∧mI w h a es ep t)where
 sub:=fun b hb=>by simp at hb;simp [hb]
 frame:=fun _ _ _ st hk=>⟨st.1.at fun o e=>hk I (by simp) o e,st.2.at fun o e=>hk a (by simp) o e⟩
 item:=fun i s Q E hi st hQ=>by
  have hx:=Ay hi;refine ab4 st.1 st.2 hb hd hx fun h' DD hJ=>?_;exact hQ _ h' s.toks (by simp [hi]) ⟨DD,st.2.at fun o e=>hJ.extBut a o cQ e⟩ fun b o hb e=>hJ.extBut b o (fun h=>hb (by simp [h])) e
 done:=fun s Q E st hQ=>ab5 hh st.1 st.2 hb hd fun h' DK=>hQ h' s.toks fun b o hb e=>DK b o (fun h=>hb (by simp [h])) e
 self:=fun _ _ _ _ st hQ=>QK st.1 hQ
theorem Nl(hh:A.handled=none)(I a T:Addr)(cQ:a≠I)(hTI:T≠I)(es:Array (Int×Value))(ep:Nat)(t:SetTable)(ps:List Nat)(hp:ps.Perm (List.range es.size)) :
  Walks prog w A I [I,a,T] [I] es.size (fun i v=>(ps.map fun j=>(es.getD j (0,.none)).2)[i]? = some v) (fun i h=>hZ h I a (.ref T) i es.size ep∧mI w h a es ep t∧AG h T ps)where
 sub:=fun b hb=>by simp at hb;simp [hb]
 frame:=fun _ _ _ st hk=>⟨st.1.at fun o e=>hk I (by simp) o e,st.2.1.at fun o e=>hk a (by simp) o e,st.2.2.at fun o e=>hk T (by simp) o e⟩
 item:=fun i s Q E hi st hQ=>by
  have hl:i<ps.length:=by rw [hp.length_eq];simpa using hi
  have hm:ps[i]<es.size:=by
   have:=hp.mem_iff.mp (MC hl);simpa using this
  refine ab2 (j:=ps[i]) (x:=es[ps[i]]) st.1 st.2.1 st.2.2 (jK hl) (Ay hm) fun h' DD hJ=>?_;exact hQ _ h' s.toks (by simp [hl,Array.getD,hm]) ⟨DD,st.2.1.at fun o e=>hJ.extBut a o cQ e,st.2.2.at fun o e=>hJ.extBut T o hTI e⟩ fun b o hb e=>hJ.extBut b o (fun h=>hb (by simp [h])) e
 done:=fun s Q E st hQ=>ab3 hh st.1 st.2.1 st.2.2 (by rw [hp.length_eq];simp) fun h' DK=>hQ h' s.toks fun b o hb e=>DK b o (fun h=>hb (by simp [h])) e
 self:=fun _ _ _ _ st hQ=>QK st.1 hQ
end
set_option maxRecDepth 100000
theorem gU.Wj{prog:Program}{w:World}{h:Heap}{a:Addr}{es:Array (Int×Value)}(x:gU prog w h a es):∃ep t,mI w h a es ep t:=let ⟨o,ep,t,ho,_,hd,_,_,hf,hT⟩:=x; ⟨ep,t,o,ho,hd,hf,hT⟩
section
variable{prog:Program}{w:World}{A:Around}{E:Value→Shared→Prop}{s:Shared}
theorem Yj{a:Addr}{es:Array (Int×Value)}{Q:Value→Shared→Prop}(hh:A.handled=none)(hS:gU prog w s.heap a es)
  (hQ:∀(I:Addr) (h':Heap) (d:Drawn) (ord:List Value) (fp:List Addr) (St:Nat→Heap→Prop),ord.Perm (es.toList.map (·.2))→(∀b o,s.heap.get? b=some o→h'.get? b=some o)→(∀b∈fp,b=a∨s.heap.objs.size≤b)→s.heap.objs.size≤I →
   Walks prog w A I fp [I] es.size (fun i v=>ord[i]? = some v) St→St 0 h'→Q (.ref I) { s with heap:=h',drawn:=d }):wpAny (model prog w) A (pyIter (.ref a)) Q E s:=by
 obtain⟨ep,t,hE⟩:=hS.Wj;obtain⟨os,gK,gL,hf,hT⟩:=id hE;have Il:=hS.typeIs;have cP:a<s.heap.objs.size:=hS.lt;have hsz:es.size<scanBound:=let ⟨_,_,_,_,_,_,_,hb,_,_⟩:=hS;hb;refine wpAny_pyIter_slot Il F.slot_set_iter (oH F.slot_set_iter Il ahK ?_ (F.args_set_iter_1 _));unfold Builtin.«frozenset.__iter__»;refine aF (aS ?_);refine aF ?_;unfold Builtin.Frozenset.sizeOf;refine aF (xN gK gL hf (aS ?_));refine aF ?_;unfold setDrawn;refine aF (uJ gK gL hf ?_);dsimp only;unfold setsByText;refine aF (aF (uK (aS (aS ?_))));cases hb:w.params.followText "set-order" with
 | true =>
  refine pE (lP (show ¬((!w.params.followText "set-order" && (!t.plain&&decide (es.size>1)))=true)by rw [hb];simp)) (aF (aS ?_));refine aF (wpAny_setEpoch_of gK gL hf ?_);refine aF (nJ (aS ⟨_,rfl, "set_iterator",_,⟨_,dY _ rfl,rfl⟩,kO.lookup,?_⟩));have e:s = { s with drawn:=s.drawn }:=by cases s;rfl
  have:=hQ s.heap.objs.size (s.heap.push { cls := .type "set_iterator",data := .fields #[.int 0 0,.int 0 0,.ref a,.int es.size 0,.int ep 0] }) s.drawn _ _ _ ((QQ (w.params.setOrder a ep) es).map (·.2)) (fun b o e=>bP _ e) (fun b hb=>by
   simp only [dG,xA,uX]at hb
   rcases hb with z | z
   ·exact .inr (by rw [z];exact mJ _)
   ·exact .inl z) bG (Nn hh _ a (cK cP) es ep t hb) ⟨dY _ rfl,hE.at fun o e=>bP _ e⟩
  simpa [rawInt]using this
 | false =>
  cases hd:(!t.plain&&decide (es.size>1))with
  | false =>
   refine pE (lP (show ¬((!w.params.followText "set-order" && (!t.plain&&decide (es.size>1)))=true)by rw [hd];simp)) (aF (aS ?_));refine aF (wpAny_setEpoch_of gK gL hf ?_);refine aF (nJ (aS ⟨_,rfl, "set_iterator",_,⟨_,dY _ rfl,rfl⟩,kO.lookup,?_⟩));have:=hQ s.heap.objs.size (s.heap.push { cls := .type "set_iterator",data := .fields #[.int 0 0,.int 0 0,.ref a,.int es.size 0,.int ep 0] }) s.drawn _ _ _ (AF _) (fun b o e=>bP _ e) (fun b hb=>by
    simp only [dG,xA,uX]at hb
    rcases hb with z | z
    ·exact .inr (by rw [z];exact mJ _)
    ·exact .inl z) bG (Nm hh _ a (cK cP) es ep t hb hd) ⟨dY _ rfl,hE.at fun o e=>bP _ e⟩
   simpa [rawInt]using this
  | true =>
   refine GA (wN (show(!w.params.followText "set-order" && (!t.plain&&decide (es.size>1)))=true by rw [hb,hd];simp)) ?_;refine aF (Bg es.size (List.range es.size) s (by simp) fun ps d hp=>?_);have dF:ps.length=es.size:=by rw [hp.length_eq];simp
   refine aF (wpAny_newTuple ?_ (by rw [dN,dF];exact WV hsz));have k1:∀b o,s.heap.get? b=some o→(s.heap.push { cls := .type "tuple",data := .seq (ps.map fun i:Nat=>rawInt (i:Int)).toArray }).get? b=some o:=fun b o e=>bP _ e;refine aF (wpAny_setEpoch_of (k1 a _ gK) gL hf ?_);refine aF (nJ (aS ⟨_,rfl, "set_iterator",_,⟨_,dY _ rfl,rfl⟩,kO.lookup,?_⟩));have He:(s.heap.push { cls := .type "tuple",data := .seq (ps.map fun i:Nat=>rawInt (i:Int)).toArray }).objs.size=s.heap.objs.size+1:=xE _ _;have hpm:(ps.map fun j=>(es.getD j (0,.none)).2).Perm (es.toList.map (·.2)):=by
    have h1:=hp.map fun j=>(es.getD j (0,.none)).2;have h2:(List.range es.size).map (fun j=>(es.getD j (0,Value.none)).2)=es.toList.map (·.2):=by
     apply MD;intro j;rw [iM,iM]
     by_cases hj:j<es.size
     ·simp [hj,Array.getD]
     ·simp [hj]
    rw [h2]at h1;exact h1
   have:=hQ (s.heap.objs.size+1) ((s.heap.push { cls := .type "tuple",data := .seq (ps.map fun i:Nat=>rawInt (i:Int)).toArray }).push { cls := .type "set_iterator",data := .fields #[.ref s.heap.objs.size,.int 0 0,.ref a,.int es.size 0,.int ep 0] }) d _ _ _ hpm (fun b o e=>bP _ (k1 b o e)) (fun b hb=>by
    simp only [dG,xA,uX]at hb
    rcases hb with z | z | z
    ·exact .inr (by rw [z];exact nY _)
    ·exact .inl z
    ·exact .inr (by rw [z];exact mJ _)) (nY _) (Nl hh _ a s.heap.objs.size (cK (uA cP)) (cK (ZK _)) es ep t ps hp) ⟨by
     unfold hZ;have q:=dY (s.heap.push { cls := .type "tuple",data := .seq (ps.map fun i:Nat=>rawInt (i:Int)).toArray }) (o:={ cls := .type "set_iterator",data := .fields #[.ref s.heap.objs.size,.int 0 0,.ref a,.int es.size 0,.int ep 0] }) rfl;rw [He]at q;exact q,hE.at fun o e=>bP _ (k1 a o e),bP _ (dY _ rfl)⟩
   rw [← He]at this;simpa [rawInt]using this
end
set_option maxRecDepth 100000
section
variable{prog:Program}{w:World}{A:Around}{E:Value→Shared→Prop}{s:Shared}
theorem ae9{r:Addr}{Q:Bool→Shared→Prop}(hT:s.TypeIs (.ref r) "set")(h:Q false s):wpAny (model prog w) A (Builtin.List.listLengthHint (.ref r)) Q E s:=by
 unfold Builtin.List.listLengthHint;refine aF (wpAny_specialOf hT F.slot_set_len.lookup ?_);generalize DF:("set.__len__" : String)=id0
 wp_delta
 rw [show splitId id0=some ("set", "__len__")from by subst DF;decide +kernel];subst DF;refine aF (MY (T := "set") (b:=true) hT (by rw [isSubtype_type];kernel_rfl) ?_);refine wpAny_ite_split (fun DR=>absurd DR (by decide)) (fun _=>?_);refine wpAny_ite_split (fun _=>?_) (fun DR=>absurd (by decide +kernel) DR);refine aF (wpAny_typeOf hT ?_);exact aS h
theorem adV{ord:List Value}{acc:Array Value}(h:ItemsOf (fun i v=>ord[i]? = some v) acc ord.length):acc.toList=ord:=by
 apply MD;intro i;rw [MT];cases e:acc[i]? with
 | some v=>exact(h.2 i v e).symm
 | none =>
  rw [eq_comm,List.getElem?_eq_none_iff];rw [Ng,h.1]at e;exact e
theorem ahB{R:Result→Shared→Prop}{r:Addr}{es:Array (Int×Value)}(hh:A.handled=none)(hS0:gU prog w s.heap r es)(S:Addr)(vW:S≠r)(res:Value)(c₀:Nat)(hS:s.heap.get? S=some { cls := .type "list",data := .seq #[] c₀ })
  (hR:∀h' tk d nF c',(∀b o,b≠S→s.heap.get? b=some o→h'.get? b=some o)→h'.get? S=some { cls := .type "list",dict:=none,data := .seq nF c',slots:=#[] }→nF.toList.Perm (es.toList.map (·.2))→R (.ok (.ret res)) { s with heap:=h',toks:=tk,drawn:=d }) :
  wpAny (model prog w) A.in1 (Builtin.List.listExtendWith (.ref S) (.ref r) res)
   (fun fin s'=>match fin with | .done f=>R (.ok f) s' | .again c'=>c'.quiet=true∧codeAny (model prog w) A c' R s') (fun e s'=>R (.error e) s') s:=by
 have hsz:es.size<scanBound:=let ⟨_,_,_,_,_,_,_,hb,_,_⟩:=hS0;hb;have tN:S<s.heap.objs.size:=bO hS;unfold Builtin.List.listExtendWith;refine aF (wpAny_typeOf (T := "set") hS0.typeIs ?_);have h1:Builtin.List.listSameRef (.ref S) (.ref r)=false:=by simp [Builtin.List.listSameRef,vW]
 have n1:(Value.type "set" == Value.type "list")=false:=by decide
 have n2:(Value.type "set" == Value.type "tuple")=false:=by decide
 simp only [h1,n1,n2,Bool.or_false,sN,jB];refine aF (Yj (A:=A.in1) hh hS0 fun I h0 d ord fp St hp JJ vT hI W st=>?_);have rJ:ord.length=es.size:=by rw [hp.length_eq];simp
 have pY:S∉fp:=fun hm=>by
  rcases vT S hm with z | z
  ·exact vW z
  ·exact absurd tN (Nat.not_lt.mpr z)
 have hSI:S≠I:=fun z=>absurd tN (by rw [z];exact Nat.not_lt.mpr hI);have key:∀(h:Heap) (c₁ tk:Nat),St 0 h→(∀b o,b≠S→s.heap.get? b=some o→h.get? b=some o) →
   h.get? S=some { cls := .type "list",data := .seq #[] c₁ }→codeAny (model prog w) A (.builtin "list.extend.loop" ⟨[.ref S,.ref I,res],[]⟩) R { s with heap:=h,toks:=tk,drawn:=d }:=by
  intro h c₁ tk gF hk vV;refine codeAny_extend_loopS W.toS (WV hsz) S pY res es.size 0 _ #[] c₁ rfl vA gF vV (ItemsOf.nil _) fun s' nF c' hm jF iQ=>?_;rw [Moved.eq_with hm];refine hR s'.heap s'.toks d nF c' (fun b o hb e=>hm.heap b o (fun vR=>?_) (hk b o hb e)) jF (by rw [adV (ord:=ord) (by rw [rJ];exact iQ)];exact hp)
  rcases dG.mp vR with e' | vR
  ·exact hb e'
  ·exact absurd (bO e) (by rw [mK.mp vR];exact Nat.not_lt.mpr hI)
 have vV:=JJ S _ hS;refine aF (qQ (ae9 (gU.typeIs (s:={ s with heap:=h0,drawn:=d }) (hS0.at fun o e=>JJ r o e)) ?_));refine wpAny_ite_split (fun _=>?_) (fun _=>aS ⟨yF PySem.F.plain_extend_loop _,key _ c₀ _ st (fun b o _ e=>JJ b o e) vV⟩);refine aF (AO ?_);refine aF ?_;show wpAny _ _ (updateSeq S (·.push .none) >>= fun _=>updateSeq S (·.pop)) _ _ _;refine aF (wpAny_updateSeq vV rfl ?_);have Im:=MI (Obj.mapSeq (·.push Value.none)) vV rfl;refine wpAny_updateSeq (hz:=by seq_fits) Im rfl ?_;have hS₃:=MI (Obj.mapSeq (·.pop)) Im rfl;refine aS ⟨yF PySem.F.plain_extend_loop _,key _ _ _ ?_ (fun b o hb e=>?_) hS₃⟩
 ·refine W.frame 0 _ _ st fun b hb o e=>?_;have Ii:b≠S:=fun h=>pY (h ▸ hb);exact(oE _ _ (bT Ii)).trans ((oE _ _ (bT Ii)).trans e)
 ·exact(oE _ _ (bT hb)).trans ((oE _ _ (bT hb)).trans (JJ b o e))
theorem ai1{R:List Value→Shared→Prop}{r:Addr}{es:Array (Int×Value)}(hh:A.handled=none)(hS0:gU prog w s.heap r es)
  (h:∀(h':Heap) (tk:Nat) (d:Drawn) (acc:Array Value),(∀b o,s.heap.get? b=some o→h'.get? b=some o)→acc.toList.Perm (es.toList.map (·.2))→R acc.toList { s with heap:=h',toks:=tk,drawn:=d }) :
  wpAny (model prog w) A (collect (.ref r)) R E s:=by
 have cP:=hS0.lt;unfold collect;refine aF (wpAny_runValue (wO entry_proto_collect' ?_));rw [AM PySem.F.plain_proto_collect _];show wpAny _ A.in1 (newList [] >>= fun l=>again (.builtin "list.__iadd__" ⟨[l,.ref r],[]⟩)) _ _ s;refine aF (nJ ?_);refine aS ⟨yF PySem.F.plain_list_iadd _,wO entry_list_iadd' ?_⟩;rw [AM PySem.F.plain_list_iadd _];have vV:(s.heap.push { cls := .type "list",data := .seq ([]:List Value).toArray }).get? s.heap.objs.size=some { cls := .type "list",data := .seq #[] }:=dY _ rfl;show wpAny _ A.in1 (Builtin.List.listExtendWith (.ref s.heap.objs.size) (.ref r) (.ref s.heap.objs.size)) _ _ _;have key:=ahB (A:=A) (s:={ s with heap:=s.heap.push { cls := .type "list",data := .seq ([]:List Value).toArray } }) (es:=es)
  (R:=fun(q:Result) (s':Shared)=>∃(h':Heap) (tk:Nat) (d:Drawn) (nF:Array Value) (c':Nat),q = .ok (.ret (.ref s.heap.objs.size))∧s' = { s with heap:=h',toks:=tk,drawn:=d } ∧
   (∀b o,s.heap.get? b=some o→h'.get? b=some o)∧h'.get? s.heap.objs.size=some { cls := .type "list",dict:=none,data := .seq nF c',slots:=#[] }∧nF.toList.Perm (es.toList.map (·.2)))
  hh (hS0.at fun o e=>bP _ e) s.heap.objs.size (zW cP) (.ref s.heap.objs.size) 0 vV
  (fun h' tk d nF c' hk jF iQ=>⟨h',tk,d,nF,c',rfl,rfl,fun b o e=>hk b o (cK (bO e)) (bP _ e),jF,iQ⟩)
 refine jM key (fun fin s' x=>?_) fun e s' x=>?_
 ·cases fin with
  | done f =>
   obtain⟨h',tk,d,nF,c',e,rfl,hk,jF,iQ⟩:=x;cases e;show wpAny _ A (load s.heap.objs.size >>= _) _ _ _;refine aF (wpAny_load jF ?_);exact aS (h h' tk d nF hk iQ)
  | again c₁ =>
   refine⟨x.1,rX x.2 fun q s₂ y=>?_⟩;obtain⟨h',tk,d,nF,c',rfl,rfl,hk,jF,iQ⟩:=y;show wpAny _ A (load s.heap.objs.size >>= _) _ _ _;refine aF (wpAny_load jF ?_);exact aS (h h' tk d nF hk iQ)
 ·obtain⟨_,_,_,_,_,e',_⟩:=x;cases e'
end
end PySem
namespace L2
open PySem PySem.Spec PyProof.Rows
section
variable{X:Cx}
def tZ(P:Program)(w:World)(a:Addr)(ms:List Int)(h:Heap):Prop:=∃es jR,gU P w h a es∧Nums es jR∧jR.Perm ms
def pA(ns:List Int):List Int:=ns.foldl step_dedup []
theorem Xo(ns:List Int):(List.range ns.length).map (fun i=>ns.getD i 0)=ns:=by
 apply MD;intro i;rw [iM]
 by_cases h:i<ns.length
 ·rw [List.getElem?_range h];simp [List.getD,h]
 ·rw [Ae (by simp;omega),Ae (by omega)];rfl
theorem Wh{P:Program}{w:World}{a:Addr}{ms:List Int}{H:Hp}{h:Heap}(x:tZ P w a ms h):eV P w H h a (.ext (tZ P w a ms)):=by
 refine⟨x,?_,fun h1 h2 y k=>?_⟩
 ·obtain⟨es,jR,hs,_⟩:=x;obtain⟨o,_,_,ho,_⟩:=hs;exact⟨o,ho⟩
 ·obtain⟨es,jR,hs,q⟩:=y;exact⟨es,jR,hs.at k,q⟩
theorem Kp(hc:X.calm=true):iN X (.type "set") (fun xs H Q=>∃(a:Addr) (ns:List Int),xs=[.ref a]∧eE X.K H a (ns.map V.int)∧ns.length<4000 ∧
  ∀l,H l=none→Q (.ref l) (upd H l (.ext (tZ X.prog X.w l (pA ns))))):=by
 intro pins s σ H xs us Q I r h;obtain⟨a,ns,rfl,hq,h4,q⟩:=h;obtain⟨u,rfl,ru⟩:=vals1 r;cases ru;obtain⟨aN,rv,pl,hz⟩:=I.list hq;have hI:IntsAre aN ns:=intsAre_of rv;have hl:aN.length=ns.length:=by rw [← rv.length,dN]
 refine ajL (I.ok.hd hc) pl.isList hI (by rw [hX,hl];show ns.length+1<4096;omega) fun h' tk es ms hT hN hP hk=>?_;rw [hX,hl]at hP;unfold firstMet at hP;rw [Xo]at hP;exact⟨.ref s.heap.objs.size,_,I.laid (t':=tk) (o := .ext (tZ X.prog X.w s.heap.objs.size (pA ns))) (fun b o e=>hk b o (bO e) e) bG (Wh ⟨es,ms,hT,hN,hP⟩),rfl,q _ (I.aH.fresh bG)⟩
theorem Inv.drawn{pins:List (Addr×Obj)}{σ:St}{H:Hp}{s:Shared}(I:Inv X pins σ H s)(d:Drawn):Inv X pins σ H { s with drawn:=d } :=
 ⟨I.ok,I.os,I.bare,I.base,I.loc,I.cell,I.free,I.hU,I.pin,I.aH,I.len⟩
theorem ad5:∀{l l':List Value},l'.Perm l→∀{ms:List Int},IntsAre l ms→∃jR,IntsAre l' jR∧jR.Perm ms:=by
 intro l l' h
 induction h with
 | nil=>intro ms h;exact⟨ms,h,AF _⟩
 | cons x _ ih =>
  intro ms h;cases h with
  | cons n t r=>obtain⟨jR,a,b⟩:=ih r;exact⟨n::jR,.cons n t a,b.cons n⟩
 | swap x y l =>
  intro ms h;cases h with
  | cons n t r =>
   cases r with
   | cons n2 t2 r=>exact⟨n2::n::_,.cons n2 t2 (.cons n t r),.swap n n2 _⟩
 | trans _ _ ih1 SY =>
  intro ms h;obtain⟨m1,a1,b1⟩:=SY h;obtain⟨m2,a2,b2⟩:=ih1 a1;exact⟨m2,a2,b2.trans b1⟩
theorem ajJ(hc:X.calm=true):iN X (.builtin "sorted") (fun xs H Q=>∃(d:Addr) (ks:List Int),xs=[.ref d]∧H d=some (.ext (tZ X.prog X.w d ks))∧ks.length<64 ∧
  ∀(ms:List Int) (l:Addr),ms.Perm ks→ms.Pairwise (· ≤ ·)→H l=none→Q (.ref l) (upd H l (.lst (ms.map V.int)))):=by
 intro pins s σ H xs us Q I r h;obtain⟨d,ks,rfl,hd,mC,q⟩:=h;obtain⟨u,rfl,ru⟩:=vals1 r;cases ru;obtain⟨⟨es,ms0,hT,hN,hP⟩,_,_⟩:=I.aH _ _ hd;have hsz:(64:Nat)≤sizeLine:=by decide
 refine Aw kind_sorted plain_sorted entry_sorted (args_sorted1 _) ?_;unfold Builtin.«sorted»;refine aF (m:=checkCount "sorted" 1 1 _) (aS ?_);refine aF (ai1 (A:=X.A.in1) (I.ok.hd hc) hT fun h' tk dr acc UE iQ=>?_);obtain⟨ks',hI,tR⟩:=ad5 iQ hN;have vX:ks'.Perm ks:=tR.trans hP;have hl:acc.toList.length=ks.length:=by
  have:∀{vs:List Value} {ns:List Int},IntsAre vs ns→vs.length=ns.length:=by
   intro vs ns h
   induction h with
   | nil=>rfl
   | cons n t _ ih=>simp [ih]
  rw [this hI,vX.length_eq]
 refine aF (wpAny_newList ?_ (by rw [hl];omega));have nT:(h'.push (seqObj "list" acc.toList.toArray 0)).get? h'.objs.size=some (seqObj "list" acc.toList.toArray 0):=dY _ rfl;refine aF (qQ (oH slot_list_sort ⟨_,nT,rfl⟩ entry_list_sort (list_sort_tree nT hI (by omega) fun out yJ a1 a2 a3=>⟨_,rfl,?_⟩) (args_list_sort _)));refine aS ⟨_,rfl,?_⟩;have I1:Inv X pins σ H { s with heap:=h',toks:=tk,drawn:=dr }:=(I.kept (t':=tk) UE).drawn dr;have hf:H h'.objs.size=none:=I1.aH.fresh bG;obtain⟨e1,pW⟩:∃e1,((h'.push (seqObj "list" acc.toList.toArray 0)).update h'.objs.size (Obj.mapSeq fun _=>#[])).get? h'.objs.size=some (seqObj "list" #[] e1):=⟨_,JR nT (fun _=>#[])⟩;have pV:=bP (seqObj "list" #[] 0) (bP (seqObj "tuple" acc.toList.toArray 0) pW);obtain⟨e2,TU⟩:∃e2,(sortedHeap (h'.push (seqObj "list" acc.toList.toArray 0)) h'.objs.size acc.toList out).get? h'.objs.size=some (seqObj "list" out e2):=⟨_,JR pV (fun _=>out)⟩;have kp:∀b u,h'.get? b=some u→(sortedHeap (h'.push (seqObj "list" acc.toList.toArray 0)) h'.objs.size acc.toList out).get? b=some u:=fun b u e=>by
  have hb:b≠h'.objs.size:=cK (bO e);unfold sortedHeap;exact(oE _ _ (bT hb)).trans (bP _ (bP _ ((oE _ _ (bT hb)).trans (bP _ e))))
 have hv:Vals (yJ.map V.int) out.toList:=NK a1;have DB:yJ.length=ks.length:=(a2.trans vX).length_eq;refine⟨.ref h'.objs.size,upd H h'.objs.size (.lst (yJ.map V.int)),I1.laid (t':=tk) kp bG ?_,rfl,q yJ _ (a2.trans vX) a3 hf⟩;exact⟨by rw [dN];omega,out.toList,e2,hv,TU⟩
theorem ajQ:iN X (.builtin "len") (fun xs H Q=>∃(d:Addr) (ks:List Int),xs=[.ref d]∧H d=some (.ext (tZ X.prog X.w d ks))∧Q (.int ks.length) H):=by
 intro pins s σ H xs us Q I r h;obtain⟨d,ks,rfl,hd,q⟩:=h;obtain⟨u,rfl,ru⟩:=vals1 r;cases ru;obtain⟨⟨es,ms0,hT,hN,hP⟩,_,_⟩:=I.aH _ _ hd;have hl:es.size=ks.length:=by
  have:∀{vs:List Value} {ns:List Int},IntsAre vs ns→vs.length=ns.length:=by
   intro vs ns h
   induction h with
   | nil=>rfl
   | cons n t _ ih=>simp [ih]
  have:=this hN;rw [dN,jZ]at this;rw [this,hP.length_eq]
 obtain⟨o,ep,t,ho,hx,UN,yY,oY,hf,hTo⟩:=hT;have jC:scanBound=4096:=rfl;refine Aw kind_len plain_len entry_len (args_len1 _) ?_;exact wpAny_len_body_set ho hx UN hf (by omega) ⟨.int ks.length,H,I.tok _,⟨_,by rw [hl]⟩,q⟩
end
end L2
namespace PySem
open PyProof.Rows PySem.Spec
set_option maxRecDepth 100000
theorem ahQ:typeLookup (.type "list") "keys" = pure none:=am_miss_of_fast (by kernel_rfl)
theorem ahR{prog:Program}{w:World}{A:Around}{E:Value→Shared→Prop}{s:Shared}{a:Addr}{o:Obj}{xs:Array Value}{k:Nat}{Q:Option Value→Shared→Prop}
  (hx:s.heap.get? a=some o) (hc:o.cls = .type "list") (JM:o.data = .seq xs k) (hd:o.dict=none) (hA:A.handled=none)
  (h:∀h' tk,(∀b ob,s.heap.get? b=some ob→h'.get? b=some ob)→Q none { s with heap:=h',toks:=tk }) :
  wpAny (model prog w) A (getAttr? (.ref a) "keys") Q E s:=by
 have hsz:("keys" : Str).length+100≤sizeLine:=by decide
 have ae3:=ahQ;have ae1:(["__module__", "__name__", "__qualname__", "__doc__", "__annotations__"]:List Str).contains "keys" = false:=by decide +kernel
 obtain⟨c,aX,dat,sl⟩:=o;simp only at hc JM hd;subst hc JM hd;obtain⟨hp,g,d,tk,os⟩:=s;have hT:∀xV,(⟨hp,g,d,xV,os⟩:Shared).TypeIs (.ref a) "list":=fun _=>⟨_,hx,rfl⟩
 have f1:=sub_AttributeError;have f3:=F.slot_list_getattribute.lookup;have f4:=F.slot_list_getattribute.bind (.ref a);have f5:=am_list_getattr_none;unfold getAttr? getAttrBy? getAttrBy
 repeat (any_goals (first | assumption | exact hT _ | ((with_reducible show wpAny _ _ (call (Value.builtin "list.__getattribute__") _ _) _ _ _);refine call_meets F.slot_list_getattribute (hT _) am_entry_list_getattribute (F.args_list_getattribute_2 _ _) (meets_getattribute_miss_list a xs k sl "keys" _ ae3 ae1 hsz) ⟨hx,hA,fun h' xV e pU=>?_⟩) | wp_step))
 obtain⟨t',u',he⟩:=pU.there;show wpAny _ _ (getattributeRaised _ _ _ _ _ _ _) _ _ _;unfold getattributeRaised
 repeat (any_goals (first | assumption | wp_step))
 exact h _ _ pU.keeps
theorem Js:entryFor table "dict.update.loop" = some Builtin.«dict.update.loop»:=entryFor_of_tree (by kernel_rfl)
theorem HR:plainId "dict.update.loop" = true:=by decide +kernel
section
variable{prog:Program}{w:World}{K:Type} [DecidableEq K]{knd:KeyKind prog w K}{A:Around}{R:Result→Shared→Prop}{I:Addr}{fp wr:List Addr}{G:Array GenState→Array GenState→Prop}{n:Nat}{P:Nat→Value→Prop}{St:Nat→Shared→Prop}
def ET(knd:KeyKind prog w K)(h:Heap)(S:Addr)(wr:List Addr)(kvs:List (K×Value))(i:Nat)(v:Value):Prop :=
 ∃a key k x,v = .ref a∧a≠S∧a∉wr∧kvs[i]? = some (k,x)∧knd.is k key=true∧IsTup h a #[key,x]
theorem ET.at{h h':Heap}{S:Addr}{wr:List Addr}{kvs:List (K×Value)}{i:Nat}{v:Value}(p:ET knd h S wr kvs i v)(hk:∀b o,b∉S::wr→h.get? b=some o→h'.get? b=some o):ET knd h' S wr kvs i v:=by
 obtain⟨a,key,k,x,h1,h2,h3,h4,h5,o,ho,r⟩:=p;exact⟨a,key,k,x,h1,h2,h3,h4,h5,o,hk a o (by simp [h2,h3]) ho,r⟩
theorem ai3(W:WalksS prog w A.in1 I fp wr G n P St)(S:Addr)(pY:S∉fp)(kvs:List (K×Value))(hn:kvs.length=n)(hb:n≤sizeLine) :
  ∀(k i:Nat) (s:Shared) (c:Int) (u:Tok),n - i=k→i≤n→St i s→(∀j v,P j v→ET knd s.heap S wr kvs j v) →
   s.heap.DictOf knd S (merged [] (kvs.take i)) →
   (∀s',Moved (S::wr) G s s'→s'.heap.DictOf knd S (merged [] kvs)→R (.ok (.ret .none)) s') →
   codeAny (model prog w) A (.builtin "dict.update.loop" ⟨[.ref S,.ref I,.int c u,.none],[]⟩) R s:=by
 have DT:S∉wr:=fun h=>pY (W.sub _ h);have tM:∀b∈wr,b∈S::wr:=fun b hb=>fP _ hb;intro k
 induction k with
 | zero =>
  intro i s c u hk hi gF hP hD hR;have kU:i=n:=by omega
  subst kU;refine wO Js ?_;rw [AM HR _];show wpAny _ A.in1 (pyNext (.ref I) >>= _) _ _ s;refine aF (W.done s _ _ gF fun s' hm=>?_);show wpAny _ A.in1 (Builtin.Dict.addKeywords S [] >>= fun _=>ret Value.none) _ _ s';refine aF (aS (aS (hR s' (hm.mono tM) ?_)));rw [← hn,List.take_length]at hD;obtain⟨o,es,ep,ho,r⟩:=hD;exact⟨o,es,ep,hm.heap S _ DT ho,r⟩
 | succ k ih =>
  intro i s c u hk hi gF hP hD hR;have cP:i<n:=by omega
  refine wO Js ?_;rw [AM HR _];show wpAny _ A.in1 (pyNext (.ref I) >>= _) _ _ s;refine aF (W.item i s _ _ cP gF fun v s' UW TK hm=>?_);have tR:∀j v,P j v→ET knd s'.heap S wr kvs j v:=fun j v q=>(hP j v q).at fun b o hb e=>hm.heap b o (fun z=>hb (tM b z)) e;have hD':s'.heap.DictOf knd S (merged [] (kvs.take i)):=by
   obtain⟨o,es,ep,ho,r⟩:=hD;exact⟨o,es,ep,hm.heap S _ DT ho,r⟩
  obtain⟨a,key,kk,x,rfl,h2,h3,h4,h5,o,ho,JC,nn,hod⟩:=tR i v UW;show wpAny _ A.in1 (holding [Value.ref a] ((Builtin.Dict.pairItems (.ref a)).tryCatch _ >>= _) >>= _) _ _ s';refine aF (qQ (aF (wpAny_tryCatch ?_)));unfold Builtin.Dict.pairItems;refine aF (wpAny_typeOf (T := "tuple") ⟨o,ho,JC⟩ ?_);rw [if_pos (by decide)];refine aF (wpAny_seqItems ho hod (aS ?_));show wpAny _ _ (holding [key,x] (dictSet S key x)) _ _ _;refine qQ (wpAny_dictSet_pairs (hsz:=by
   have e1:=merged_length_le [] (kvs.take i);rw [MB]at e1;simp only [Ac]at e1;omega) h5 hD' fun h' yX hJ=>?_)
  rw [← merged_take_succ [] kvs i (kk,x) h4]at yX;refine aS ⟨yF HR _,ih (i+1) _ _ _ (by omega) cP (W.frame _ s' _ _ TK (nY _) fun b hb o e=>?_) (fun j v q=>(tR j v q).at fun b o hb e=>?_) yX fun rA UB afP=>?_⟩
  ·rw [hJ.2 b (fun h:b=S=>pY (by rw [← h];exact hb))];exact e
  ·rw [hJ.2 b (fun h:b=S=>hb (by rw [h];exact List.mem_cons_self))];exact e
  ·refine hR rA (Moved.trans W.gtrans ((hm.mono tM).then_heap (nY _) fun b o hb e=>?_) UB) afP;rw [hJ.2 b (fun h:b=S=>hb (by rw [h];exact List.mem_cons_self))];exact e
end
section
variable{prog:Program}{w:World}{K:Type} [DecidableEq K]{knd:KeyKind prog w K}{A:Around}{E:Value→Shared→Prop}{s:Shared}
theorem ajU{l:Addr}{items:Array Value}{kvs:List (K×Value)}{o:Obj}{nl:Nat}{Q:Value→Shared→Prop}
  (hh:A.handled=none) (rJ:s.heap.get? l=some o) (fH:o.cls = .type "list") (yW:o.data = .seq items nl) (UO:o.dict=none) (hlen:kvs.length=items.size) (hsz:items.size≤sizeLine)
  (hp:∀(i:Nat) (v:Value),items[i]? = some v→∃(a:Addr) (key:Value) (k:K) (x:Value),v=Value.ref a∧kvs[i]? = some (k,x)∧knd.is k key=true∧IsTup s.heap a #[key,x])
  (h:∀(h':Heap) (tk:Nat),h'.DictOf knd s.heap.objs.size (merged [] kvs)→(∀b o,s.heap.get? b=some o→h'.get? b=some o)→Q (.ref s.heap.objs.size) { s with heap:=h',toks:=tk }) :
  wpAny (model prog w) A (call (.type "dict") [.ref l]) Q E s:=by
 refine callType_codes (Q₁:=fun obj s₁=>obj = .ref s.heap.objs.size∧s₁ = { s with heap:=s.heap.push { cls := .type "dict",data := .dict #[] } }) F.kt_called_dict (F.kt_typeCall_dict_1 _) F.entry_dict_init (kt_code_dict_new _ ⟨rfl,rfl⟩) ?_;rintro obj s₁ ⟨rfl,rfl⟩;have TX:(s.heap.push { cls := .type "dict",data := .dict #[] }).DictOf knd s.heap.objs.size []:=Heap.DictOf.new s.heap;refine⟨TX.typeIs,F.args_dict_init_2 _ _,?_⟩;have tN:l<s.heap.objs.size:=bO rJ;have JB:(s.heap.push { cls := .type "dict",data := .dict #[] }).get? l=some o:=bP _ rJ;unfold Builtin.«dict.__init__»;refine aF ?_;unfold Builtin.Dict.selfAndRest;refine aF (wpAny_notOrdered_dict TX.typeIs ?_);show wpAny _ _ (pure (s.heap.objs.size,[Value.ref l])) _ _ _;refine aS ?_;show wpAny _ _ (Builtin.Dict.updateFrom "dict.__init__" s.heap.objs.size (.ref l) [] .none) _ _ _;unfold Builtin.Dict.updateFrom;refine aF (wpAny_typeOf (T := "list") ⟨o,JB,fH⟩ ?_);rw [if_pos (by decide)];refine aF (ahR JB fH yW UO hh fun h1 tk1 fT=>?_);have JI:∀b ob,s.heap.get? b=some ob→h1.get? b=some ob:=fun b ob e=>fT b ob (bP _ e);have JG:s.heap.objs.size<h1.objs.size:=bO (fT _ _ (dY _ rfl));refine GA (by rfl) ?_;refine aF (AO ?_);refine aF (wpAny_pyIter_list (items:=items) ⟨o,JI _ _ rJ,fH,nl,yW⟩ ?_);refine aS ⟨yF HR _,?_⟩;have cQ:l≠h1.objs.size:=cK (ZJ tN JG);have hD1:(h1.push { cls := .type "list_iterator",data := .fields #[.ref l,.int 0 0] }).DictOf knd s.heap.objs.size (merged [] (kvs.take 0)):=by
  obtain⟨o,es,ep,ho,r⟩:=TX;exact⟨o,es,ep,bP _ (fT _ _ ho),r⟩
 have UH:A.in1.in1.handled=none:=by simp [hh]
 refine ai3 (knd:=knd) ((Walks.list (A:=A.in1.in1) UH h1.objs.size l cQ items).toS) s.heap.objs.size (by
   simp only [dG,xA,uX,not_or];exact⟨cK JG,zW tN⟩) kvs hlen hsz (items.size - 0) 0 _ _ _ rfl vA
  ⟨⟨_,dY _ rfl,rfl,rfl⟩,⟨o,bP _ (JI _ _ rJ),fH,nl,yW⟩⟩ (fun j v q=>?_) hD1 fun s' hm hd=>?_
 ·obtain⟨a,key,kk,x,rfl,e1,e2,t⟩:=hp j v q;have lK:a<s.heap.objs.size:=by obtain⟨ot,et,_⟩:=t;exact bO et
  refine⟨a,key,kk,x,rfl,cK lK,?_,e1,e2,t.keeps fun b ob e=>bP _ (JI b ob e)⟩;simp only [dG,xA,uX];exact cK (ZJ lK JG)
 ·obtain⟨h',g',d',xV,CC⟩:=s';have eg:g'=s.gens:=hm.gens;have ed:d'=s.drawn:=hm.drawn;have eo:CC=s.os:=hm.os;subst eg;subst ed;subst eo;refine⟨rfl,h h' xV hd fun b ob e=>hm.heap b ob ?_ (bP _ (JI b ob e))⟩;have hb:=bO e;simp only [dG,xA,uX,not_or];exact⟨cK hb,cK (ZJ hb JG)⟩
end
end PySem
namespace V2
open PySem PySem.Spec PyProof.Rows L2
section
variable{X:Cx}{W:WX}
theorem NJ{P:Program}{w:World}:∀(ks:List Key) (us:List Value),us.length=ks.length→(∀(i:Nat) (v:Value),us[i]? = some v→∃k,ks[i]? = some k∧(eO P w).is k v=true)→Vals (ks.map kV) us
 | [],[],_,_ => .nil
 | [],_::_,h,_=>by simp at h
 | _::_,[],h,_=>by simp at h
 | k::ks,u::us,h,q=>by
  obtain⟨k',e1,e2⟩:=q 0 u rfl;cases e1;exact .cons (IV e2) (NJ (P:=P) (w:=w) ks us (by simpa using h) fun i v hv=>by simpa using q (i+1) v (by simpa using hv))
theorem aaE{o:Expr}{td:TE}{p1 apos q1 q2:Pos}(hc:X.calm=true)(oW:Gl X "list")(oV:X.mg "list" = none)(ho:PE X o td)
  (hs:starEach [.Call (.Attribute o "keys" apos) [] [] q2] X.env=[(false,eval (.Call (.Attribute o "keys" apos) [] [] q2) X.env)]:=by rfl)
  (gS:attributeBase o "keys" X.env (eval o X.env)=eval o X.env:=by rfl) (gR:(apos.endLine == q2.line)=true:=by rfl) :
  PE X (.Call (.Name "list" p1) [.Call (.Attribute o "keys" apos) [] [] q2] [] q1) (fun σ H Q=>td σ H fun x H1=>∃a kvs,x = .ref a∧H1 a=some (.dK kvs) ∧
   ∀(l:Addr),H1 l=none→Q (.ref l) (upd H1 l (.lst (kvs.map fun kv=>kV kv.1)))):=by
 intro pins s σ H Q I h;refine sQ (rF I oW oV LV ?_);refine LU ?_ hs rfl;rw [hs];show wpAny _ _ (spliced ((false,eval (.Call (.Attribute o "keys" apos) [] [] q2) X.env)::[])) _ _ s;refine AK ?_;refine GC gS gR (aW (ho pins s σ H _ I h) fun v s1 ⟨x,H1,I1,r1,q1⟩=>?_);obtain⟨a,kvs,rfl,hH,q⟩:=q1;cases r1;obtain⟨h1,h2,oS⟩:=vH I1 (.inl ⟨kvs,.inl hH⟩);obtain⟨z,_,vs,rel,dd⟩:=wM I1.aH hH;refine⟨"dict", "dict.keys",PySem.F.plainAttrs_dict,PySem.F.slot_dict_keys,PySem.F.type_dict_keys,h1,h2,AL rfl (PySem.evalArgs_none ?_)⟩;refine zP PySem.F.slot_dict_keys dd.typeIs PySem.F.entry_dict_keys (PySem.F.args_dict_keys_1 _) (PySem.W.kdl_meets_keys (eO X.prog X.w) a oS) ⟨⟨vs,dd⟩,?_⟩;refine FW ?_;have I2:Inv X pins σ H1 { s1 with heap:=s1.heap.push { cls := .type "dict_keys",data := .fields #[.ref a] } }:=I1.kept (t':=s1.toks) fun b o e=>bP _ e;obtain⟨ep,rP⟩:=dd.dictAt;have CS:kvs.length=vs.length:=rel.length;refine kdl_call (s:={ s1 with heap:=s1.heap.push { cls := .type "dict_keys",data := .fields #[.ref a] } }) (PySem.W.kdl_keys (knd:=eO X.prog X.w) (r:=s1.heap.objs.size) (d:=a) (kvs:=vs) (ep:=ep)) (I2.ok.hd hc) ⟨⟨_,dY _ rfl,rfl,rfl⟩,rP.push _⟩ (by omega) fun h' tk acc c hk hS iQ=>?_;generalize iP:({ s1 with heap:=s1.heap.push { cls := .type "dict_keys",data := .fields #[.ref a] } }:Shared)=s2 at I2 hk hS;have UG:kvs.map (·.1)=vs.map (·.1):=rel.keys;have hv:Vals ((kvs.map (·.1)).map kV) acc.toList:=NJ (P:=X.prog) (w:=X.w) _ _ (by rw [jZ,iQ.1,dN];omega) fun i v hv=>by
  obtain⟨k,x,e1,e2⟩:=iQ.2 i v (by rw [← MT];exact hv);exact⟨k,by rw [UG,iM,e1];rfl,e2⟩
 rw [sE]at hv;have CT:Vals (kvs.map fun kv=>kV kv.1) acc.toList:=hv;have I3:=I2.laid (t':=tk) (o := .lst (kvs.map fun kv=>kV kv.1)) hk bG ⟨by rw [dN];omega,acc.toList,c,CT,by simpa using hS⟩;exact⟨.ref s2.heap.objs.size,_,I3,rfl,q _ (I2.aH.fresh bG)⟩
theorem XJ{K:Frag}{G:Hp}{ι:List Addr}:∀{ws:List (Key×V)} {kvs:List (Key×A)},ws.map (·.1)=kvs.map (·.1)→aK K G ι (ws.map fun kv=>kV kv.1) (kvs.map fun kv=>kA kv.1)
 | [],[],_=>by rw [oB,oB,kZ]
 | [],_::_,h=>by simp at h
 | _::_,[],h=>by simp at h
 | wv::ws,kv::kvs,h=>by
  rw [cF,cF]at h;obtain⟨h1,h2⟩:=FD h;rw [cF,cF];exact .cons (by rw [h1];exact XH _) (XJ h2)
@[simp] def pH(c:Bool)(f:Ev→Mo A):Ev→Mo A:=fun ρ=>mb (f ρ) fun a Ω=>match gM Ω a with
 | some (_,kvs)=>jS c (kvs.map fun kv=>kA kv.1) Ω
 | none=>none
theorem Bo{o:Expr}{f:Ev→Mo A}{p1 apos q1 q2:Pos}(c:Bool)(hc:X.calm=true)(oW:Gl X "list")(oV:X.mg "list" = none)(ho:VE X W o f)
  (hs:starEach [.Call (.Attribute o "keys" apos) [] [] q2] X.env=[(false,eval (.Call (.Attribute o "keys" apos) [] [] q2) X.env)]:=by rfl)
  (gS:attributeBase o "keys" X.env (eval o X.env)=eval o X.env:=by rfl) (gR:(apos.endLine == q2.line)=true:=by rfl) :
  VE X W (.Call (.Name "list" p1) [.Call (.Attribute o "keys" apos) [] [] q2] [] q1) (pH c f):=by
 obtain⟨t,p,s⟩:=ho;refine⟨_,aaE hc oW oV p hs gS gR,fun G ι Ω H σ ρ Q w r h=>?_⟩;refine s G ι Ω H σ ρ _ w r (aY.mb h fun a Ω1 v H1 G1 ι1 x1 w1 d1 h1=>?_);split at h1
 ·rename_i k kvs e;obtain⟨p,ws,rfl,hk,g,q1,q2,q3⟩:=rY w1 d1 e;exact⟨p,ws,rfl,q1,fun l hl=>oO w1 hl (XJ q2) h1⟩
 ·exact False.elim h1
end
end V2
namespace L2
open PySem PySem.Spec PyProof.Rows
section
variable{X:Cx}
theorem Jt{pins:List (Addr×Obj)}{σ:St}{H:Hp}{s:Shared}(I:Inv X pins σ H s):∀(kvs:List (Key×V)) (ys:List V) (aN:List Value),ys.length=kvs.length→Vals ys aN→(∀(i:Nat) (kv:Key×V),kvs[i]? = some kv→∃b,ys[i]? = some (.ref b)∧H b=some (.tup [kV kv.1,kv.2])) →
  ∃vs:List (Key×Value),KV kvs vs∧aN.length=kvs.length∧∀(i:Nat) (v:Value),aN[i]? = some v→∃(b:Addr) (key:Value) (k:Key) (x:Value),v=Value.ref b∧vs[i]? = some (k,x)∧(eO X.prog X.w).is k key=true∧IsTup s.heap b #[key,x]
 | [],[],_,_,.nil,_=>⟨[],.nil,rfl,fun i v h=>by simp at h⟩
 | [],_::_,_,h,_,_=>by simp at h
 | _::_,[],_,h,_,_=>by simp at h
 | kv::kvs,y::ys,u::aN,hl,.cons r rs,hp=>by
  obtain⟨b,e1,e2⟩:=hp 0 kv rfl;have ey:y = .ref b:=by simpa using e1
  subst ey;cases r;obtain⟨vs,q1,q2,q3⟩:=Jt I kvs ys _ (by simpa using hl) rs fun i kv' hi=>by simpa using hp (i+1) kv' (by simpa using hi)
  obtain⟨_,IT,rv,tp⟩:=I.aH b _ e2;cases rv with
  | cons r1 t1 =>
   cases t1 with
   | cons r2 t2 =>
    cases t2;rename_i key xv;refine⟨(kv.1,xv)::vs,.cons ⟨rfl,r2⟩ q1,by simp [q2],fun i v hi=>?_⟩;cases i with
    | zero =>
     simp at hi;subst hi;exact⟨b,key,kv.1,xv,rfl,rfl,yO r1,tp⟩
    | succ i =>
     obtain⟨b',adJ,k',x',g1,g2,g3,g4⟩:=q3 i v (by simpa using hi);exact⟨b',adJ,k',x',g1,by simpa using g2,g3,g4⟩
theorem ajV(hc:X.calm=true):iN X (.type "dict") (fun xs H Q=>∃(a:Addr) (ys:List V) (kvs:List (Key×V)),xs=[.ref a]∧eE X.K H a ys∧ys.length=kvs.length∧(kvs.map (·.1)).Nodup ∧
  (∀(i:Nat) (kv:Key×V),kvs[i]? = some kv→∃b,ys[i]? = some (.ref b)∧H b=some (.tup [kV kv.1,kv.2]))∧∀l,H l=none→Q (.ref l) (upd H l (.dK kvs))):=by
 intro pins s σ H xs us Q I r h;obtain⟨a,ys,kvs,rfl,hq,hl,hn,hp,q⟩:=h;obtain⟨u,rfl,ru⟩:=vals1 r;cases ru;obtain⟨aN,rv,⟨o,n,e,fH,UO,JM⟩,hz⟩:=I.list hq;obtain⟨vs,q1,q2,q3⟩:=Jt I kvs ys aN hl rv hp;have CS:kvs.length=vs.length:=q1.length;refine ajU (knd:=eO X.prog X.w) (kvs:=vs) (I.ok.hd hc) e fH JM UO (by rw [hX];omega) (by rw [hX];omega) (fun i v hi=>q3 i v (by simpa using hi)) fun h' tk hD hk=>?_;rw [merged_nil_of_nodup vs (by rw [← q1.keys];exact hn)]at hD;exact⟨.ref s.heap.objs.size,_,I.laid (t':=tk) (o := .dK kvs) hk bG (Ju (by omega) (qF.mpr (zW I.big)) q1 hD),rfl,q _ (I.aH.fresh bG)⟩
theorem ajO(hc:X.calm=true):iN X (.type "list") (fun xs H Q=>∃(a:Addr) (kvs:List (Key×V)),xs=[.ref a]∧H a=some (.dK kvs)∧∀l,H l=none→Q (.ref l) (upd H l (.lst (kvs.map fun kv=>kV kv.1)))):=by
 intro pins s σ H xs us Q I r h;obtain⟨a,kvs,rfl,hH,q⟩:=h;obtain⟨u,rfl,ru⟩:=vals1 r;cases ru;obtain⟨h1,h2,oS⟩:=vH I (.inl ⟨kvs,.inl hH⟩);obtain⟨z,_,vs,rel,dd⟩:=wM I.aH hH;obtain⟨ep,rP⟩:=dd.dictAt;have CS:kvs.length=vs.length:=rel.length;refine kdl_call (PySem.W.kdl_dict (knd:=eO X.prog X.w) (d:=a) (kvs:=vs) (ep:=ep) oS) (I.ok.hd hc) rP (by omega) fun h' tk acc c hk hS iQ=>?_;have UG:kvs.map (·.1)=vs.map (·.1):=rel.keys;have hv:Vals ((kvs.map (·.1)).map kV) acc.toList:=V2.NJ (P:=X.prog) (w:=X.w) _ _ (by rw [jZ,iQ.1,dN];omega) fun i v hv=>by
  obtain⟨k,x,e1,e2⟩:=iQ.2 i v (by rw [← MT];exact hv);exact⟨k,by rw [UG,iM,e1];rfl,e2⟩
 rw [sE]at hv;have CT:Vals (kvs.map fun kv=>kV kv.1) acc.toList:=hv;have I3:=I.laid (t':=tk) (o := .lst (kvs.map fun kv=>kV kv.1)) hk bG ⟨by rw [dN];omega,acc.toList,c,CT,by simpa using hS⟩;exact⟨.ref s.heap.objs.size,_,I3,rfl,q _ (I.aH.fresh bG)⟩
theorem Inv.GW{pins:List (Addr×Obj)}{σ:St}{H:Hp}{s:Shared}{a:Addr}{kvs:List (Key×V)}{o:Obj}(I:Inv X pins σ H s)(h:H a=some (.bW o (.dK kvs)))(hb:∀ob u,X.H₀ a≠some (.bW ob u)):Inv X pins σ (upd H a (.dK kvs)) s where
 ok:=I.ok
 os:=I.os
 bare:=I.bare
 base:={
  keep:=I.base.keep
  slot:=I.base.slot
  free:=fun b ob q n hx=>by
   have z:=I.base.free b ob q n hx;rw [aT (bT (gE h z))];exact z
  there:=I.base.there
  iW:=fun b xs q=>by have z:=I.base.iW b xs q;rw [aT (pQ z h (by intro w;cases w))];exact z
  iJ:=fun b ob u q=>by
   have z:=I.base.iJ b ob u q;have cQ:b≠a:=fun e=>hb ob u (by rw [← e];exact q);rw [aT cQ];exact z
  iY:=fun b ps q=>by obtain⟨more,z⟩:=I.base.iY b ps q;exact⟨more,by rw [aT (pQ z h (by intro w;cases w))];exact z⟩ }
 loc:=I.loc
 cell:=I.cell
 free:=by rw [aT (bT (gE h I.free))];exact I.free
 hU:=fun x c q=>by rw [aT (bT (gE h (I.hU x c q)))];exact I.hU x c q
 pin:=fun q hq=>by
  obtain⟨x,y,c⟩:=I.pin q hq;exact⟨x,by rw [aT (bT (gE h y))];exact y,c⟩
 aH:=fun b u q=>by
  have st:∀c v,H c=some v→v ≠ .bW o (.dK kvs)→upd H a (.dK kvs) c=some v:=fun c v z hv=>by rw [aT (pQ z h hv)];exact z
  by_cases eb:b=a
  ·subst eb;rw [cW]at q;cases q;obtain⟨_,ok⟩:=I.aH b _ h;exact eV.lI ok (fun c v _ z=>z) (fun c z=>st c _ z (by intro w;cases w)) fun c xs z=>st c _ z (by intro w;cases w)
  ·rw [aT eb]at q;exact(I.aH b u q).lI (fun c v _ z=>z) (fun c z=>st c _ z (by intro w;cases w)) fun c xs z=>st c _ z (by intro w;cases w)
 len:=I.len
def Cm(a:Addr)(D:Ends):Ends where
 nx:=fun σ H=>∃o kvs,H a=some (.bW o (.dK kvs))∧D.nx σ (upd H a (.dK kvs))
 rt:=fun v H=>∃o kvs,H a=some (.bW o (.dK kvs))∧D.rt v (upd H a (.dK kvs))
 bk:=fun σ H=>∃o kvs,H a=some (.bW o (.dK kvs))∧D.bk σ (upd H a (.dK kvs))
 ct:=fun σ H=>∃o kvs,H a=some (.bW o (.dK kvs))∧D.ct σ (upd H a (.dK kvs))
theorem Yx{st:Stmt}{t:TS}(h:PS X st t):PS X st (fun D σ H=>∃a kvs,H a=some (.dK kvs)∧t (Cm a D) σ H):=by
 intro pins s σ H D I ⟨a,kvs,ha,q⟩;have hb:∀ob u,X.H₀ a≠some (.bW ob u):=fun ob u e=>by
  have:=I.base.iJ a ob u e;rw [ha]at this;cases this
 refine aW (h pins s σ H _ I q) fun f s' z=>?_;cases f with
 | next=>obtain⟨σ',H',I',o,IQ,h1,h2⟩:=z;exact⟨σ',_,I'.GW h1 hb,h2⟩
 | brk=>obtain⟨σ',H',I',o,IQ,h1,h2⟩:=z;exact⟨σ',_,I'.GW h1 hb,h2⟩
 | cont=>obtain⟨σ',H',I',o,IQ,h1,h2⟩:=z;exact⟨σ',_,I'.GW h1 hb,h2⟩
 | ret u=>obtain⟨v,σ',H',I',r,o,IQ,h1,h2⟩:=z;exact⟨v,σ',_,I'.GW h1 hb,r,h2⟩
theorem Xg{k:Nat}{f:Addr}{fd:FuncData}{ps:List Str}{sp:Sp}{dvs:List V}{ds:List Value}{pins:List (Addr×Obj)}{σ:St}{H:Hp}{s:Shared}{Q:VK}{us:List Value}{vs:List V}(F:fQ X.prog X.w X.K X.mg X.base (kJ X.prog X.w) k f fd ps sp)(hr:bN k X.A)(hb:Binds X.K fd ps ds)(hd:Vals dvs ds)
  (I:Inv X pins σ H s) (r:Vals vs us) (h:sp (vs++dvs) H Q fun _ _ _=>False):wpAny (model X.prog X.w) X.A (call (.ref f) us) (EP X pins σ Q) X.xe s:=by
 have r2:Vals (vs++dvs) (us++ds):=r.append hd;have hl:(us++ds).length=ps.length:=by rw [← r2.length];exact F.len _ _ _ _ h
 refine wpAny_call (rX (F.run X.A X.stack s H ⟨us,[]⟩ (us++ds) (vs++dvs) Q _ hr I.KG (hb s us I.eQ hl) r2 h) fun r s' hq=>?_);cases r with
 | error ev =>
  obtain⟨a,cls,dx,H',rfl,os,bare,un,aH,ex,q'⟩:=hq;exact q'.elim
 | ok fl =>
  cases fl with
  | ret u=>exact I.after hq
  | next=>exact False.elim hq
  | brk=>exact False.elim hq
  | cont=>exact False.elim hq
theorem aaA{o e:Expr}{es:List Expr}{m:Str}{ta:TE}{t:TA}{pos apos:Pos}{pl:Sem Bool}(he:PE X o ta)(ha:PA X (e::es) t)
  (gF:starEach (e::es) X.env=(false,eval e X.env)::starEach es X.env:=by rfl) (dF:(backTo pos (starEach es X.env)).any (·.1)=false:=by rfl)
  (ht:eval (.Call (.Attribute o m apos) (e::es) [] pos) X.env=(do
   let ov ← eval o X.env
   standAt apos.atName
   let (f,first) ← holding [ov] (getMethod ov m pl)
   callWith pos f first (backTo pos (starEach (e::es) X.env)) (backToKw pos (keywordEach [] X.env))):=by rfl) :
  PE X (.Call (.Attribute o m apos) (e::es) [] pos) (GY X V2.pP m ta t):=by
 intro pins s σ H Q I h;refine methodCall_KW (pl:=pl) (aW (he pins s σ H _ I h) fun u s1 ⟨x,H1,I1,rx,a,C,dx,fs,k,f,fd,ps,ds,dvs,sp,ex,ea,l,c,hm,F,hr,hb,hd,q⟩=>?_) ht;subst ex;obtain rfl:u=Value.ref a:=rx;refine WH I1 ea c hm l ?_;refine callWith_K (first:=[.ref a]) (h₀:=X.base) I.ok.mod.tL hm.kp (aW (ha pos pins s1 σ H1 _ I1 q) fun us s2 ⟨vs,H2,I2,r,q2⟩=>⟨I2.eQ,?_⟩) gF dF;exact Xg (us := .ref a::us) (vs := .ref a::vs) F hr hb hd I2 (.cons rfl r) q2
end
end L2
namespace V2
open PySem PySem.Spec PyProof.Rows L2 KS
section
variable{X:Cx}{W:WX}{e o:Expr}
@[simp] def GO(c:Bool)(f:Ev→Mo A):Ev→Mo A:=fun ρ=>mb (f ρ) fun a Ω=>match (cX Ω a).bind intsOf with
 | some ns=>if ns.length<4000∧(pA ns).length<64 then jS c ((sortI (pA ns)).map A.int) Ω else none
 | none=>none
theorem Nx{f:Ev→Mo A}{p1 p2 q1 q2:Pos}(c:Bool)(hc:X.calm=true)(UJ:Gl X "sorted")(UA:X.mg "sorted" = none)(UI:Gl X "set")(TZ:X.mg "set" = none)(he:VE X W e f)
  (hs:starEach [.Call (.Name "set" p2) [e] [] q2] X.env=(false,eval (.Call (.Name "set" p2) [e] [] q2) X.env)::starEach [] X.env:=by rfl)
  (CU:starEach [e] X.env=(false,eval e X.env)::starEach [] X.env:=by rfl) :
  VE X W (.Call (.Name "sorted" p1) [.Call (.Name "set" p2) [e] [] q2] [] q1) (GO c f):=by
 obtain⟨t,p,s⟩:=he;refine⟨_,HU (ajJ hc) UJ UA EO (tE (HS (Kp hc) UI TZ PyProof.Rows.boot_set (tE p tD CU) (by decide) (by decide) CU rfl) tD hs) (by decide) (by decide) hs rfl,fun G ι Ω H σ ρ Q w r h=>?_⟩;show t σ H _;refine s G ι Ω H σ ρ _ w r (aY.mb h fun a Ω1 v H1 G1 ι1 x1 w1 d1 h1=>?_);split at h1
 ·rename_i ns en;split at h1
  ·rename_i hl;rw [qI]at en;obtain⟨ds,e1,e2⟩:=en;obtain⟨p,ys,rfl,h2,h3⟩:=oQ w1 d1 e1;rw [vI e2 h3]at h2;refine⟨p,ns,rfl,h2,hl.1,fun l rK=>?_⟩;refine⟨l,pA ns,rfl,cW,hl.2,fun ms l2 hp iP yT=>?_⟩;rw [BK hp iP];exact oO (w1.new rK (.ext (tZ X.prog X.w l (pA ns)))) yT (EG _) (h1.ext (Ext.new (w1.mD rK) _))
  ·exact False.elim h1
 ·exact False.elim h1
@[simp] def BA(f:Ev→Mo A):Ev→Mo A:=fun ρ=>mb (f ρ) fun a Ω=>match (cX Ω a).bind intsOf with
 | some ns=>if ns.length<4000 then some (.ok (.int (pA ns).length),Ω)else none
 | none=>none
theorem Oe{f:Ev→Mo A}{p1 p2 q1 q2:Pos}(hc:X.calm=true)(UJ:Gl X "len")(UA:X.mg "len" = none)(UI:Gl X "set")(TZ:X.mg "set" = none)(he:VE X W e f)
  (hs:starEach [.Call (.Name "set" p2) [e] [] q2] X.env=(false,eval (.Call (.Name "set" p2) [e] [] q2) X.env)::starEach [] X.env:=by rfl)
  (CU:starEach [e] X.env=(false,eval e X.env)::starEach [] X.env:=by rfl) :
  VE X W (.Call (.Name "len" p1) [.Call (.Name "set" p2) [e] [] q2] [] q1) (BA f):=by
 obtain⟨t,p,s⟩:=he;refine⟨_,HU ajQ UJ UA PySem.boot_len (tE (HS (Kp hc) UI TZ PyProof.Rows.boot_set (tE p tD CU) (by decide) (by decide) CU rfl) tD hs) (by decide) (by decide) hs rfl,fun G ι Ω H σ ρ Q w r h=>?_⟩;show t σ H _;refine s G ι Ω H σ ρ _ w r (aY.mb h fun a Ω1 v H1 G1 ι1 x1 w1 d1 h1=>?_);split at h1
 ·rename_i ns en;split at h1
  ·rename_i hl;rw [qI]at en;obtain⟨ds,e1,e2⟩:=en;obtain⟨p,ys,rfl,h2,h3⟩:=oQ w1 d1 e1;rw [vI e2 h3]at h2;refine⟨p,ns,rfl,h2,hl,fun l rK=>?_⟩;refine⟨l,pA ns,rfl,cW,?_⟩;exact h1 _ _ _ _ (Ext.new (w1.mD rK) _) (w1.new rK (.ext (tZ X.prog X.w l (pA ns)))) (by simp only [Den])
  ·exact False.elim h1
 ·exact False.elim h1
def sZ:List A→Option (List (Key×A))
 | []=>some []
 | .tup [k,v]::r=>match kR k,sZ r with
  | some x,some kvs=>some ((x,v)::kvs)
  | _,_=>none
 | _=>none
theorem aaY{K:Frag}{G:Hp}{ι:List Addr}:∀(ds:List A) {kvs:List (Key×A)} {ys:List V},sZ ds=some kvs→aK K G ι ys ds→∃ws:List (Key×V),ws.map (·.1)=kvs.map (·.1)∧aK K G ι (ws.map (·.2)) (kvs.map (·.2))∧ys.length=ws.length ∧
  ∀(i:Nat) (kv:Key×V),ws[i]? = some kv→∃b,ys[i]? = some (.ref b)∧G b=some (.tup [kV kv.1,kv.2]):=by
 intro ds
 induction ds with
 | nil =>
  intro kvs ys h d;simp only [sZ,gW]at h;subst h;rw [kZ]at d;subst d;exact⟨[],rfl,.nil,rfl,fun i kv hi=>by simp at hi⟩
 | cons a r ih =>
  intro kvs ys h d;obtain⟨y,ys',rfl,d1,d2⟩:=d.gX;unfold sZ at h;split at h
  ·rename_i heq;cases heq
  ·rename_i k v r' heq;cases heq;split at h
   ·rename_i x IQ e1 e2;cases h;obtain⟨ws,q1,q2,q3,q4⟩:=ih e2 d2;simp only [Den]at d1;obtain⟨b,xs,rfl,hG,dl⟩:=d1;obtain⟨u1,u2,rfl,dk,dv⟩:=KI dl;rw [CP dk e1]at hG;refine⟨(x,u2)::ws,by simp [q1],.cons dv q2,by simp [q3],fun i kv hi=>?_⟩;cases i with
    | zero=>simp at hi;subst hi;exact⟨b,rfl,hG⟩
    | succ i=>obtain⟨b',g1,g2⟩:=q4 i kv (by simpa using hi);exact⟨b',by simpa using g1,g2⟩
   ·cases h
  ·cases h
@[simp] def rU(as:List A):Mo A:=fun Ω=>match as with
 | [a]=>(match (cX Ω a).bind sZ with
  | some kvs=>if(kvs.map (·.1)).Nodup then some (.ok (.aE Ω.length),Ω++[.aX kvs])else none
  | none=>none)
 | _=>none
theorem Ks(hc:X.calm=true):pC X W (.type "dict") rU:=by
 refine⟨_,ajV hc,?_⟩;intro G ι Ω H σ xs as Q w d h;unfold rU at h;split at h
 ·rename_i a;split at h
  ·rename_i kvs e;split at h
   ·rename_i hn;obtain⟨x,rfl,d1⟩:=rW d;rw [qI]at e;obtain⟨ds,e1,e2⟩:=e;obtain⟨p,ys,rfl,h2,h3⟩:=oQ w d1 e1;obtain⟨ws,q1,q2,q3,q4⟩:=aaY ds e2 h3;refine⟨p,ys,ws,rfl,h2,q3,by rw [q1];exact hn,fun i kv hi=>?_,fun l hl=>?_⟩
    ·obtain⟨b,g1,g2⟩:=q4 i kv hi;exact⟨b,g1,w.sub _ _ g2⟩
    ·refine h _ _ G (ι++[l]) (Ext.cell l) (w.cell hl ⟨w.mD hl,ws,cW,q1,q2.ext (Ext.cell l)⟩) ?_;simp only [Den];exact⟨l,rfl,by rw [← w.len];simp⟩
   ·exact False.elim h
  ·exact False.elim h
 ·exact False.elim h
theorem Br:∀{kvs:List (Key×V)} {vs:List (Key×Value)},KV kvs vs→Vals (kvs.map (·.2)) (vs.map (·.2))
 | _,_,.nil => .nil
 | _,_,.cons r t => .cons r.2 (Br t)
theorem aaD{td:TE}{p1 apos q1 q2:Pos}(hc:X.calm=true)(oW:Gl X "list")(oV:X.mg "list" = none)(ho:PE X o td)
  (hs:starEach [.Call (.Attribute o "values" apos) [] [] q2] X.env=[(false,eval (.Call (.Attribute o "values" apos) [] [] q2) X.env)]:=by rfl)
  (gS:attributeBase o "values" X.env (eval o X.env)=eval o X.env:=by rfl) (gR:(apos.endLine == q2.line)=true:=by rfl) :
  PE X (.Call (.Name "list" p1) [.Call (.Attribute o "values" apos) [] [] q2] [] q1) (fun σ H Q=>td σ H fun x H1=>∃a kvs,x = .ref a∧H1 a=some (.dK kvs) ∧
   ∀(l:Addr),H1 l=none→Q (.ref l) (upd H1 l (.lst (kvs.map (·.2))))):=by
 intro pins s σ H Q I h;refine sQ (rF I oW oV LV ?_);refine LU ?_ hs rfl;rw [hs];show wpAny _ _ (spliced ((false,eval (.Call (.Attribute o "values" apos) [] [] q2) X.env)::[])) _ _ s;refine AK ?_;refine GC gS gR (aW (ho pins s σ H _ I h) fun v s1 ⟨x,H1,I1,r1,q1⟩=>?_);obtain⟨a,kvs,rfl,hH,q⟩:=q1;cases r1;obtain⟨h1,h2,oS⟩:=vH I1 (.inl ⟨kvs,.inl hH⟩);obtain⟨z,_,vs,rel,dd⟩:=wM I1.aH hH;refine⟨"dict", "dict.values",PySem.F.plainAttrs_dict,PySem.F.slot_dict_values,PySem.F.type_dict_values,h1,h2,AL rfl (PySem.evalArgs_none ?_)⟩;refine zP PySem.F.slot_dict_values dd.typeIs PySem.F.entry_dict_values (PySem.F.args_dict_values_1 _) (meets_dict_values (eO X.prog X.w) a oS) ⟨⟨vs,dd⟩,?_⟩;refine FW ?_;have I2:Inv X pins σ H1 { s1 with heap:=s1.heap.push { cls := .type "dict_values",data := .fields #[.ref a] } }:=I1.kept (t':=s1.toks) fun b o e=>bP _ e;obtain⟨ep,rP⟩:=dd.dictAt;have CS:kvs.length=vs.length:=rel.length;refine kdl_call (s:={ s1 with heap:=s1.heap.push { cls := .type "dict_values",data := .fields #[.ref a] } }) (PySem.W.kdl_values (knd:=eO X.prog X.w) (r:=s1.heap.objs.size) (d:=a) (kvs:=vs) (ep:=ep)) (I2.ok.hd hc) ⟨⟨_,dY _ rfl,rfl,rfl⟩,rP.push _⟩ (by omega) fun h' tk acc c hk hS iQ=>?_;generalize iP:({ s1 with heap:=s1.heap.push { cls := .type "dict_values",data := .fields #[.ref a] } }:Shared)=s2 at I2 hk hS;have ev:acc.toList=vs.map (·.2):=by
  apply MD;intro i
  by_cases hi:i<acc.toList.length
  ·obtain⟨k,e1⟩:=iQ.2 i _ (by rw [← MT];exact jK hi);rw [jK hi,iM,e1];rfl
  ·have:=iQ.1;rw [jZ]at hi;rw [Ae (by rw [jZ];omega),Ae (by rw [dN];omega)]
 have hv:Vals (kvs.map (·.2)) acc.toList:=by rw [ev];exact Br rel
 have I3:=I2.laid (t':=tk) (o := .lst (kvs.map (·.2))) hk bG ⟨by rw [dN];omega,acc.toList,c,hv,by simpa using hS⟩;exact⟨.ref s2.heap.objs.size,_,I3,rfl,q _ (I2.aH.fresh bG)⟩
@[simp] def BB(c:Bool)(f:Ev→Mo A):Ev→Mo A:=fun ρ=>mb (f ρ) fun a Ω=>match gM Ω a with
 | some (_,kvs)=>jS c (kvs.map (·.2)) Ω
 | none=>none
theorem Od{f:Ev→Mo A}{p1 apos q1 q2:Pos}(c:Bool)(hc:X.calm=true)(oW:Gl X "list")(oV:X.mg "list" = none)(ho:VE X W o f)
  (hs:starEach [.Call (.Attribute o "values" apos) [] [] q2] X.env=[(false,eval (.Call (.Attribute o "values" apos) [] [] q2) X.env)]:=by rfl)
  (gS:attributeBase o "values" X.env (eval o X.env)=eval o X.env:=by rfl) (gR:(apos.endLine == q2.line)=true:=by rfl) :
  VE X W (.Call (.Name "list" p1) [.Call (.Attribute o "values" apos) [] [] q2] [] q1) (BB c f):=by
 obtain⟨t,p,s⟩:=ho;refine⟨_,aaD hc oW oV p hs gS gR,fun G ι Ω H σ ρ Q w r h=>?_⟩;refine s G ι Ω H σ ρ _ w r (aY.mb h fun a Ω1 v H1 G1 ι1 x1 w1 d1 h1=>?_);split at h1
 ·rename_i k kvs e;obtain⟨p,ws,rfl,hk,g,q1,q2,q3⟩:=rY w1 d1 e;exact⟨p,ws,rfl,q1,fun l hl=>oO w1 hl q3 h1⟩
 ·exact False.elim h1
theorem BF{l:Addr}:∀(as:List Addr) (ts:List (List V)) (H:Hp),l∉as→jO H as ts l=H l
 | [],ts,H,_=>by cases ts <;> rfl
 | _::_,[],H,_=>rfl
 | b::as,t::ts,H,h=>by
  show jO (upd H b (.tup t)) as ts l=H l;rw [BF as ts _ fun z=>h (fP _ z),aT fun z=>h (by rw [z];exact List.mem_cons_self ..)]
theorem Cd:∀(as:List Addr) (ts:List (List Int)) (H:Hp),as.length=ts.length→as.Nodup→rZ (jO H as (ts.map fun t=>t.map V.int)) (as.map V.ref) ts
 | [],[],H,_,_=>trivial
 | [],_::_,_,h,_=>by simp at h
 | _::_,[],_,h,_=>by simp at h
 | a::as,t::ts,H,hl,hn=>by
  rw [lU]at hn;refine⟨⟨a,rfl,?_⟩,Cd as ts (upd H a (.tup (t.map V.int))) (by simpa using hl) hn.2⟩;show jO (upd H a (.tup (t.map V.int))) as _ a=_;rw [BF as _ _ hn.1,cW]
theorem Zt{td:TE}{p1 apos q1 q2:Pos}(hc:X.calm=true)(oW:Gl X "sorted")(oV:X.mg "sorted" = none)(ho:PE X o td)
  (hs:starEach [.Call (.Attribute o "items" apos) [] [] q2] X.env=[(false,eval (.Call (.Attribute o "items" apos) [] [] q2) X.env)]:=by rfl)
  (gS:attributeBase o "items" X.env (eval o X.env)=eval o X.env:=by rfl) (gR:(apos.endLine == q2.line)=true:=by rfl) :
  PE X (.Call (.Name "sorted" p1) [.Call (.Attribute o "items" apos) [] [] q2] [] q1) (fun σ H Q=>td σ H fun x H1=>∃a kvs ts,x = .ref a∧H1 a=some (.dK kvs)∧(kvs.map fun kv=>[kV kv.1,kv.2])=ts.map (fun t=>t.map V.int)∧(∀t∈ts,t≠[])∧kvs.length<64 ∧
   ∀(p:List Nat),wW ts p→∀(as:List Addr) (l:Addr),as.length=kvs.length→as.Nodup→l∉as→(∀b∈as,H1 b=none)→H1 l=none→Q (.ref l) (upd (jO H1 as (kvs.map fun kv=>[kV kv.1,kv.2])) l (.lst (p.map fun i=>(as.map V.ref).getD i .aZ)))):=by
 intro pins s σ H Q I h;refine sQ (rF I oW oV EO ?_);refine PyProof.Rows.callWith_builtin1 ?_ hs rfl;rw [hs];show wpAny _ _ (spliced ((false,eval (.Call (.Attribute o "items" apos) [] [] q2) X.env)::[])) _ _ s;refine AK ?_;refine GC gS gR (aW (ho pins s σ H _ I h) fun v s1 ⟨x,H1,I1,r1,q1⟩=>?_);obtain⟨a,kvs,ts,rfl,hH,Hb,cQ,mC,q⟩:=q1;cases r1;obtain⟨h1,h2,oS⟩:=vH I1 (.inl ⟨kvs,.inl hH⟩);obtain⟨z,_,vs,rel,dd⟩:=wM I1.aH hH;refine⟨"dict", "dict.items",PySem.F.plainAttrs_dict,PySem.F.slot_dict_items,PySem.F.type_dict_items,h1,h2,AL rfl (PySem.evalArgs_none ?_)⟩;refine zP PySem.F.slot_dict_items dd.typeIs PySem.F.entry_dict_items (PySem.F.args_dict_items_1 _) (meets_dict_items (eO X.prog X.w) a oS) ⟨⟨vs,dd⟩,?_⟩;refine FW ?_;have I2:Inv X pins σ H1 { s1 with heap:=s1.heap.push { cls := .type "dict_items",data := .fields #[.ref a] } }:=I1.kept (t':=s1.toks) fun b o e=>bP _ e;obtain⟨ep,rP⟩:=dd.dictAt;have CS:kvs.length=vs.length:=rel.length;have hsz:(64:Nat)≤sizeLine:=by decide
 refine Aw kind_sorted plain_sorted entry_sorted (args_sorted1 _) ?_;unfold Builtin.«sorted»;refine aF (m:=checkCount "sorted" 1 1 _) (aS ?_);refine aF (PySem.W.kdx_collect (knd:=eO X.prog X.w) (kvs:=vs) (ep:=ep) (A:=X.A.in1) (s:={ s1 with heap:=s1.heap.push { cls := .type "dict_items",data := .fields #[.ref a] } }) (I2.ok.hd hc) ⟨_,dY _ rfl,rfl,rfl⟩ (rP.push _) (by omega) fun h' tk as hk hl hG=>?_);generalize iP:({ s1 with heap:=s1.heap.push { cls := .type "dict_items",data := .fields #[.ref a] } }:Shared)=s2 at I2 hk hG;have yS:as.Nodup:=hG.rise.imp fun h=>cK h;have rN:∀b∈as,s2.heap.objs.size≤b:=fun b hb=>LW (hG.above b hb);have I3:Inv X pins σ H1 { s2 with heap:=h',toks:=tk }:=I2.kept (t':=tk) hk;have htl:ts.length=kvs.length:=by have:=congrArg List.length Hb;simpa using this.symm
 have I4:=NY I2 as (kvs.map fun kv=>[kV kv.1,kv.2]) H1 I3 (by simp;omega) yS (fun b hb=>⟨rN b hb,I2.aH.fresh (rN b hb)⟩) (fun j b t e1 e2=>by
  obtain⟨key,k,x,g1,g2,g3⟩:=hG.pairs j b e1;rw [iM]at e2;cases g4:kvs[j]? with
  | none=>rw [g4]at e2;cases e2
  | some kv =>
   rw [g4]at e2;cases e2;obtain⟨rG,g5,g6,g7⟩:=HV rel g4;rw [g1]at g5;cases g5;refine⟨by show 2≤sizeLine;decide,[key,x],0,.cons (by rw [g6];exact IV g2) (.cons g7 .nil),g3⟩)
 have hT:rZ (jO H1 as (kvs.map fun kv=>[kV kv.1,kv.2])) (as.map V.ref) ts:=by rw [Hb];exact Cd as ts H1 (by omega) yS
 have cP:∀b∈as,b<h'.objs.size:=fun b hb=>by
  obtain⟨j,hj⟩:=List.getElem?_of_mem hb;obtain⟨key,k,x,g1,g2,g3⟩:=hG.pairs j b hj;exact bO g3
 have lK:h'.objs.size∉as:=fun w=>absurd (cP _ w) (Nat.lt_irrefl _);refine aF (wpAny_newList ?_ (by rw [dN];omega));have nT:(h'.push (seqObj "list" (as.map Value.ref).toArray 0)).get? h'.objs.size=some (seqObj "list" (as.map Value.ref).toArray 0):=dY _ rfl;have I5:Inv X pins σ (jO H1 as (kvs.map fun kv=>[kV kv.1,kv.2])) { s2 with heap:=h'.push (seqObj "list" (as.map Value.ref).toArray 0),toks:=tk }:=I4.kept (t':=tk) fun b o e=>bP _ e;refine aF (qQ (oH slot_list_sort ⟨_,nT,rfl⟩ entry_list_sort (Ge nT (NU I5 (GL as) hT) cQ (by rw [dN];omega) fun p hp=>⟨_,rfl,?_⟩) (args_list_sort _)));refine aS ⟨_,rfl,?_⟩;have kU:∀i∈p,i<(as.map V.ref).length:=fun i hi=>by
  have:=hp.1.mem_iff.mp hi;rw [dN];have:=List.mem_range.mp this;omega
 have dF:p.length=as.length:=by rw [hp.1.length_eq,Ab];omega
 have hf:jO H1 as (kvs.map fun kv=>[kV kv.1,kv.2]) h'.objs.size=none:=by rw [BF as _ _ lK];exact I3.aH.fresh bG
 obtain⟨e1,pW⟩:∃e1,((h'.push (seqObj "list" (as.map Value.ref).toArray 0)).update h'.objs.size (Obj.mapSeq fun _=>#[])).get? h'.objs.size=some (seqObj "list" #[] e1):=⟨_,JR nT (fun _=>#[])⟩;have pV:=bP (seqObj "list" #[] 0) (bP (seqObj "tuple" (as.map Value.ref).toArray 0) pW);obtain⟨e2,TU⟩:∃e2,(sortedHeap (h'.push (seqObj "list" (as.map Value.ref).toArray 0)) h'.objs.size (as.map Value.ref) (List.toArray (p.map fun i=>(as.map Value.ref).getD i Value.none))).get? h'.objs.size=some (seqObj "list" (List.toArray (p.map fun i=>(as.map Value.ref).getD i Value.none)) e2):=⟨_,JR pV (fun _=>List.toArray (p.map fun i=>(as.map Value.ref).getD i Value.none))⟩;have kp:∀b u,h'.get? b=some u→(sortedHeap (h'.push (seqObj "list" (as.map Value.ref).toArray 0)) h'.objs.size (as.map Value.ref) (List.toArray (p.map fun i=>(as.map Value.ref).getD i Value.none))).get? b=some u:=fun b u e=>by
  have hb:b≠h'.objs.size:=cK (bO e);unfold sortedHeap;exact(oE _ _ (bT hb)).trans (bP _ (bP _ ((oE _ _ (bT hb)).trans (bP _ e))))
 refine⟨.ref h'.objs.size,_,I4.laid (t':=tk) (o := .lst (p.map fun i=>(as.map V.ref).getD i .aZ)) kp bG ?_,rfl,q p hp as _ (by omega) yS lK (fun b hb=>I2.aH.fresh (rN b hb)) (I3.aH.fresh bG)⟩;exact⟨by rw [dN];omega,p.map (fun i=>(as.map Value.ref).getD i Value.none),e2,NH (GL as) kU,TU⟩
theorem Gu{K:Frag}{G:Hp}{ι:List Addr}:∀{ws:List (Key×V)} {kvs:List (Key×A)} {ts:List (List Int)},ws.map (·.1)=kvs.map (·.1)→aK K G ι (ws.map (·.2)) (kvs.map (·.2))→kvs.map kS=ts.map nC→(ws.map fun kv=>[kV kv.1,kv.2])=ts.map (fun t=>t.map V.int)
 | [],[],[],_,_,_=>rfl
 | [],[],_::_,_,_,h=>by simp at h
 | [],_::_,_,h,_,_=>by simp at h
 | _::_,[],_,h,_,_=>by simp at h
 | _::_,_::_,[],_,_,h=>by simp at h
 | wv::ws,kv::kvs,t::ts,hk,d,h=>by
  rw [cF,cF]at hk d h;obtain⟨x,r,hx,d1,d2⟩:=d.gX;obtain⟨rfl,rfl⟩:=FD hx;obtain⟨fT,eY⟩:=FD hk;obtain⟨h1,h2⟩:=FD h;rw [cF,cF,Gu eY d2 h2];congr 1;simp only [kS,nC,A.tup.injEq]at h1
  match t,h1 with
  | [],h1=>simp at h1
  | [_],h1=>simp at h1
  | [i,j],h1 =>
   simp only [cF,oB,FC,and_true]at h1 ⊢;obtain⟨g1,g2⟩:=h1;rw [g2]at d1;simp only [Den]at d1;refine⟨?_,d1⟩;rw [fT];cases tO:kv.1 with
   | inl n=>rw [tO]at g1;simp only [kA,A.int.injEq]at g1;rw [← g1];rfl
   | inr n=>rw [tO]at g1;simp [kA]at g1
  | _::_::_::_,h1=>simp at h1
theorem Ob{es:List Expr}{m:Str}{tab:List (Str×(List A→Mo A))}{fo:Ev→Mo A}{fs:Ev→Mo (List A)}{pos apos:Pos}{pl:Sem Bool}(vL:bR X m tab)(ho:VE X pP o fo)(ha:VA X pP (e::es) fs)
  (gF:starEach (e::es) X.env=(false,eval e X.env)::starEach es X.env:=by rfl) (dF:(backTo pos (starEach es X.env)).any (·.1)=false:=by rfl)
  (ht:eval (.Call (.Attribute o m apos) (e::es) [] pos) X.env=(do
   let ov ← eval o X.env
   standAt apos.atName
   let (f,first) ← holding [ov] (getMethod ov m pl)
   callWith pos f first (backTo pos (starEach (e::es) X.env)) (backToKw pos (keywordEach [] X.env))):=by rfl) :
  VE X pP (.Call (.Attribute o m apos) (e::es) [] pos) (cG m tab fo fs):=by
 obtain⟨ta,p1,s1⟩:=ho;obtain⟨t,p2,s2⟩:=ha;exact⟨_,aaA p1 p2 gF dF ht,OR vL s1 s2⟩
end
def del(G:Hp)(p:Addr):Hp:=fun b=>if b=p then none else G b
section
variable{K:Frag}{G H:Hp}{ι:List Addr}{Ω:aI}{p:Addr}{ob:Obj}{ws:List (Key×V)}
theorem XM{b:Addr}(h:b≠p):del G p b=G b:=by unfold del;rw [if_neg h]
theorem Jy:del G p p=none:=by unfold del;rw [if_pos rfl]
theorem zK{b:Addr}{o:HO}(hp:G p=some (.bW ob (.dK ws)))(h:G b=some o)(ho:o ≠ .bW ob (.dK ws)):del G p b=some o:=by
 rw [XM];exact h;intro e;subst e;rw [hp]at h;cases h;exact ho rfl
theorem zJ{b:Addr}(h:G b=none):del G p b=none:=by
 unfold del;split
 ·rfl
 ·exact h
mutual
theorem Den.del(hp:G p=some (.bW ob (.dK ws))):∀{v:V} {d:A},Den K G ι v d→Den K (del G p) ι v d
 | _,.int _,h=>by simpa only [Den]using h
 | _,.bl _,h=>by simpa only [Den]using h
 | _,.str _,h=>by simpa only [Den]using h
 | _,.aZ,h=>by simpa only [Den]using h
 | _,.ty _,h=>by simpa only [Den]using h
 | _,.adr _,h=>by simpa only [Den]using h
 | _,.zG _ _ _ _,h=>by
  simp only [Den]at h ⊢;exact⟨h.1,zK hp h.2 (by intro w;cases w)⟩
 | _,.gl _,h=>by simpa only [Den]using h
 | _,.bY _,h=>by
  simp only [Den]at h ⊢;obtain⟨a,h1,h2⟩:=h;refine⟨a,h1,?_⟩
  rcases h2 with(q | ⟨o,q⟩) | q
  ·exact .inl (.inl (zK hp q (by intro w;cases w)))
  ·exact .inl (.inr ⟨o,zK hp q (by intro w;cases w)⟩)
  ·exact .inr q
 | _,.tup ds,h=>by
  simp only [Den]at h ⊢;obtain⟨a,xs,h1,h2,h3⟩:=h;exact⟨a,xs,h1,zK hp h2 (by intro w;cases w),aK.del hp h3⟩
 | _,.lst ds,h=>by
  simp only [Den]at h ⊢;obtain⟨a,xs,h1,h2,h3⟩:=h;exact⟨a,xs,h1,zK hp h2 (by intro w;cases w),aK.del hp h3⟩
 | _,.aE k,h=>by simpa only [Den]using h
theorem aK.del(hp:G p=some (.bW ob (.dK ws))):∀{xs:List V} {ds:List A},aK K G ι xs ds→aK K (del G p) ι xs ds
 | _,[],h=>by simpa only [aK]using h
 | _,d::ds,h=>by
  simp only [aK]at h ⊢;obtain⟨x,r,h1,h2,h3⟩:=h;exact⟨x,r,h1,Den.del hp h2,aK.del hp h3⟩
end
theorem fK.del(hp:G p=some (.bW ob (.dK ws))){u:HO}{v:V}{fd:Fd}(h:fK K G ι H v fd):fK K (del G p) ι (upd H p u) v fd:=by
 have nb:∀b,G b=none→b≠p:=fun b z e=>by subst e;rw [hp]at z;cases z
 cases fd with
 | val a=>exact Den.del hp h
 | lst ds =>
  obtain⟨b,xs,h1,h2,h3,h4,h5⟩:=h;exact⟨b,xs,h1,zJ h2,h3,by rw [aT (nb b h2)];exact h4,aK.del hp h5⟩
 | aX kvs =>
  obtain⟨b,eL,h1,h2,h3,h4,h5,h6⟩:=h;exact⟨b,eL,h1,zJ h2,h3,by rw [aT (nb b h2)];exact h4,h5,aK.del hp h6⟩
theorem lG.del(hp:G p=some (.bW ob (.dK ws))){u:HO}{a:Addr}{c:Cell}(h:lG K G ι H a c)(ha:a≠p):lG K (del G p) ι (upd H p u) a c:=by
 cases c with
 | lst ds=>obtain⟨g,xs,h1,h2⟩:=h;exact⟨zJ g,xs,by rw [aT ha];exact h1,aK.del hp h2⟩
 | aX kvs=>obtain⟨g,eL,h1,h2,h3⟩:=h;exact⟨zJ g,eL,by rw [aT ha];exact h1,h2,aK.del hp h3⟩
 | ins cls fs=>obtain⟨g,C,dx,eL,h0,h1,h2⟩:=h;exact⟨zJ g,C,dx,eL,h0,by rw [aT ha];exact h1,h2.map fun _ _ q=>q.del hp⟩
 | tab x pos qual =>
  obtain⟨g,hc,ps,h1,h2,h3⟩:=h;exact⟨zJ g,hc,ps,by rw [aT ha];exact h1,h2,h3.imp id fun⟨c',oc,vs,t,q1,q2,q3⟩=>⟨c',oc,vs,t,q1,zK hp q2 (by intro w;cases w),q3⟩⟩
 | dead=>trivial
theorem Wd.Pu{k:Nat}{kvs:List (Key×A)}(w:Wd K G ι Ω H)(hp:G p=some (.bW ob (.dK ws)))(hk:ι[k]? = some p)(hd:Ω[k]? = some .dead)(h1:ws.map (·.1)=kvs.map (·.1))(h2:aK K G ι (ws.map (·.2)) (kvs.map (·.2))):Wd K (del G p) ι (Ω.set k (.aX kvs)) (upd H p (.dK ws))where
 sub:=fun b u h=>by
  have hb:b≠p:=fun e=>by subst e;rw [Jy]at h;cases h
  rw [XM hb]at h;rw [aT hb];exact w.sub _ _ h
 inj:=w.inj
 len:=by rw [AD];exact w.len
 live:=fun b hb=>by
  by_cases e:b=p
  ·subst e;exact⟨_,cW⟩
  ·rw [aT e];exact w.live b hb
 aE:=fun j c b z1 z2=>by
  by_cases hj:j=k
  ·subst hj;rw [hk]at z2;cases z2;rw [fU (cL.mp hd).1]at z1;cases z1;exact⟨Jy,ws,cW,h1,aK.del hp h2⟩
  ·rw [iL (bT hj)]at z1;exact(w.aE j c b z1 z2).del hp fun e=>by subst e;exact hj (tI w.inj z2 hk)
 sep:=fun b j i j' i' z1 z2=>by
  have back:∀{j i},fJ (upd H p (.dK ws)) ι (Ω.set k (.aX kvs)) j i b→fJ H ι Ω j i b:=fun{j i} h=>by
   have h0:=h;obtain⟨a',cls,fs,C,dx,eL,g,h',fd,q1,q2,q3,q4,q5,q6⟩:=h
   by_cases hj:j=k
   ·subst hj;exact(h0.no (fU (cL.mp hd).1) rfl).elim
   ·rw [iL (bT hj)]at q2;rw [aT (fun e=>by subst e;exact hj (tI w.inj q1 hk))]at q3;exact⟨a',cls,fs,C,dx,eL,g,h',fd,q1,q2,q3,q4,q5,q6⟩
  exact w.sep b j i j' i' (back z1) (back z2)
end
theorem Vz{K:Frag}{W:WX}{tg:TG}{tb:TS}{g:A→MS}{b:MS}(hg:zT K W tg g)(hb:qG K W tb b){G1:Hp}{ι1:List Addr}{Ω1:aI}{H1:Hp}{σ:L2.St}{ρ:Ev}{D:Ends}{J:It}{S:Src}
  (w1:Wd K G1 ι1 Ω1 H1) (r1:eW K G1 ι1 σ ρ) (j1:sH K G1 ι1 J S) (h1:dA K W G1 ι1 D (dU S.ok g b S.ds ρ Ω1)):OE (fun _ _ R=>R J H1) tg tb D σ H1:=by
 refine⟨fun i m σ' H'=>m=S.ds.length - i∧i≤S.ds.length∧∃G' ι' Ω' ρ',Ext G1 ι1 G' ι'∧Wd K G' ι' Ω' H'∧eW K G' ι' σ' ρ'∧dA K W G' ι' D (dU S.ok g b (S.ds.drop i) ρ' Ω'),
  ⟨_,rfl,zV _,G1,ι1,Ω1,ρ,Ext.refl _ _,w1,r1,by simpa using h1⟩,?_⟩
 rintro i m σ' H' ⟨rfl,Ht,G',ι',Ω',ρ',e',w',r',h'⟩;have aH:=Jk h'
 by_cases cP:i<S.ds.length
 ·right
  refine⟨j1.go G' ι' Ω' H' e' w' aH i cP,fun σ2 H2=>∃G2 ι2 Ω2 ρ2,Ext G1 ι1 G2 ι2∧Wd K G2 ι2 Ω2 H2∧eW K G2 ι2 σ2 ρ2∧dA K W G2 ι2 D (dU S.ok g b (S.ds.drop (i+1)) ρ2 Ω2),fun σ2 H2 n=>?_,fun x H2 y=>?_⟩
  ·exact⟨S.ds.length - (i+1),by omega,rfl,cP,n⟩
  ·obtain⟨G2,e2,w2,d2⟩:=j1.qP G' ι' Ω' H' e' w' aH i x H2 S.ds[i] (jK cP) y;rw [Ms cP]at h';unfold dU at h';rw [if_pos aH]at h';refine hg G2 ι' Ω' H2 σ' ρ' x S.ds[i] { D with nx:=fun σ3 H3=>tb _ σ3 H3 } w2 (r'.ext e2) d2 ?_
   revert h'
   generalize g S.ds[i] ρ' Ω'=q;intro h'
   match q,h' with
   | some (.nx,ρ3,Ω3),h' =>
    intro σ3 H3 G3 ι3 x3 w3 r3;refine hb G3 ι3 Ω3 H3 σ3 ρ3 _ w3 r3 ?_;simp only at h'
    revert h'
    generalize b ρ3 Ω3=q2;intro h'
    match q2,h' with
    | some (.nx,ρ4,Ω4),h'=>exact fun σ4 H4 G4 ι4 x4 w4 r4=>⟨G4,ι4,Ω4,ρ4,(e'.trans (e2.trans x3)).trans x4,w4,r4,dA.ext h' ((e2.trans x3).trans x4)⟩
    | some (.ct,ρ4,Ω4),h'=>exact fun σ4 H4 G4 ι4 x4 w4 r4=>⟨G4,ι4,Ω4,ρ4,(e'.trans (e2.trans x3)).trans x4,w4,r4,dA.ext h' ((e2.trans x3).trans x4)⟩
    | some (.bk,ρ4,Ω4),h'=>exact fun σ4 H4 G4 ι4 x4 w4 r4=>h' σ4 H4 G4 ι4 ((e2.trans x3).trans x4) w4 r4
    | some (.ret a,ρ4,Ω4),h'=>exact fun σ4 H4 G4 ι4 x4 w4 r4=>h' σ4 H4 G4 ι4 ((e2.trans x3).trans x4) w4 r4
    | some (.exc a,ρ4,Ω4),h'=>exact fun σ4 H4 G4 ι4 x4 w4 r4=>h' σ4 H4 G4 ι4 ((e2.trans x3).trans x4) w4 r4
   | some (.exc a,ρ3,Ω3),h'=>exact fun σ4 H4 G4 ι4 x4 w4 r4=>h' σ4 H4 G4 ι4 (e2.trans x4) w4 r4
 ·have DE:i=S.ds.length:=by omega
  subst DE
  left
  rw [List.drop_length]at h';unfold dU at h';rw [if_pos aH]at h';exact⟨j1.stop G' ι' Ω' H' e' w' aH _ bG,pN w' r' h'⟩
def OC(k:Nat)(kvs:List (Key×A)):OS→OS
 | some (.exc _,_,_)=>none
 | some (o,ρ',Ω')=>(match Ω'[k]? with
  | some .dead=>some (o,ρ',Ω'.set k (.aX kvs))
  | _=>none)
 | none=>none
@[simp] noncomputable def BU(i:Nat)(g:A→MS)(b:MS):MS:=fun ρ Ω=>match (ρ[i]?).join with
 | some a=>(match gM Ω a with
  | some (k,kvs)=>OC k kvs (dU (fun _=>True) g b (kvs.map kS) ρ (Ω.set k .dead))
  | none=>none)
 | none=>none
theorem Pt{K:Frag}{W:WX}{G G1:Hp}{ι ι1:List Addr}{D:Ends}{k:Nat}{kvs:List (Key×A)}{r:OS}{p:Addr}{ob:Obj}{ws:List (Key×V)}(h:dA K W G ι D (OC k kvs r))(e:Ext G ι G1 ι1)(hG:G p=none)(hG1:G1 p=some (.bW ob (.dK ws)))(hk:ι1[k]? = some p)(q1:ws.map (·.1)=kvs.map (·.1))(q2:aK K G1 ι1 (ws.map (·.2)) (kvs.map (·.2))):dA K W G1 ι1 (Cm p D) r:=by
 match r,h with
 | some (o,ρ',Ω'),h =>
  intro σ' H' G' ι' e' w' r';have hp:=e'.same _ _ hG1;have nU:=e'.pre _ _ hk;have hH:H' p=some (.bW ob (.dK ws)):=w'.sub _ _ hp;have ex:Ext G ι (del G' p) ι':=⟨fun b u z=>by
   have hb:b≠p:=fun y=>by subst y;rw [hG]at z;cases z
   rw [XM hb];exact e'.same _ _ (e.same _ _ z),fun j x z=>e'.pre _ _ (e.pre _ _ z)⟩
  have rr:eW K (del G' p) ι' σ' ρ':=⟨r'.1,fun i d z=>let ⟨v,a1,a2⟩:=r'.2 i d z; ⟨v,a1,a2.del hp⟩⟩;have main:∀o2:Out,(∀x,o2 ≠ .exc x)→dA K W G ι D (match Ω'[k]? with | some .dead=>some (o2,ρ',Ω'.set k (.aX kvs)) | _=>none)→Mi K W (del G' p) ι' D σ' (upd H' p (.dK ws)) o2:=fun o2 _ h2=>by
   split at h2
   ·rename_i hd;exact h2 σ' _ _ ι' ex (w'.Pu hp nU hd q1 (q2.ext e')) rr
   ·exact h2.elim
  cases o with
  | nx=>exact⟨ob,ws,hH,main .nx (fun _ z=>by cases z) h⟩
  | bk=>exact⟨ob,ws,hH,main .bk (fun _ z=>by cases z) h⟩
  | ct=>exact⟨ob,ws,hH,main .ct (fun _ z=>by cases z) h⟩
  | ret a=>exact fun v dv=>⟨ob,ws,hH,main (.ret a) (fun _ z=>by cases z) h v (dv.del hp)⟩
  | exc x=>exact h.elim
theorem Nv{X:Cx}{W:WX}{o:Expr}{i:Nat}{elts:List Expr}{x1:Nat}{tp apos q2 pos:Pos}{body:List Stmt}{g:A→MS}{b:MS}(hpo:PassesOwn (model X.prog X.w) X.A X.env X.xe)(hc:X.calm=true)(ho:VE X W o (dB i))(hg:VG X W (.Tuple elts x1 tp) g)(hb:jW X W body b)
  (gS:attributeBase o "items" X.env (eval o X.env)=eval o X.env:=by rfl) (gR:(apos.endLine == q2.line)=true:=by rfl)
  (hs:∀x,foldedSetIterable (.Call (.Attribute o "items" apos) [] [] q2) X.env x=pure x:=by intro _;rfl):VS X W (.For (.Tuple elts x1 tp) (.Call (.Attribute o "items" apos) [] [] q2) body [] pos) (BU i g b):=by
 obtain⟨t1,p1,s1⟩:=ho;obtain⟨t2,p2,s2⟩:=hg;obtain⟨t3,p3,s3⟩:=hb;refine⟨_,Yx (Ew hpo hc (Zm p1 gS gR) p2 p3 hs),fun G ι Ω H σ ρ D w r h=>?_⟩;unfold BU at h;cases ea:(ρ[i]?).join with
 | none=>rw [ea]at h;exact h.elim
 | some a =>
  rw [ea]at h;simp only at h;cases ed:gM Ω a with
  | none=>rw [ed]at h;exact h.elim
  | some kk =>
   obtain⟨k,kvs⟩:=kk;rw [ed]at h;simp only at h;obtain⟨v0,hv0,dv0⟩:=r.2 i a (join_some ea);obtain⟨p,Ni,_,hk,hG,hH,_,_⟩:=rY w dv0 ed;refine⟨p,Ni,hH,?_⟩;show t1 σ H _;refine s1 G ι Ω H σ ρ _ w r ?_;show aY X.K (Den X.K) W G ι σ _ (need (ρ[i]?).join Ω);rw [ea];intro v H1 G1 ι1 x1 w1 d1;obtain⟨p',ws,rfl,fT,g1,q1,q2,q3⟩:=rY w1 d1 ed;have ep:p'=p:=by have:=x1.pre _ _ hk;rw [fT]at this;cases this;rfl
   subst ep;refine⟨p',ws,rfl,q1,fun ob=>?_⟩;have w2:=w1.put (k:=k) (c := .dead) (o := .bW ob (.dK ws)) fT g1 trivial;have w3:=w2.freeze fT g1 cW;rw [wZ]at w3;have e0:Ext G1 ι1 (upd G1 p' (.bW ob (.dK ws))) ι1:=Ext.new g1 _;exact Vz (S:=IU kvs) s2 s3 w3 ((r.ext x1).ext e0) (adT cW q2 (q3.ext e0)) (Pt h (x1.trans e0) hG cW fT q2 (q3.ext e0))
end V2
namespace V2
open PySem PySem.Spec PyProof.Rows L2 KS
@[simp] def iV(cs:List Str)(i:Nat)(f:Str)(k:List (Key×A)→Mo A):Ev→Mo A:=fun ρ Ω=>match tF cs i f ρ Ω with
 | some (_,_,_,.aX kvs)=>k kvs Ω
 | _=>none
section
variable{X:Cx}{W:WX}{e:Expr}{i:Nat}{f:Str}{cs:List Str}{jG:Pos}
theorem GJ{te:TE}{k:List (Key×A)→Mo A}{R:V→Hp→VK→Prop}(s:dX X.K (Den X.K) W te (dB i))(hc:cM X.K cs f)
  (hk:∀G ι Ω H σ b vs kvs Q,Wd X.K G ι Ω H→H b=some (.dK vs)→vs.map (·.1)=kvs.map (·.1)→aK X.K G ι (vs.map (·.2)) (kvs.map (·.2))→aY X.K (Den X.K) W G ι σ Q (k kvs Ω)→R (.ref b) H Q) :
  dX X.K (Den X.K) W (fun σ H Q=>Cs X.K te f σ H fun x H1=>R x H1 Q) (iV cs i f k):=by
 intro G ι Ω H σ ρ Q w r h;unfold iV at h;split at h
 ·rename_i s0 cls fs kvs eo;obtain⟨h1,h2,h3,h4⟩:=Fg eo;show te σ H _;refine s G ι Ω H σ ρ _ w r ?_;show aY X.K (Den X.K) W G ι σ _ (need (ρ[i]?).join Ω);rw [h1];intro v H1 G1 ι1 x1 w1 d1;obtain⟨a,C,dx,ws,rfl,ha,hg,h0,hH,hF⟩:=w1.ins h2 d1;obtain⟨C',q0,q1,q2⟩:=hc cls h3;rw [h0]at q0;cases q0;obtain⟨u,l,b,vs,rfl,g1,g2,g3,g4,g5⟩:=hF.look h4;exact⟨a,C,dx,ws,.ref b,rfl,hH,q1,q2,l,hk G1 ι1 Ω H1 σ b vs kvs Q w1 g3 g4 g5 (h.ext x1)⟩
 ·exact h.elim
theorem Oi{p1 q1:Pos}(he:VE X W e (dB i))(hc:cM X.K cs f)(hg:Gl X "len")(hm:X.mg "len" = none)
  (hb:attributeBase e f X.env (eval e X.env)=eval e X.env:=by rfl)
  (hs:starEach [.Attribute e f jG] X.env=(false,eval (.Attribute e f jG) X.env)::starEach [] X.env:=by rfl) :
  VE X W (.Call (.Name "len" p1) [.Attribute e f jG] [] q1) (iV cs i f fun kvs=>ret (.int kvs.length)):=by
 obtain⟨t,p,s⟩:=he;refine⟨_,HU ajR hg hm PySem.boot_len (tE (BZ p hb) tD hs) (by decide) (by decide) hs rfl,?_⟩;refine GJ (R:=fun x H Q=>∃a kvs,[x]=[V.ref a]∧H a=some (.dK kvs)∧Q (.int kvs.length) H) s hc fun G ι Ω H σ b vs kvs Q w hb k1 k2 h=>?_;have hl:vs.length=kvs.length:=by have:=congrArg List.length k1;simpa using this
 exact⟨b,vs,rfl,hb,h _ H G ι (Ext.refl _ _) w (by simp only [Den];rw [hl])⟩
theorem Oh(c:Bool){p1 q1:Pos}(DP:X.calm=true)(he:VE X W e (dB i))(hc:cM X.K cs f)(hg:Gl X "list")(hm:X.mg "list" = none)
  (hb:attributeBase e f X.env (eval e X.env)=eval e X.env:=by rfl)
  (hs:starEach [.Attribute e f jG] X.env=(false,eval (.Attribute e f jG) X.env)::starEach [] X.env:=by rfl) :
  VE X W (.Call (.Name "list" p1) [.Attribute e f jG] [] q1) (iV cs i f fun kvs=>jS c (kvs.map fun kv=>kA kv.1)):=by
 obtain⟨t,p,s⟩:=he;refine⟨_,HS (ajO DP) hg hm LV (tE (BZ p hb) tD hs) (by decide) (by decide) hs rfl,?_⟩;refine GJ (R:=fun x H Q=>∃(a:Addr) (kvs:List (Key×V)),[x]=[V.ref a]∧H a=some (.dK kvs)∧∀l,H l=none→Q (.ref l) (upd H l (.lst (kvs.map fun kv=>kV kv.1)))) s hc fun G ι Ω H σ b vs kvs Q w hb k1 k2 h=>?_;exact⟨b,vs,rfl,hb,fun l hl=>oO w hl (XJ k1) h⟩
theorem Oj(c:Bool){p1 apos q1 q2:Pos}(DP:X.calm=true)(he:VE X W e (dB i))(hc:cM X.K cs f)(hg:Gl X "list")(hm:X.mg "list" = none)
  (hb:attributeBase e f X.env (eval e X.env)=eval e X.env:=by rfl)
  (hs:starEach [.Call (.Attribute (.Attribute e f jG) "items" apos) [] [] q2] X.env=[(false,eval (.Call (.Attribute (.Attribute e f jG) "items" apos) [] [] q2) X.env)]:=by rfl)
  (gS:attributeBase (.Attribute e f jG) "items" X.env (eval (.Attribute e f jG) X.env)=eval (.Attribute e f jG) X.env:=by rfl) (gR:(apos.endLine == q2.line)=true:=by rfl) :
  VE X W (.Call (.Name "list" p1) [.Call (.Attribute (.Attribute e f jG) "items" apos) [] [] q2] [] q1) (iV cs i f fun kvs=>jS c (kvs.map kS)):=by
 obtain⟨t,p,s⟩:=he;refine⟨_,aaF DP hg hm (BZ p hb) hs gS gR,?_⟩;refine GJ (R:=fun x H1 Q=>∃a kvs,x = .ref a∧H1 a=some (.dK kvs) ∧
   ∀(as:List Addr) (l:Addr),as.length=kvs.length→as.Nodup→l∉as→(∀b∈as,H1 b=none)→H1 l=none→Q (.ref l) (upd (jO H1 as (kvs.map fun kv=>[kV kv.1,kv.2])) l (.lst (as.map V.ref)))) s hc fun G ι Ω H σ b vs kvs Q w hb k1 k2 h=>?_
 refine⟨b,vs,rfl,hb,fun as l hl hn lK hb rK=>?_⟩;obtain⟨G',e1,w2,d2⟩:=NT as vs kvs G H ι w hl hn hb k1 k2;exact oO w2 (by rw [BF as _ _ lK];exact rK) d2 (h.ext e1)
@[simp] def DV(c:Bool)(kvs:List (Key×A)):Mo A:=fun Ω=>match sS (kvs.map kS)with
 | some ts=>if ts.length<64 then jS c ((lJ ts).map nC) Ω else none
 | none=>none
theorem Og(c:Bool){p1 apos q1 q2:Pos}(DP:X.calm=true)(he:VE X W e (dB i))(hc:cM X.K cs f)(hg:Gl X "sorted")(hm:X.mg "sorted" = none)
  (hb:attributeBase e f X.env (eval e X.env)=eval e X.env:=by rfl)
  (hs:starEach [.Call (.Attribute (.Attribute e f jG) "items" apos) [] [] q2] X.env=[(false,eval (.Call (.Attribute (.Attribute e f jG) "items" apos) [] [] q2) X.env)]:=by rfl)
  (gS:attributeBase (.Attribute e f jG) "items" X.env (eval (.Attribute e f jG) X.env)=eval (.Attribute e f jG) X.env:=by rfl) (gR:(apos.endLine == q2.line)=true:=by rfl) :
  VE X W (.Call (.Name "sorted" p1) [.Call (.Attribute (.Attribute e f jG) "items" apos) [] [] q2] [] q1) (iV cs i f (DV c)):=by
 obtain⟨t,p,s⟩:=he;refine⟨_,Zt DP hg hm (BZ p hb) hs gS gR,?_⟩;refine GJ (R:=fun x H1 Q=>∃a kvs ts,x = .ref a∧H1 a=some (.dK kvs)∧(kvs.map fun kv=>[kV kv.1,kv.2])=ts.map (fun t=>t.map V.int)∧(∀t∈ts,t≠[])∧kvs.length<64 ∧
   ∀(p:List Nat),wW ts p→∀(as:List Addr) (l:Addr),as.length=kvs.length→as.Nodup→l∉as→(∀b∈as,H1 b=none)→H1 l=none→Q (.ref l) (upd (jO H1 as (kvs.map fun kv=>[kV kv.1,kv.2])) l (.lst (p.map fun i=>(as.map V.ref).getD i .aZ)))) s hc fun G ι Ω H σ b vs kvs Q w hb k1 k2 h=>?_
 unfold DV at h;split at h
 ·rename_i ts et;split at h
  ·rename_i mC;obtain⟨e3,cQ⟩:=NV et;have mY:vs.length=kvs.length:=by have:=congrArg List.length k1;simpa using this
   have htl:ts.length=kvs.length:=by have:=congrArg List.length e3;simpa using this.symm
   refine⟨b,vs,ts,rfl,hb,Gu k1 k2 e3,cQ,by omega,fun pp hp as l hl hn lK hb rK=>?_⟩;obtain⟨G',e1,w2,d2⟩:=NT as vs kvs G H ι w hl hn hb k1 k2;rw [e3]at d2;have dp:=XI d2 (p:=pp) fun i hi=>by have:=hp.1.mem_iff.mp hi;simpa using this
   rw [Dh hp]at dp;exact oO w2 (by rw [BF as _ _ lK];exact rK) dp (h.ext e1)
  ·exact False.elim h
 ·exact False.elim h
end
theorem aj4{K:Frag}{mg:Str→Option Value}{h:Heap}{rk m q:Str}{st:Stmt}{R f:Addr}{oc:Value}{od an:Option Addr}{gJ:Array (Option Value)}{kV doc pm aR ct:Value}(X:K.In h)(G:h.Ns mainGlobals mg)(n:nsIn K mainGlobals rk=some (some (.ref R)))
  (r:readsIn K R (.type "type")=true) (fi:findCls K (.ref R) (.type "type") m=some (.val (.ref f))) (ga:specialIn K (.ref R) "__getattribute__" = some (some (.builtin "type.__getattribute__")))
  (l:K.lookup f=some ⟨oc,od,.func (fnOf m q (iR st) (dW st) (aV st) .none kV doc pm an aR ct),gJ⟩) (c:codeIn K aR q=true) (k:keepIn K (.ref f)=true):FI K mg rk m q st :=
 ⟨R,f,_,mg_of X G n,⟨r,fi,ga,k⟩,DZ l c k⟩
theorem Ll(a:A)(ha:bX 7 a=true):∀(ds:List A),ds.all (bX 7)=true→((ds.map (toPy 7)).any fun y=>PyData.eqv y (toPy 7 a))=ds.any fun d=>eT 7 d a
 | [],_=>rfl
 | d::ds,h=>by
  simp only [Ag,jY]at h;simp only [cF,ME];rw [OA 7 d a h.1 ha,Ll a ha ds h.2]
def Ek(K:Frag)(neg:Bool):R2:=fun x y H Q=>∃ι a ds,bX 7 a=true∧bX 8 (.lst ds)=true∧Den K H ι x a∧Den K H ι y (.lst ds)∧Q (.bl (if neg then !(ds.any fun d=>eT 7 d a)else ds.any fun d=>eT 7 d a)) H
theorem aa5{X:Cx}(hu:X.A.units+64<cLine):fB X (compareOp .NotIn) (Ek X.K true):=by
 intro pins s σ H x y v u Q I rx ry h;obtain⟨ι,a,ds,h1,h2,d1,d2,q⟩:=h;obtain⟨as,q1⟩:=yC I 7 x v a h1 d1 rx;obtain⟨bs,q2⟩:=yC I 8 y u (.lst ds) h2 d2 ry;have e1:=OB 7 a;have yZ:ds.all (bX 7)=true:=h2;refine SeqAt.notIn_list_reads (xs:=ds.map (toPy 7)) q2 q1 (KO ds 7 (fun d _=>xU 7 d) yZ) (xU 7 a h1) (by omega) ?_;rw [Ll a h1 ds yZ];exact⟨.bl (!(ds.any fun d=>eT 7 d a)),H,I,rfl,q⟩
def zA(neg:Bool)(a b:A):Mo A:=fun Ω=>match res Ω 6 a,res Ω 6 b with
 | some x,some (.lst ds)=>if(bX 7 x&&bX 8 (.lst ds))=true then some (.ok (.bl (if neg then !(ds.any fun d=>eT 7 d x)else ds.any fun d=>eT 7 d x)),Ω)else none
 | _,_=>none
theorem aa1{K:Frag}{W:WX}{neg:Bool}:sC K W (Ek K neg) (zA neg):=by
 intro G ι Ω H σ x y a b Q w d1 d2 h;unfold zA at h;split at h
 ·rename_i a' ds e1 e2;split at h
  ·rename_i hp;simp only [jY]at hp;exact⟨ι,a',ds,hp.1,hp.2,HN w 6 x a a' d1 e1,HN w 6 y b _ d2 e2,h _ H G ι (Ext.refl _ _) w (by simp only [Den])⟩
  ·exact False.elim h
 ·exact False.elim h
theorem abQ{X:Cx}{W:WX}(hu:X.A.units+64<cLine):jI X W (compareOp .NotIn) (zA true):=⟨_,aa5 hu,aa1⟩
end V2
namespace M
open PySem V2
noncomputable section
def LK:MS :=
 (bD (lZ ["Often"] "keep" aO bE)
  (bD (lZ ["Often"] "many" aO cO)
  (lZ ["Often"] "taken" aO cO)))
def xI:List A→Mo A:=dQ 2 LK
def YJ:MS :=
 (dD (bB (aC nB (aC bS (gB ["Often"] "many" aO) bE) (cI 1000000000)))
   (fun _ _=>none)
   eN)
def MM:List A→Mo A:=dQ 2 YJ
def YK:MS :=
 (cJ (gB ["Often"] "many" aO))
def FQ:List A→Mo A:=dQ 1 YK
def YI:MS :=
 (cJ (gB ["Often"] "taken" aO))
def FP:List A→Mo A:=dQ 1 YI
def Le:Ev→Mo A :=
 (kN false 1 [] (iD aO) (gN 0) sO (aC eI aO bL))
def Ld:Ev→Mo A :=
 (kN false 1 [2] (iD aO) (gN 0) (bB (aC nB (aC eI aO bL) bE)) (pG (aG (aC eI aO cO) (aG (aC (qA) (aC eI aO bL) bE) a0))))
def LA:MS :=
 (bD (dE cO (gN 2))
  (bD (dD (bB (aC nB (aU kF (aG aO a0)) bE))
   (dE (aC eI (Bx false Le) bE) (gN 2))
   eN)
  (cJ (pG (aG (aU (JS false) (aG Ld a0)) (aG cS a0))))))
def FJ:List A→Mo A:=dQ 3 LA
def LN:MS :=
 (sV 0 "tally" (xY (aC bS (iO (gB ["Often"] "tally" aO) bE cO) cS) (gB ["Often"] "tally" aO) bE))
def MQ:List A→Mo A:=dQ 3 LN
def LM:MS :=
 (cJ (iV ["Often"] 0 "tally" (DV true)))
def FT:List A→Mo A:=dQ 1 LM
def YQ:MS :=
 (cJ (iV ["Often"] 0 "tally" fun kvs=>jS false (kvs.map fun kv=>kA kv.1)))
def qN:List A→Mo A:=dQ 1 YQ
def YO:MS :=
 (cJ (gB ["Often"] "lost" aO))
def lX:List A→Mo A:=dQ 1 YO
def YR:MS :=
 (bD (sV 0 "tally" (dE (iO (gB ["Often"] "tally" aO) bE cO) (gN 2)))
  (cJ (pG (aG cS (aG (aC bS cS (gB ["Often"] "lost" aO)) a0)))))
def xJ:List A→Mo A:=dQ 3 YR
def wV:MS :=
 (cJ (aC eI (qU false (aG bL (aG bL (aG bL (aG (aC bS bL (aC (eG) (aC (jV) aO sR) GG)) (aG (aC bS bL (aC (eG) (aC (jV) aO sR) GD)) (aG (aC bS bL (aC (eG) (aC (jV) aO sR) (cI 1000000))) a0))))))) (aC (eG) aO sR)))
def sJ:List A→Mo A:=dQ 1 wV
def zQ:MS :=
 (bD (dD (bB (aC lN bE cO))
   (cJ (aC (eG) aO GF))
   eN)
  (bD (dD (bB (aC lN bE bL))
   (cJ (aC (nW) (aC (eG) aO GG) (aC (eG) (aC (jV) aO GG) (cI 14))))
   eN)
  (bD (dD (bB (aC lN bE uM))
   (cJ (aC (qA) (aC (eG) aO (cI 60)) (cI 30)))
   eN)
  (cJ (aC eI (qU false (aG (aC (eG) aO GG) (aG (aC (nW) (aC (qA) (aC (eG) (aC (jV) aO MZ) (cI 1999)) (cI 999)) (aC (Iv) Nq (cI 15))) a0))) (aU WM (aG (aC lN (aC (eG) aO MZ) cO) a0)))))))
def uH:List A→Mo A:=dQ 2 zQ
def YL:MS :=
 (cJ (aU kF (aG (cG "kept" [("Often",cE 1 [] qN)] aO a0) a0)))
def FR:List A→Mo A:=dQ 1 YL
def LJ:MS :=
 (cJ (GO true (cG "kept" [("Often",cE 1 [] qN)] aO a0)))
def xH:List A→Mo A:=dQ 1 LJ
def ER:MS :=
 (dD (bB (aC nB (iV ["Often"] 0 "tally" fun kvs=>ret (.int kvs.length)) (gB ["Often"] "keep" aO)))
   (bD (dE (aU (dJ 2 FJ) (aG (iV ["Often"] 0 "tally" fun kvs=>jS false (kvs.map kS)) (aG (gB ["Often"] "keep" aO) a0))) (gN 1))
   (bD (sX ["Often"] 0 "tally" (aU rU (aG (aC eI bE cO) a0)))
   (lZ ["Often"] "lost" aO (aC bS (gB ["Often"] "lost" aO) (aC eI bE bL)))))
   eN)
def MP:List A→Mo A:=dQ 2 ER
def LH:MS :=
 (bD (dE (cG "counted" [("Often",cE 2 [] xJ)] aO (aG cR a0)) (gN 5))
  (bD (dD (iU (kB (bB (aU wC (aG eM (aG (cT "tuple") a0))))) (iU (bB (aC gT (aU kF (aG eM a0)) uM)) (iU (kB (bB (aU (dJ 1 sI) (aG (aC eI eM cO) a0)))) (kB (bB (aU (dJ 1 sI) (aG (aC eI eM bL) a0)))))))
   (cJ (cB false))
   eN)
  (bD (dE (iO bE cR cO) (gN 6))
  (bD (dD (bB (aC gT eM (pG (aG fY (aG (aU lM (aG gH (aG (aC bS fY (cG "off" [("Often",cE 1 [] lX)] aO a0)) a0))) a0)))))
   (cJ (cB false))
   eN)
  (cJ (BD DY DY (aC eI eM cO) (iO cS cR cO) (aC eI eM bL)))))))
def FN:List A→Mo A:=dQ 7 LH
def LO:MS :=
 (bD (mB (aU (dJ 2 xI) (aG aO (aG bE a0))))
  (bD (sX ["Often"] 0 "tally" BC)
  (lZ ["Often"] "lost" aO cO)))
def AI:List A→Mo A:=dQ 2 LO
def YM:MS :=
 (bD (mB (cG "count_in" [("Often",cE 3 [] MQ)] aO (aG bE (aG cS a0))))
  (mB (cG "cut_down" [("Often",cE 1 [] MP)] aO a0)))
def MN:List A→Mo A:=dQ 3 YM
def YN:Ev→Mo A :=
 (kN false 1 [0,1] (iD (cG "numbers" [("Often",cE 1 [] xH)] aO a0)) (gN 0) (bB (aC zD (aC eI (cG "counted" [("Often",cE 2 [] xJ)] bE (aG aO a0)) bL) cS)) aO)
def LL:MS :=
 (cJ YN)
def MO:List A→Mo A:=dQ 2 LL
def YG:MS :=
 (bD (dD (iU (kB (bB (aU wC (aG gH (aG (cT "tuple") a0))))) (iU (bB (aC gT (aU kF (aG gH a0)) uM)) (iU (kB (bB (aU (dJ 1 sI) (aG (aC eI gH cO) a0)))) (kB (bB (aU (dJ 1 sI) (aG (aC eI gH bL) a0)))))))
    (cJ cN)
    eN)
   (dD (bB (aC zB (aC eI gH bL) bL))
    (cJ cN)
    eN))
def Li:Ev→Mo A :=
 (kN false 2 [] (iD cR) (rS 2 (kX (gN 0) (kX (gN 1) tS))) sO aO)
def LF:Ev→Mo A :=
 (kN false 2 [] (iD cR) (rS 2 (kX (gN 0) (kX (gN 1) tS))) sO bE)
def LG:MS :=
 (bD (dE (cG "counts" [("Often",cE 1 [] FT)] aO a0) (gN 3))
  (bD (dD (iU (kB (bB (aU wC (aG cR (aG (cT "list") a0))))) (iU (bB (aC gT cR (aU (JS false) (aG cR a0)))) (bB (aC nB (aU kF (aG cR a0)) bE))))
   (cJ cN)
   eN)
  (bD (sW (iD cR) (gN 4) YG)
  (bD (dE Li (gN 5))
  (bD (dE (cG "off" [("Often",cE 1 [] lX)] aO a0) (gN 6))
  (bD (dD (iU (bB (aC gT (BA eM) (aU kF (aG eM a0)))) (iU (kB (bB (aU (dJ 1 sI) (aG fY a0)))) (bB (aC zB fY cO))))
   (cJ cN)
   eN)
  (bD (dD (bB (aC nB (aC bS (aC (nW) fY (aC bS bE bL)) (aU rT (aG LF a0))) cS))
   (cJ cN)
   eN)
  (bD (dD (iU (bB (aC gT (cG "held" [("Often",cE 1 [] FR)] aO a0) (aU kF (aG cR a0)))) (iU (bB (aC gT (cG "numbers" [("Often",cE 1 [] xH)] aO a0) eM)) (bB (aC gT (cG "length" [("Often",cE 1 [] FQ)] aO a0) cS))))
   (cJ cN)
   eN)
  (cJ (aU rU (aG cR a0)))))))))))
def Ao:List A→Mo A:=dQ 7 LG
def LI:MS :=
 (bD (dD (bB (aC zB cS bL))
   (fun _ _=>none)
   eN)
  (bD (mB (cG "look_room" [("Often",cE 2 [] MM)] aO (aG cS a0)))
  (bD (mB (cG "take" [("Often",cE 3 [] MN)] aO (aG bE (aG cS a0))))
  (bD (lZ ["Often"] "many" aO (aC bS (gB ["Often"] "many" aO) cS))
  (lZ ["Often"] "taken" aO (aC bS (gB ["Often"] "taken" aO) bL))))))
def qM:List A→Mo A:=dQ 3 LI
def YF:Ev→Mo A :=
 (kN false 1 [1,3,4,6] (iD (aU (DW false) (aG (pH false bE) a0))) (gN 0) (bB (aC zD (aU lM (aG cR (aG (aC bS (aC tT bE aO) gH) a0))) cS)) aO)
def LC:MS :=
 (dD (qV (bB (aC zD pF cR)) (qV (bB (aC nB pF fY)) (bB (aC (zA true) AV eM))))
    (cJ (cB false))
    eN)
def LD:MS :=
 (bD (dE (cG "often" [("Often",cE 2 [] MO)] aO (aG cR a0)) (gN 5))
  (bD (dE (cG "off" [("Often",cE 1 [] lX)] aO a0) (gN 6))
  (bD (dD (bB (aC gT eM YF))
   (cJ (cB false))
   eN)
  (bD (BU 2 (rS 2 (kX (gN 7) (kX (gN 8) tS))) LC)
  (cJ (cB true))))))
def ML:List A→Mo A:=dQ 9 LD
def YE:MS :=
 (bD (dD (kB (bB (aU (dJ 5 FN) (aG aO (aG eM (aG cS (aG fY (aG gH a0))))))))
    (cJ (cB false))
    eN)
   (dD (qV (bB (aC nB (aC (nW) (iO cS fY cO) (aC bS bE bL)) gH)) (bB (aC (zE true) fY eM)))
    (cJ (cB false))
    eN))
def YD:MS :=
 (dD (kB (bB (aU (dJ 5 ML) (aG aO (aG eM (aG cS (aG AV (aG gH a0))))))))
    (cJ (cB false))
    eN)
def LB:MS :=
 (bD (dE (aU rT (aG (BB false cS) a0)) (gN 4))
  (bD (dE (aU (dJ 3 Ao) (aG aO (aG bE (aG gH a0)))) (gN 5))
  (bD (dD (bB (aC (Iy false) eM cN))
   (cJ (cB false))
   eN)
  (bD (sW (iD (aC bS (pH false cS) (qU false (aG (aC (qA) (aC (eG) cR (cI 99)) (cI 50)) a0)))) (gN 6) YE)
  (bD (sW (iD (qU false (aG bL (aG (aC bS bL (aC (eG) cR GD)) (aG (aC bS (cG "off" [("Often",cE 1 [] lX)] aO a0) bL) (aG (aC bS bL (aC (jV) gH (aC bS bE bL))) a0)))))) (gN 7) YD)
  (cJ (cB true)))))))
def FK:List A→Mo A:=dQ 8 LB
def KY:MS :=
 (bD (dE (aU (dJ 2 xF) (aG (aU (dJ 2 xG) (aG aO (aG fY a0))) (aG fY a0))) (gN 7))
   (bD (dE (aU (dJ 2 uH) (aG (aU (dJ 2 xF) (aG AV (aG bL a0))) (aG gH a0))) (gN 8))
   (bD (dE (aU (dJ 1 sJ) (aG (aU (dJ 2 xF) (aG AV (aG uM a0))) a0)) (gN 9))
   (bD (dD (bB (aC lN uL bL))
    (mB (cG "put" [("Often",cE 3 [.int 1] qM)] cR (aG pF a0)))
    (mB (cG "put" [("Often",cE 3 [] qM)] cR (aG pF (aG uL a0)))))
   (bD (xY (aC bS (iO eM pF cO) uL) eM pF)
   (dD (qV (bB (aC lN (aC (eG) fY GF) cO)) (kB (bB (aU (dJ 4 FK) (aG cR (aG cS (aG eM (aG AV a0))))))))
    (cJ (cB false))
    eN))))))
def KZ:MS :=
 (bD (dE (aU (dJ 2 xG) (aG aO (aG cO a0))) (gN 1))
  (bD (dE (aC bS bL (aC (eG) bE (cI 12))) (gN 2))
  (bD (dD (bB (aC lN (aC (eG) (aC (jV) bE (cI 12)) sR) cO))
   (dE (cI 1000) (gN 2))
   eN)
  (bD (dD (bB (aC lN (aC (eG) (aC (jV) bE (cI 12)) sR) bL))
   (dE (aC bS (cI 13) (aC (eG) (aC (jV) bE (cI 288)) (cI 48))) (gN 2))
   eN)
  (bD (dE (aU (DX "Often" 2 AI) (aG cS a0)) (gN 3))
  (bD (dE (aC (eG) (aC (jV) bE (cI 72)) MZ) (gN 4))
  (bD (dE BC (gN 5))
  (bD (dD (kB (bB (aU (dJ 4 FK) (aG cR (aG cS (aG eM (aG bE a0)))))))
   (cJ (cB false))
   eN)
  (bD (sW (GP (aG uM (aG (aU lM (aG (aU kF (aG aO a0)) (aG (cI 62) a0))) a0))) (gN 6) KY)
  (bD (dD (bB (aC gT (cG "puts" [("Often",cE 1 [] FP)] cR a0) (aU JT (aG cO (aG (aC (qA) (aU lM (aG (aU kF (aG aO a0)) (aG (cI 62) a0))) uM) a0)))))
   (cJ (cB false))
   eN)
  (bD (mB (BE zF (cG "counts" [("Often",cE 1 [] FT)] cR a0) (aG (pG (aG cO (aG bL a0))) a0)))
  (bD (mB (BE zF (cG "numbers" [("Often",cE 1 [] xH)] cR a0) (aG cO a0)))
  (cJ (aU (dJ 4 FK) (aG cR (aG cS (aG eM (aG (aU (dJ 2 xG) (aG aO (aG bL a0))) a0))))))))))))))))))
def My:List A→Mo A:=dQ 10 KZ
end
open PySem L2 V2
def aQ:List Rn→Int→Int
 | [],_=>0
 | r::rs,n=>if r.1=n then r.2 else aQ rs n
def bM:List Rn→Int→Int→List Rn
 | [],n,t=>[(n,t)]
 | r::rs,n,t=>if r.1=n then(r.1,r.2+t)::rs else r::bM rs n t
def dH:List Rn→Int
 | []=>0
 | r::rs=>r.2+dH rs
theorem EH:∀{rs:List Rn} {n:Int},n∉rs.map (·.1)→aQ rs n=0
 | [],_,_=>rfl
 | r::rs,n,h=>by
  simp only [cF,dG,not_or]at h;simp only [aQ,if_neg (bT h.1)];exact EH h.2
theorem KL:∀{rs:List Rn} {r:Rn},(rs.map (·.1)).Nodup→r∈rs→aQ rs r.1=r.2
 | [],r,_,h=>by simp at h
 | s::rs,r,nd,h=>by
  rw [cF,lU]at nd
  rcases dG.mp h with e | e
  ·subst e;simp [aQ]
  ·have:s.1≠r.1:=fun z=>nd.1 (by rw [z];exact List.mem_map_of_mem e);simp only [aQ,if_neg this];exact KL nd.2 e
theorem XO:∀{rs:List Rn} {n:Int},(∀r∈rs,1≤r.2)→0≤aQ rs n
 | [],_,_=>by simp [aQ]
 | r::rs,n,h=>by
  simp only [aQ];split
  ·have:=h r (by simp);omega
  ·exact XO fun r hr=>h r (by simp [hr])
theorem Kf:∀{rs:List Rn} {n:Int},1≤aQ rs n→n∈rs.map (·.1)
 | [],_,h=>by simp [aQ]at h
 | r::rs,n,h=>by
  simp only [aQ]at h;split at h
  ·rename_i e;simp [e]
  ·simp only [cF,dG];exact Or.inr (Kf h)
theorem Kg:∀{rs:List Rn} {n:Int},(∀r∈rs,1≤r.2)→aQ rs n≤dH rs
 | [],_,_=>by simp [aQ,dH]
 | r::rs,n,h=>by
  have ih:=Kg (rs:=rs) (n:=n) fun r hr=>h r (by simp [hr]);have h0:=XO (rs:=rs) (n:=n) fun r hr=>h r (by simp [hr]);have h1:=h r (by simp);simp only [aQ,dH];split <;> omega
theorem Dc:∀{rs:List Rn},(∀r∈rs,1≤r.2)→0≤dH rs
 | [],_=>by simp [dH]
 | r::rs,h=>by
  have ih:=Dc (rs:=rs) fun r hr=>h r (by simp [hr]);have h1:=h r (by simp);simp only [dH];omega
theorem OJ:∀(rs:List Rn) (n t:Int),dH (bM rs n t)=dH rs+t
 | [],n,t=>by simp [bM,dH]
 | r::rs,n,t=>by
  simp only [bM];split
  ·simp only [dH];omega
  ·simp only [dH,OJ rs n t];omega
theorem EI:∀(rs:List Rn) (n t m:Int),aQ (bM rs n t) m=aQ rs m+if m=n then t else 0
 | [],n,t,m=>by
  simp only [bM,aQ]
  by_cases h:n=m
  ·rw [if_pos h,if_pos h.symm];omega
  ·rw [if_neg h,if_neg (bT h)];omega
 | r::rs,n,t,m=>by
  simp only [bM];split
  ·rename_i e;simp only [aQ]
   by_cases h:r.1=m
   ·rw [if_pos h,if_pos h,if_pos (by omega)]
   ·rw [if_neg h,if_neg h,if_neg (by omega)];omega
  ·rename_i e;simp only [aQ]
   by_cases h:r.1=m
   ·rw [if_pos h,if_pos h,if_neg (by omega)];omega
   ·rw [if_neg h,if_neg h,EI rs n t m]
theorem Gr:∀(rs:List Rn) (n t m:Int),m∈(bM rs n t).map (·.1)→m∈rs.map (·.1)∨m=n
 | [],n,t,m,h=>by simp only [bM,cF,oB,mK]at h;exact .inr h
 | r::rs,n,t,m,h=>by
  simp only [bM]at h;split at h
  ·exact .inl (by simpa using h)
  ·simp only [cF,dG]at h ⊢
   rcases h with h | h
   ·exact .inl (.inl h)
   ·rcases Gr rs n t m h with q | q
    ·exact .inl (.inr q)
    ·exact .inr q
theorem IE:∀(rs:List Rn) (n t:Int),(rs.map (·.1)).Nodup→((bM rs n t).map (·.1)).Nodup
 | [],n,t,_=>by simp [bM]
 | r::rs,n,t,nd=>by
  simp only [bM];split
  ·simpa using nd
  ·rename_i e;rw [cF,lU]at nd ⊢;refine⟨fun h=>?_,IE rs n t nd.2⟩
   rcases Gr rs n t r.1 h with q | q
   ·exact nd.1 q
   ·exact e q
theorem QO:∀(rs:List Rn) (n t:Int),1≤t→(∀r∈rs,1≤r.2)→∀r∈bM rs n t,1≤r.2
 | [],n,t,ht,_,r,hr=>by simp only [bM,mK]at hr;subst hr;exact ht
 | s::rs,n,t,ht,h,r,hr=>by
  simp only [bM]at hr;split at hr
  ·rcases dG.mp hr with e | e
   ·subst e;have:=h s (by simp);show 1≤s.2+t;omega
   ·exact h r (by simp [e])
  ·rcases dG.mp hr with e | e
   ·subst e;exact h _ (by simp)
   ·exact QO rs n t ht (fun r hr=>h r (by simp [hr])) r e
theorem IL:∀(rs:List Rn) (n t:Int),(bM rs n t).length≤rs.length+1
 | [],n,t=>by simp [bM]
 | r::rs,n,t=>by
  simp only [bM];split
  ·simp
  ·have:=IL rs n t;simp only [nH];omega
theorem KA(t:Int)(r:Rn)(rs:List Rn):cY t (r::rs)=if t<r.2 then(r.1,r.2 - t)::cY t rs else cY t rs:=by
 by_cases h:t<r.2 <;> simp [cY,h]
theorem JZ:∀(t:Int) (rs:List Rn) (m:Int),m∈(cY t rs).map (·.1)→m∈rs.map (·.1)
 | t,[],m,h=>by simp [cY]at h
 | t,r::rs,m,h=>by
  rw [KA]at h;split at h
  ·simp only [cF,dG]at h ⊢;exact h.imp id (JZ t rs m)
  ·simp only [cF,dG];exact .inr (JZ t rs m h)
theorem JY:∀(t:Int) (rs:List Rn),(rs.map (·.1)).Nodup→((cY t rs).map (·.1)).Nodup
 | t,[],_=>by simp [cY]
 | t,r::rs,nd=>by
  rw [cF,lU]at nd;rw [KA];split
  ·rw [cF,lU];exact⟨fun h=>nd.1 (JZ t rs r.1 h),JY t rs nd.2⟩
  ·exact JY t rs nd.2
theorem ag5(t:Int)(rs:List Rn):∀r∈cY t rs,1≤r.2:=by
 intro r hr;unfold cY at hr;obtain⟨s,hs,rfl⟩:=lV.mp hr;have:=(List.mem_filter.mp hs).2;simp only [zL]at this;show 1≤s.2 - t;omega
theorem Jh:∀(t:Int) (rs:List Rn) (m:Int),(rs.map (·.1)).Nodup→(∀r∈rs,1≤r.2)→0≤t→aQ (cY t rs) m=if t<aQ rs m then aQ rs m - t else 0
 | t,[],m,_,_,h=>by simp [cY,aQ,Int.not_lt.mpr h]
 | t,r::rs,m,nd,hp,h=>by
  rw [cF,lU]at nd;have ih:=Jh t rs m nd.2 (fun r hr=>hp r (by simp [hr])) h;rw [KA]
  by_cases e:r.1=m
  ·have hn:aQ (cY t rs) m=0:=EH fun z=>nd.1 (by rw [e];exact JZ t rs m z);split
   ·simp only [aQ,if_pos e];rw [if_pos (by assumption)]
   ·rw [hn];simp only [aQ,if_pos e];rw [if_neg (by assumption)]
  ·split
   ·simp only [aQ,if_neg e];exact ih
   ·simp only [aQ,if_neg e];exact ih
theorem Jf:∀(t:Int) (rs:List Rn),(∀r∈rs,1≤r.2)→0≤t→t*((rs.filter fun r=>decide (t≤r.2)).length:Int)+dH (cY t rs)≤dH rs
 | t,[],_,h=>by simp [cY,dH]
 | t,r::rs,hp,h=>by
  have ih:=Jf t rs (fun r hr=>hp r (by simp [hr])) h;have h1:=hp r (by simp);rw [KA]
  by_cases h2:t≤r.2
  ·rw [List.filter_cons_of_pos (by simpa using h2),nH];have e:t*(((rs.filter fun r=>decide (t≤r.2)).length+1:Nat):Int)=t*((rs.filter fun r=>decide (t≤r.2)).length:Int)+t:=by
    rw [Int.natCast_add,Int.mul_add];simp
   rw [e];split
   ·simp only [dH];omega
   ·simp only [dH];omega
  ·rw [List.filter_cons_of_neg (by simpa using h2),if_neg (by omega)];simp only [dH];omega
theorem Jg(t:Int)(rs:List Rn):(cY t rs).length=(rs.filter fun r=>decide (t<r.2)).length:=by unfold cY;rw [List.length_map]
theorem pK(rs:List Rn):(dI rs).Perm rs:=by
 have h:=(HC (rs.map iF)).map xS;rw [sE]at h;have e:rs.map (xS ∘ iF)=rs:=by
  have:∀r∈rs,(xS ∘ iF) r=id r:=fun r _=>rfl;rw [MA this,List.map_id]
 rw [e]at h;exact h
theorem Cz{rs fM:List Rn}(h:rs.Perm fM):dH rs=dH fM:=by
 induction h with
 | nil=>rfl
 | cons x _ ih=>simp only [dH,ih]
 | swap x y l=>simp only [dH];omega
 | trans _ _ a b=>exact a.trans b
theorem XN{rs fM:List Rn}(h:rs.Perm fM)(nd:(rs.map (·.1)).Nodup)(m:Int):aQ rs m=aQ fM m:=by
 have nd':(fM.map (·.1)).Nodup:=(h.map (·.1)).nodup_iff.mp nd
 by_cases hm:m∈rs.map (·.1)
 ·obtain⟨r,hr,rfl⟩:=lV.mp hm;rw [KL nd hr,KL nd' (h.mem_iff.mp hr)]
 ·rw [EH hm,EH fun z=>hm ((h.map (·.1)).mem_iff.mpr z)]
def kD(keep:Nat)(rs:List Rn):List Rn:=if keep<rs.length then dI (cY (taken rs keep) rs)else rs
structure nX(keep:Nat)(rs:List Rn)(aD:Int)(ws:List Rn)(many:Int):Prop where
 nd:(rs.map (·.1)).Nodup
 pos:∀r∈rs,1≤r.2
 len:rs.length≤keep
 lo:0≤aD
 sum:aD*((keep:Int)+1)+dH rs≤many
 le:∀n,aQ rs n≤aQ ws n
 ge:∀n,aQ ws n≤aQ rs n+aD
 AU:(ws.map (·.1)).Nodup
 Nj:∀r∈ws,1≤r.2
 wsum:dH ws=many
theorem Df(keep:Nat):nX keep [] 0 [] 0:=⟨by simp,by simp,by simp,by omega,by simp [dH],fun _=>by simp [aQ],fun _=>by simp [aQ],by simp,by simp,rfl⟩
theorem Cn(rs:List Rn)(keep:Nat)(h:¬keep<rs.length):taken rs keep=0:=by unfold taken;rw [if_neg h]
theorem nX.next{keep:Nat}{rs ws:List Rn}{aD many:Int}(s:nX keep rs aD ws many)(n t:Int)(ht:1≤t):nX keep (kD keep (bM rs n t)) (aD+taken (bM rs n t) keep) (bM ws n t) (many+t):=by
 have IF:=IE rs n t s.nd;have yE:=QO rs n t ht s.pos;have Dd:aD*((keep:Int)+1)+dH (bM rs n t)≤many+t:=by rw [OJ];have:=s.sum;omega
 have RD:∀m,aQ (bM rs n t) m≤aQ (bM ws n t) m:=fun m=>by rw [EI,EI];have:=s.le m;omega
 have ge1:∀m,aQ (bM ws n t) m≤aQ (bM rs n t) m+aD:=fun m=>by rw [EI,EI];have:=s.ge m;omega
 have Bh:=IE ws n t s.AU;have Be:=QO ws n t ht s.Nj;have Bc:dH (bM ws n t)=many+t:=by rw [OJ,s.wsum]
 generalize bM rs n t=jQ at IF yE Dd RD ge1
 by_cases hk:keep<jQ.length
 ·have g1:=aiX jQ keep hk;have g2:=aiY jQ keep hk;have g3:=aiW jQ yE keep hk;rw [show kD keep jQ=dI (cY (taken jQ keep) jQ)by unfold kD;rw [if_pos hk]];generalize taken jQ keep=u at g1 g2 g3 ⊢;have hS:=pK (cY u jQ);have ndF:=JY u jQ IF;have mV:((dI (cY u jQ)).map (·.1)).Nodup:=(hS.map (·.1)).nodup_iff.mpr ndF;have c:=fun m=>(XN hS mV m).trans (Jh u jQ m IF yE (by omega));have amU:=Jf u jQ yE (by omega);refine⟨mV,fun r hr=>ag5 u jQ r (hS.mem_iff.mp hr),?_,?_,?_,fun m=>?_,fun m=>?_,Bh,Be,Bc⟩
  ·rw [hS.length_eq,Jg];exact g1
  ·have:=s.lo;omega
  ·rw [Cz hS];have hm:u*((keep:Int)+1)≤u*((jQ.filter fun r=>decide (u≤r.2)).length:Int):=Int.mul_le_mul_of_nonneg_left (by omega) (by omega);rw [Int.add_mul];omega
  ·rw [c m];have:=RD m;have h0:=XO (n:=m) yE;split <;> omega
  ·rw [c m];have:=ge1 m;split <;> omega
 ·have e:kD keep jQ=jQ:=by unfold kD;rw [if_neg hk]
  rw [e,Cn jQ keep hk,Int.add_zero];exact⟨IF,yE,by omega,s.lo,Dd,RD,ge1,Bh,Be,Bc⟩
open PyProof.Rows (step_dedup)
def encD(rs:List Rn):List (Key×A):=rs.map fun r=>(.inl r.1,.int r.2)
theorem Bw{q:Key×A}{kvs:List (Key×A)}{k:Key}(h:q.1=k):gO (q::kvs) k=some q.2:=by simp [gO,h]
theorem Bv{q:Key×A}{kvs:List (Key×A)}{k:Key}(h:q.1≠k):gO (q::kvs) k=gO kvs k:=by simp [gO,h]
theorem NO:∀(rs:List Rn) (n:Int),(gO (encD rs) (.inl n)).getD (.int 0) = .int (aQ rs n)
 | [],n=>rfl
 | r::rs,n=>by
  have ih:=NO rs n;show(gO ((.inl r.1,.int r.2)::encD rs) (.inl n)).getD (.int 0) = .int (aQ (r::rs) n)
  by_cases h:r.1=n
  ·rw [Bw (by rw [h])];simp [aQ,h]
  ·rw [Bv (by intro z;exact h (by simpa using z)),ih];simp [aQ,h]
theorem NN:∀(rs:List Rn) (n:Int),gO (encD rs) (.inl n)=if n∈rs.map (·.1)then(aA (aQ rs n))else none
 | [],n=>rfl
 | r::rs,n=>by
  have ih:=NN rs n;show gO ((.inl r.1,.int r.2)::encD rs) (.inl n)=_
  by_cases h:r.1=n
  ·rw [Bw (by rw [h])];simp [aQ,h]
  ·have h':¬n=r.1:=fun z=>h z.symm;rw [Bv (by intro z;exact h (by simpa using z)),ih];simp only [aQ,if_neg h,cF,dG,h',false_or]
theorem Yp{q:Key×A}{kvs:List (Key×A)}{k:Key}{a:A}(h:q.1≠k):mT (q::kvs) k a=q::mT kvs k a:=by
 unfold mT;have e:((q::kvs).any fun kv=>decide (kv.1=k))=kvs.any fun kv=>decide (kv.1=k):=by simp [h]
 rw [e];split
 ·simp [h]
 ·simp
theorem QM:∀(rs:List Rn) (n t:Int),(rs.map (·.1)).Nodup→mT (encD rs) (.inl n) (.int (aQ rs n+t))=encD (bM rs n t)
 | [],n,t,_=>by simp [encD,mT,bM,aQ]
 | r::rs,n,t,nd=>by
  rw [cF,lU]at nd;have ih:=QM rs n t nd.2;show mT ((.inl r.1,.int r.2)::encD rs) (.inl n) _=_
  by_cases h:r.1=n
  ·subst h;have em:∀(l:List Rn),r.1∉l.map (·.1)→(encD l).map (fun kv=>if kv.1=(.inl r.1:Key)then(kv.1,A.int (r.2+t))else kv)=encD l:=by
    intro l
    induction l with
    | nil=>intro _;rfl
    | cons s l SY =>
     intro hn;simp only [cF,dG,not_or]at hn;have hs:¬s.1=r.1:=fun z=>hn.1 z.symm;have:=SY hn.2;simp only [encD,cF]at this ⊢;rw [this];simp [hs]
   have e2:=em rs nd.1;simp only [mT,aQ,if_pos,bM];simp [encD]at e2 ⊢;exact e2
  ·rw [Yp (by intro z;exact h (by simpa using z))];simp only [aQ,bM,if_neg h,ih];rfl
theorem SR(rs:List Rn):(encD rs).map (fun kv=>kA kv.1)=(rs.map (·.1)).map A.int:=by simp [encD,kA]
theorem SU(rs:List Rn):(encD rs).map kS=aM rs:=by simp [encD,kS,kA,aM,eU]
theorem Bt(rs:List Rn):(encD rs).map (·.2)=(rs.map (·.2)).map A.int:=by simp [encD]
theorem OI:∀rs:List Rn,(rs.map (·.2)).sum=dH rs
 | []=>rfl
 | r::rs=>by simp [dH,OI rs]
theorem QR:∀rs:List Rn,sZ (aM rs)=some (encD rs)
 | []=>rfl
 | r::rs=>by
  have ih:=QR rs;show sZ (.tup [.int r.1,.int r.2]::aM rs)=_;simp [sZ,kR,ih,encD]
theorem keys_nodup(rs:List Rn)(nd:(rs.map (·.1)).Nodup):((encD rs).map (·.1)).Nodup:=by
 have e:(encD rs).map (·.1)=(rs.map (·.1)).map (Sum.inl:Int→Key):=by simp [encD]
 rw [e];exact List.pairwise_map.mpr (nd.imp fun h z=>h (by simpa using z))
theorem Ka:∀(ns acc:List Int),(acc++ns).Nodup→ns.foldl step_dedup acc=acc++ns
 | [],acc,_=>by simp
 | n::ns,acc,h=>by
  have hn:n∉acc:=fun z=>by
   have:=(Aa.mp h).2.2 n z n (by simp);exact this rfl
  have e:step_dedup acc n=acc++[n]:=by
   unfold step_dedup;rw [if_neg];simp only [List.any_eq_true,qE,not_exists,not_and];intro x hx e;subst e;exact hn hx
  rw [List.foldl_cons,e,Ka ns (acc++[n]) (by simpa using h)];simp
theorem Jz{ns:List Int}(h:ns.Nodup):pA ns=ns:=by
 unfold pA;rw [Ka ns [] (by simpa using h)];rfl
theorem xT{Ω Ω':aI}{a:A}(h:Ω'.length=Ω.length):trim Ω (some (.ok a,Ω'))=aJ a Ω':=by
 simp only [trim];split
 ·rename_i hc;rw [← h,List.take_length]at hc;rw [hc.1]
 ·rfl
theorem Cg{Ω:aI}{c:Cell}:trim Ω (some (.ok (.aE Ω.length),Ω++[c]))=aJ (.aE Ω.length) (Ω++[c]):=by
 simp [trim,Cl]
abbrev eK(keep:Nat)(many tk:Int)(rs:List Rn)(aD:Int):List (Str×Fd):=[("keep",.val (.int keep)),("many",.val (.int many)),("taken",.val (.int tk)),("tally",.aX (encD rs)),("lost",.val (.int aD))]
abbrev bZ(keep:Nat)(many tk:Int)(rs:List Rn)(aD:Int):Cell := .ins "Often" (eK keep many tk rs aD)
section
variable{Ω Ω':aI}{p keep:Nat}{many tk aD:Int}{rs:List Rn}
theorem gQ{m:Str}{F:List A→Mo A}{n i:Nat}{das as:List A}{fs:Ev→Mo (List A)}{ρ:Ev}{a:A}(h:Ω[p]? = some (bZ keep many tk rs aD))(hl:(eK keep many tk rs aD).lookup m=none)(h0:(ρ[i]?).join=(aB p))(ha:fs ρ Ω=aJ as Ω)(hn:as.length+1+das.length=n)
  (hF:F (.aE p::(as++das)) Ω=aJ a Ω'):cG m [("Often",cE n das F)] (dB i) fs ρ Ω=aJ a Ω':=by
 unfold cG;rw [bQ (x:=A.aE p) (Ω':=Ω) (by simp [h0])];have lk:List.lookup ("Often" : Str) [(("Often" : Str),cE n das F)]=some (cE n das F):=by simp [List.lookup]
 simp only [WL,h,lk,hl];rw [bQ ha];simp only [cE];rw [if_pos (by simp only [nH];omega)];exact hF
theorem CA(h:Ω[p]? = some (bZ keep many tk rs aD)){ρ:Ev}(h0:(ρ[0]?).join=(aB p)):tF ["Often"] 0 "tally" ρ Ω=some (p,("Often" : Str),eK keep many tk rs aD,Fd.aX (encD rs)):=by
 unfold tF;rw [h0];simp only [h];rfl
theorem LY(h:Ω[p]? = some (bZ keep many tk rs aD)):lX [.aE p] Ω=aJ (.int aD) Ω:=by
 have l:(eK keep many tk rs aD).lookup ("lost" : Str)=some (.val (.int aD)):=rfl;show trim Ω (gC (YO [aB p] Ω))=_;simp [YO,h,l]
theorem akV(h:Ω[p]? = some (bZ keep many tk rs aD)):FQ [.aE p] Ω=aJ (.int many) Ω:=by
 have l:(eK keep many tk rs aD).lookup ("many" : Str)=some (.val (.int many)):=rfl;show trim Ω (gC (YK [aB p] Ω))=_;simp [YK,h,l]
theorem akO(h:Ω[p]? = some (bZ keep many tk rs aD)):FP [.aE p] Ω=aJ (.int tk) Ω:=by
 have l:(eK keep many tk rs aD).lookup ("taken" : Str)=some (.val (.int tk)):=rfl;show trim Ω (gC (YI [aB p] Ω))=_;simp [YI,h,l]
theorem Ml(h:Ω[p]? = some (bZ keep many tk rs aD)):qN [.aE p] Ω=aJ (.lst ((rs.map (·.1)).map A.int)) Ω:=by
 have o:=CA h (ρ:=[aB p]) rfl;show trim Ω (gC (YQ [aB p] Ω))=_;unfold YQ;rw [← SR];simp [o]
theorem akW(h:Ω[p]? = some (bZ keep many tk rs aD)):FR [.aE p] Ω=aJ (.int rs.length) Ω:=by
 have q:(cG "kept" [("Often",cE 1 [] qN)] aO a0) [aB p] Ω=aJ (.lst ((rs.map (·.1)).map A.int)) Ω:=gQ h rfl rfl (as:=[]) (das:=[]) (by simp) rfl (by simpa using Ml h);show trim Ω (gC (YL [aB p] Ω))=_;unfold YL cJ;have e:(aU kF (aG (cG "kept" [("Often",cE 1 [] qN)] aO a0) a0)) [aB p] Ω=aJ (.int rs.length) Ω:=by
  unfold aU;rw [bQ (x:=[A.lst ((rs.map (·.1)).map A.int)]) (Ω':=Ω) (by unfold aG;rw [bQ q];simp)];simp
 rw [fR e];simp
theorem ZQ(h:Ω[p]? = some (bZ keep many tk rs aD))(nd:(rs.map (·.1)).Nodup)(hl:rs.length<64):xH [.aE p] Ω=aJ (.aE Ω.length) (Ω++[.lst ((sortI (rs.map (·.1))).map A.int)]):=by
 have q:(cG "kept" [("Often",cE 1 [] qN)] aO a0) [aB p] Ω=aJ (.lst ((rs.map (·.1)).map A.int)) Ω:=gQ h rfl rfl (as:=[]) (das:=[]) (by simp) rfl (by simpa using Ml h);show trim Ω (gC (LJ [aB p] Ω))=_;have e:LJ [aB p] Ω=some (.ret (.aE Ω.length),[aB p],Ω++[.lst ((sortI (rs.map (·.1))).map A.int)]):=by
  unfold LJ cJ;have e2:GO true (cG "kept" [("Often",cE 1 [] qN)] aO a0) [aB p] Ω=aJ (.aE Ω.length) (Ω++[.lst ((sortI (rs.map (·.1))).map A.int)]):=by
   unfold GO;rw [bQ q];have e3:(cX Ω (.lst ((rs.map (·.1)).map A.int))).bind intsOf=some (rs.map (·.1)):=by
    show intsOf ((rs.map (·.1)).map A.int)=_;exact vJ _
   simp only [e3,Jz nd];rw [if_pos ⟨by simp;omega,by simpa using hl⟩];rfl
  rw [fR e2]
 rw [e];simp only [CB];exact Cg
theorem Mm(h:Ω[p]? = some (bZ keep many tk rs aD))(hl:rs.length<64):FT [.aE p] Ω=aJ (.aE Ω.length) (Ω++[.lst (aM (dI rs))]):=by
 have o:=CA h (ρ:=[aB p]) rfl;show trim Ω (gC (LM [aB p] Ω))=_;have e:LM [aB p] Ω=some (.ret (.aE Ω.length),[aB p],Ω++[.lst (aM (dI rs))]):=by
  unfold LM cJ;have e2:iV ["Often"] 0 "tally" (DV true) [aB p] Ω=aJ (.aE Ω.length) (Ω++[.lst (aM (dI rs))]):=by
   unfold iV;rw [o];simp only [DV,SU,GR];rw [if_pos (by simpa using hl),XD];rfl
  rw [fR e2]
 rw [e];simp only [CB];exact Cg
end
theorem OT{Ω:aI}{p:Nat}{c:Cell}(h:Ω[p]? = some c):Ω.set p c=Ω:=by
 apply MD;intro j
 by_cases hj:p=j
 ·subst hj;rw [fU (cL.mp h).1,h]
 ·rw [iL hj]
theorem Gk{i:Nat}{f:Str}{g:MS}{ρ ρ':Ev}{Ω:aI}{s:Nat}{cls:Str}{fs:List (Str×Fd)}{fd fd':Fd}{c c':Cell}(h1:ρ[i]? = some (aB s))(h2:Ω[s]? = some (.ins cls fs))(h3:fs.lookup f=some fd)(h4:fd.cell=some c)
  (h5:g ρ (jA Ω s cls f fs c)=iZ ρ' (jA Ω s cls f fs c')) (h6:fd'.cell=some c') (h7:fd'=fd∨oF Ω.length fd') (h8:∀(j:Nat) (d:A),ρ'[j]? = some (some d)→ρ[j]? = some (some d)∨Cl Ω.length d):sV i f g ρ Ω=iZ ρ' (Ω.set s (.ins cls (putD f fd' fs))):=by
 have hs:s<Ω.length:=(cL.mp h2).1;refine Xb (r:=(.nx,ρ',Ω.set s (.ins cls (putD f fd' fs)))) ⟨s,cls,fs,fd,c,Ω.set s (.ins cls (putD f (.val (.aE Ω.length)) fs)),fd',c',h1,h2,h3,h4,h5,by simp,fU hs,h6,fun k x hk hx => .inl (by rw [iL (bT hk)]at hx;exact hx),h7,h8,rfl,by rw [wZ]⟩
theorem Ki(n:Nat)(rs:List Rn):oF n (.aX (encD rs)):=by
 show fD n ((encD rs).map (·.2));rw [Bt];exact wR fun a ha=>by obtain⟨x,_,rfl⟩:=lV.mp ha;simp only [Cl]
section
variable{Ω:aI}{p keep:Nat}{many tk aD:Int}{rs:List Rn}
theorem QL(fM:List Rn):putD "tally" (.aX (encD fM)) (eK keep many tk rs aD)=eK keep many tk fM aD:=rfl
theorem Ym(l':Int):putD "lost" (.val (.int l')) (eK keep many tk rs aD)=eK keep many tk rs l':=rfl
theorem Yl(m':Int):putD "many" (.val (.int m')) (eK keep many tk rs aD)=eK keep m' tk rs aD:=rfl
theorem Yk(t':Int):putD "taken" (.val (.int t')) (eK keep many tk rs aD)=eK keep many t' rs aD:=rfl
theorem Gb:(eK keep many tk rs aD).lookup ("tally" : Str)=some (.aX (encD rs)):=rfl
theorem Jo{ρ:Ev}(h:Ω[p]? = some (bZ keep many tk rs aD))(h0:(ρ[0]?).join=(aB p)){n:Int}(h1:(ρ[1]?).join=(aA n)):iO (gB ["Often"] "tally" aO) bE cO ρ (jA Ω p "Often" "tally" (eK keep many tk rs aD) (.aX (encD rs)))=aJ (.int (aQ rs n)) (jA Ω p "Often" "tally" (eK keep many tk rs aD) (.aX (encD rs))):=by
 have o:=CA h h0;have q:=Gg (c := .aX (encD rs)) o;have cd:gM (jA Ω p "Often" "tally" (eK keep many tk rs aD) (.aX (encD rs))) (.aE Ω.length)=some (Ω.length,encD rs):=qC (Gh o);unfold iO;rw [bQ q];rw [if_pos ⟨_,_,cd⟩];rw [bQ (x := .int n) (Ω':=jA Ω p "Often" "tally" (eK keep many tk rs aD) (.aX (encD rs))) (by simp [h1])];rw [bQ (x := .int 0) (Ω':=jA Ω p "Often" "tally" (eK keep many tk rs aD) (.aX (encD rs))) (by simp)];simp only [JU,cd,kR,NO]
theorem Mn(h:Ω[p]? = some (bZ keep many tk rs aD))(n:Int):xJ [.aE p,.int n] Ω=aJ (.tup [.int (aQ rs n),.int (aQ rs n+aD)]) Ω:=by
 have h2:(2:Nat)≤sizeLine:=by decide
 show trim Ω (gC (YR [aB p,aA n,none] Ω))=_;have e1:(sV 0 "tally" (dE (iO (gB ["Often"] "tally" aO) bE cO) (gN 2))) [aB p,aA n,none] Ω=iZ [aB p,aA n,aA (aQ rs n)] Ω:=by
  have q:=Gk (i:=0) (f := "tally") (g:=dE (iO (gB ["Often"] "tally" aO) bE cO) (gN 2)) (ρ:=[aB p,aA n,none]) (ρ':=[aB p,aA n,aA (aQ rs n)]) rfl h Gb rfl (fd' := .aX (encD rs)) (c' := .aX (encD rs)) (by
   unfold dE;rw [fR (Jo h rfl rfl)];rfl) rfl (.inl rfl) (fun j d hj=>by
   match j,hj with
   | 0,hj=>exact .inl hj
   | 1,hj=>exact .inl hj
   | 2,hj=>right;simp at hj;subst hj;simp only [Cl]
   | j+3,hj=>simp at hj)
  rw [q,QL,OT h]
 have l:(eK keep many tk rs aD).lookup ("lost" : Str)=some (.val (.int aD)):=rfl;unfold YR;rw [bK e1];simp [h,l,h2]
theorem ak1(h:Ω[p]? = some (bZ keep many tk rs aD))(nd:(rs.map (·.1)).Nodup)(hl:rs.length<1000)(n t:Int):MQ [.aE p,.int n,.int t] Ω=aJ (.aZ) (Ω.set p (bZ keep many tk (bM rs n t) aD)):=by
 show trim Ω (gC (LN [aB p,aA n,aA t] Ω))=_;have hz:rs.length<sizeLine:=by rw [kP];omega
 have o:=CA h (ρ:=[aB p,aA n,aA t]) rfl;have e1:LN [aB p,aA n,aA t] Ω=iZ [aB p,aA n,aA t] (Ω.set p (bZ keep many tk (bM rs n t) aD)):=by
  unfold LN;rw [Gk (ρ':=[aB p,aA n,aA t]) rfl h Gb rfl (fd' := .aX (encD (bM rs n t))) (c' := .aX (encD (bM rs n t))) (by
   have q:=Gg (c := .aX (encD rs)) o;have cd:gM (jA Ω p "Often" "tally" (eK keep many tk rs aD) (.aX (encD rs))) (.aE Ω.length)=some (Ω.length,encD rs):=qC (Gh o);have g:=Jo h (ρ:=[aB p,aA n,aA t]) rfl (n:=n) rfl;have e2:(aC bS (iO (gB ["Often"] "tally" aO) bE cO) cS) [aB p,aA n,aA t] (jA Ω p "Often" "tally" (eK keep many tk rs aD) (.aX (encD rs)))=aJ (.int (aQ rs n+t)) (jA Ω p "Often" "tally" (eK keep many tk rs aD) (.aX (encD rs))):=by
    unfold aC;rw [bQ g];simp
   unfold xY;rw [fR e2,fR q];rw [fR (x := .int n) (Ω':=jA Ω p "Often" "tally" (eK keep many tk rs aD) (.aX (encD rs))) (by simp)];have IX:(encD rs).length<sizeLine:=by simpa [encD]using hz
   simp only [HG,cd,kR,if_pos IX,QM rs n t nd];rw [acZ]) rfl (.inr (Ki _ _)) (fun j d hj => .inl hj)]
  rw [QL]
 rw [e1];simp only [yH];exact xT (by simp)
theorem akY(rs:List Rn)(hl:rs.length<64)(k:Nat)(Ω:aI):FJ [.lst (aM rs),.int k] Ω=aJ (.tup [.lst (aM (dI (cY (taken rs k) rs))),.int (taken rs k)]) Ω:=by
 have h2:(2:Nat)≤sizeLine:=by decide
 have hlen:(aM rs).length=rs.length:=by simp [aM]
 show trim Ω (gC (LA [gP (aM rs),aA k,none] Ω))=_;have e:LA [gP (aM rs),aA k,none] Ω=some (.ret (.tup [.lst (aM (dI (cY (taken rs k) rs))),.int (taken rs k)]),[gP (aM rs),aA k,aA (taken rs k)],Ω):=by
  unfold LA;rw [bK (ρ1:=[gP (aM rs),aA k,aA 0]) (Ω':=Ω) (by simp)];rw [bK (ρ1:=[gP (aM rs),aA k,aA (taken rs k)]) (Ω':=Ω) (by
   by_cases hk:k<rs.length
   ·have nU:(k:Int)<(rs.length:Int):=by omega
    have q:Le [gP (aM rs),aA k,aA 0] Ω=_:=aiV rs (by omega) [gP (aM rs),aA k,aA 0] Ω rfl;have i:=ad4 rs;have a:=Py rs k hk;have d:(sortI (rs.map (·.2))).reverse=desc rs:=rfl;generalize (rs.map fun r=>A.int r.2)=ws at q i;have Hq:(rs.map (·.2)).length<64:=by rw [dN];exact hl
    generalize (rs.map (·.2))=ms at i d Hq;rw [← d]at a;rw [List.map_reverse]at a;simp [hlen,nU,q,i,Hq,a]
   ·have nU:¬(k:Int)<(rs.length:Int):=by omega
    have t0:taken rs k=0:=by unfold taken;rw [if_neg hk]
    simp [hlen,nU,t0])]
  have q2:Ld [gP (aM rs),aA k,aA (taken rs k)] Ω=_:=aiU rs (by omega) (taken rs k) (aA k) Ω;generalize taken rs k=t at q2;have hz:(cY t rs).length<64:=by have:=ag6 t rs;omega
  have ht:=GR (cY t rs);have hs:=XD (cY t rs);generalize cY t rs=fs at q2 hz ht hs;have Gx:(fs.map iF).length<64:=by rw [dN];exact hz
  generalize fs.map iF=ts at ht hs Gx;simp [q2,ht,Gx,hs,jS,h2]
 rw [e];simp
theorem akX(h:Ω[p]? = some (bZ keep many tk rs aD))(nd:(rs.map (·.1)).Nodup)(hl:rs.length<64):MP [.aE p] Ω=aJ (.aZ) (Ω.set p (bZ keep many tk (kD keep rs) (aD+taken rs keep))):=by
 show trim Ω (gC (ER [aB p,none] Ω))=_;have hp:p<Ω.length:=(cL.mp h).1;have lk:(eK keep many tk rs aD).lookup ("keep" : Str)=some (.val (.int keep)):=rfl;have hlen:(encD rs).length=rs.length:=by simp [encD]
 have kp:∀x1:Option A,(gB ["Often"] "keep" aO) [aB p,x1] Ω=aJ (.int keep) Ω:=fun x1=>by simp [h,lk]
 have o:∀x1:Option A,tF ["Often"] 0 "tally" [aB p,x1] Ω=some (p,("Often" : Str),eK keep many tk rs aD,Fd.aX (encD rs)):=fun x1=>CA h (ρ:=[aB p,x1]) rfl
 suffices hs:∃ρ,ER [aB p,none] Ω=iZ ρ (Ω.set p (bZ keep many tk (kD keep rs) (aD+taken rs keep)))by
  obtain⟨ρ,e⟩:=hs;rw [e];simp only [yH];exact xT (by simp)
 have ht:(bB (aC nB (iV ["Often"] 0 "tally" fun kvs=>ret (.int kvs.length)) (gB ["Often"] "keep" aO))) [aB p,none] Ω=aJ (decide ((keep:Int)<(rs.length:Int))) Ω:=by
  have e1:(iV ["Often"] 0 "tally" fun kvs=>ret (.int kvs.length)) [aB p,none] Ω=aJ (.int rs.length) Ω:=by
   unfold iV;rw [o];simp [hlen]
  unfold bB aC;rw [bQ (x := .bl (decide ((keep:Int)<(rs.length:Int)))) (Ω':=Ω) (by rw [bQ e1,bQ (kp _)];simp)];simp
 by_cases hk:keep<rs.length
 ·have nU:(keep:Int)<(rs.length:Int):=by omega
  have nx:kD keep rs=dI (cY (taken rs keep) rs):=by unfold kD;rw [if_pos hk]
  have c:=akY rs hl keep Ω;have mV:((dI (cY (taken rs keep) rs)).map (·.1)).Nodup:=((pK _).map (·.1)).nodup_iff.mpr (JY _ rs nd);rw [nx];generalize dI (cY (taken rs keep) rs)=S at c mV;generalize taken rs keep=t at c;refine⟨[aB p,some (.tup [.lst (aM S),.int t])],?_⟩;unfold ER dD;rw [fR ht];simp only [nU,decide_true,kT];have e1:(aU (dJ 2 FJ) (aG (iV ["Often"] 0 "tally" fun kvs=>jS false (kvs.map kS)) (aG (gB ["Often"] "keep" aO) a0))) [aB p,none] Ω=aJ (.tup [.lst (aM S),.int t]) Ω:=by
   have e2:(iV ["Often"] 0 "tally" fun kvs=>jS false (kvs.map kS)) [aB p,none] Ω=aJ (.lst (aM rs)) Ω:=by
    unfold iV;rw [o];simp [SU]
   have e3:(aG (iV ["Often"] 0 "tally" fun kvs=>jS false (kvs.map kS)) (aG (gB ["Often"] "keep" aO) a0)) [aB p,none] Ω=aJ [.lst (aM rs),.int keep] Ω:=by
    unfold aG;rw [bQ e2,bQ (x:=[A.int keep]) (Ω':=Ω) (by rw [bQ (kp _)];simp)];simp
   unfold aU;rw [bQ e3];simp [dJ,c]
  rw [bK (ρ1:=[aB p,some (.tup [.lst (aM S),.int t])]) (Ω':=Ω) (by unfold dE;rw [fR e1];rfl)];have e4:(sX ["Often"] 0 "tally" (aU rU (aG (aC eI bE cO) a0))) [aB p,some (.tup [.lst (aM S),.int t])] Ω=iZ [aB p,some (.tup [.lst (aM S),.int t])] (Ω.set p (bZ keep many tk S aD)):=by
   have e5:(aU rU (aG (aC eI bE cO) a0)) [aB p,some (.tup [.lst (aM S),.int t])] Ω=aJ (.aE Ω.length) (Ω++[.aX (encD S)]):=by
    have e6:(aG (aC eI bE cO) a0) [aB p,some (.tup [.lst (aM S),.int t])] Ω=aJ [.lst (aM S)] Ω:=by simp
    unfold aU;rw [bQ e6];simp only [rU,acV,ZG,QR,if_pos (keys_nodup S mV)]
   have ob:uZ ["Often"] 0 [aB p,some (.tup [.lst (aM S),.int t])] Ω=some (p,("Often" : Str),eK keep many tk rs aD):=by
    unfold uZ;simp [h]
   unfold sX;rw [ob];simp only [e5,vZ,Fd.yI];rw [if_pos ⟨rfl,rfl,by simp,Ki _ _⟩,QL]
  rw [bK e4];have h2:(Ω.set p (bZ keep many tk S aD))[p]? = some (bZ keep many tk S aD):=fU hp;have ll:(eK keep many tk S aD).lookup ("lost" : Str)=some (.val (.int aD)):=rfl;have e7:(aC bS (gB ["Often"] "lost" aO) (aC eI bE bL)) [aB p,some (.tup [.lst (aM S),.int t])] (Ω.set p (bZ keep many tk S aD))=aJ (.int (aD+t)) (Ω.set p (bZ keep many tk S aD)):=by
   simp [h2,ll]
  unfold lZ;rw [fR e7];rw [fR (x:=A.aE p) (Ω':=Ω.set p (bZ keep many tk S aD)) (by simp)];simp only [h2];rw [if_pos ⟨by simp,by simp⟩,Ym,wZ]
 ·have nU:¬(keep:Int)<(rs.length:Int):=by omega
  have nx:kD keep rs=rs:=by unfold kD;rw [if_neg hk]
  refine⟨[aB p,none],?_⟩;rw [nx,Cn rs keep hk,Int.add_zero,OT h];unfold ER dD;rw [fR ht];simp [nU]
end
section
variable{Ω Ω':aI}{p keep:Nat}{many tk aD:Int}{rs:List Rn}
theorem yD{s:Nat}{ρ:Ev}{fs:List (Str×Fd)}{f:Str}{fv:Ev→Mo A}{b:A}(h0:(ρ[0]?).join=(aB s))(h:Ω[s]? = some (.ins "Often" fs))(hl:fs.length<1000)(hv:fv ρ Ω=aJ b Ω):lZ ["Often"] f aO fv ρ Ω=iZ ρ (Ω.set s (.ins "Often" (putD f (.val b) fs))):=by
 unfold lZ;rw [fR hv];rw [fR (x:=A.aE s) (Ω':=Ω) (by simp [h0])];simp only [h];rw [if_pos ⟨by simp,hl⟩]
theorem rV{f:Ev→Mo A}{ρ:Ev}{a:A}(h:f ρ Ω=aJ a Ω'):mB f ρ Ω=iZ ρ Ω':=by
 unfold mB;rw [fR h]
theorem OU{c:Cell}(hp:p<Ω.length):(Ω.set p c)[p]? = some c:=fU hp
theorem akN(h:Ω[p]? = some (bZ keep many tk rs aD))(nd:(rs.map (·.1)).Nodup)(hl:rs.length<63)(n t:Int):MN [.aE p,.int n,.int t] Ω=aJ (.aZ) (Ω.set p (bZ keep many tk (kD keep (bM rs n t)) (aD+taken (bM rs n t) keep))):=by
 have hp:p<Ω.length:=(cL.mp h).1;have q1:=ak1 h nd (by omega) n t;have h1:(Ω.set p (bZ keep many tk (bM rs n t) aD))[p]? = some (bZ keep many tk (bM rs n t) aD):=OU hp;have q2:=akX h1 (IE rs n t nd) (by have:=IL rs n t;omega);show trim Ω (gC (YM [aB p,aA n,aA t] Ω))=_;unfold YM;rw [bK (rV (gQ h (by rfl) (by rfl) (as:=[.int n,.int t]) (das:=[]) (by simp) (by rfl) (by simpa using q1)))];rw [rV (gQ h1 (by rfl) (by rfl) (as:=[]) (das:=[]) (by simp) (by rfl) (by simpa using q2))];simp only [yH,wZ];exact xT (by simp)
theorem akU(h:Ω[p]? = some (bZ keep many tk rs aD))(t:Int)(hm:many+t≤1000000000):MM [.aE p,.int t] Ω=aJ (.aZ) Ω:=by
 have l:(eK keep many tk rs aD).lookup ("many" : Str)=some (.val (.int many)):=rfl;have hm':¬1000000000<many+t:=by omega
 show trim Ω (gC (YJ [aB p,aA t] Ω))=_;simp [YJ,h,l,hm']
theorem akP(h:Ω[p]? = some (bZ keep many tk rs aD))(nd:(rs.map (·.1)).Nodup)(hl:rs.length<63)(n t:Int)(ht:1≤t)(hm:many+t≤1000000000) :
  qM [.aE p,.int n,.int t] Ω=aJ (.aZ) (Ω.set p (bZ keep (many+t) (tk+1) (kD keep (bM rs n t)) (aD+taken (bM rs n t) keep))):=by
 have hp:p<Ω.length:=(cL.mp h).1;have q1:=akU h t hm;have q2:=akN h nd hl n t;generalize kD keep (bM rs n t)=xZ at q2;generalize aD+taken (bM rs n t) keep=l2 at q2;have h2:(Ω.set p (bZ keep many tk xZ l2))[p]? = some (bZ keep many tk xZ l2):=OU hp;have ht':¬t<1:=by omega
 show trim Ω (gC (LI [aB p,aA n,aA t] Ω))=_;unfold LI;rw [bK (ρ1:=[aB p,aA n,aA t]) (Ω':=Ω) (by simp [ht'])];rw [bK (rV (gQ h (by rfl) (by rfl) (as:=[.int t]) (das:=[]) (by simp) (by rfl) (by simpa using q1)))];rw [bK (rV (gQ h (by rfl) (by rfl) (as:=[.int n,.int t]) (das:=[]) (by simp) (by rfl) (by simpa using q2)))];have lm:(eK keep many tk xZ l2).lookup ("many" : Str)=some (.val (.int many)):=rfl;rw [bK (yD (b := .int (many+t)) (by rfl) h2 (by simp) (by simp [h2,lm]))];rw [Yl,wZ];have h3:(Ω.set p (bZ keep (many+t) tk xZ l2))[p]? = some (bZ keep (many+t) tk xZ l2):=OU hp;have lt:(eK keep (many+t) tk xZ l2).lookup ("taken" : Str)=some (.val (.int tk)):=rfl;rw [yD (b := .int (tk+1)) (by rfl) h3 (by simp) (by simp [h3,lt])];rw [Yk,wZ];simp only [yH];exact xT (by simp)
theorem akT(keep:Nat)(Ω:aI):DX "Often" 2 AI [.int keep] Ω=aJ (.aE Ω.length) (Ω++[bZ keep 0 0 [] 0]):=by
 have hp:Ω.length<(Ω++[Cell.ins "Often" []]).length:=by simp
 have base:xI [.aE Ω.length,.int keep] (Ω++[.ins "Often" []])=aJ (.aZ) (Ω++[.ins "Often" [("keep",.val (.int keep)),("many",.val (.int 0)),("taken",.val (.int 0))]]):=by
  show trim _ (gC (LK [aB Ω.length,aA keep] (Ω++[.ins "Often" []])))=_;unfold LK;rw [bK (yD (b := .int keep) (by rfl) (vZ _ _) (by simp) (by simp)),xX];rw [bK (yD (b := .int 0) (by rfl) (vZ _ _) (by exact(show(1:Nat)<1000 by decide)) (by simp)),xX];rw [yD (b := .int 0) (by rfl) (vZ _ _) (by exact(show(2:Nat)<1000 by decide)) (by simp),xX];simp only [yH];rw [xT (by simp)];rfl
 have e:AI [.aE Ω.length,.int keep] (Ω++[.ins "Often" []])=aJ (.aZ) (Ω++[bZ keep 0 0 [] 0]):=by
  show trim _ (gC (LO [aB Ω.length,aA keep] (Ω++[.ins "Often" []])))=_;unfold LO;rw [bK (rV (a := .aZ) (Ω':=Ω++[.ins "Often" [("keep",.val (.int keep)),("many",.val (.int 0)),("taken",.val (.int 0))]]) (by simp [dJ,base]))];have e4:(sX ["Often"] 0 "tally" BC) [aB Ω.length,aA keep] (Ω++[.ins "Often" [("keep",.val (.int keep)),("many",.val (.int 0)),("taken",.val (.int 0))]])=iZ [aB Ω.length,aA keep] (Ω++[.ins "Often" [("keep",.val (.int keep)),("many",.val (.int 0)),("taken",.val (.int 0)),("tally",.aX [])]]):=by
   have ob:uZ ["Often"] 0 [aB Ω.length,aA keep] (Ω++[.ins "Often" [("keep",.val (.int keep)),("many",.val (.int 0)),("taken",.val (.int 0))]])=some (Ω.length,("Often" : Str),([("keep",.val (.int keep)),("many",.val (.int 0)),("taken",.val (.int 0))]:List (Str×Fd))):=by
    unfold uZ;simp
   unfold sX;rw [ob];simp only [BC,vZ,Fd.yI];rw [if_pos ⟨rfl,rfl,by simp,by simp [oF,fD]⟩,xX];rfl
  rw [bK e4];rw [yD (b := .int 0) (by rfl) (vZ _ _) (by simp) (by simp),xX];simp only [yH];rw [xT (by simp)];rfl
 unfold DX;rw [if_pos (by rfl)];rw [e]
end
section
variable{Ω Ω' Ba:aI}{ρ:Ev}
theorem QS{f g:Ev→Mo Bool}(h:f ρ Ω=aJ false Ω'):iU f g ρ Ω=g ρ Ω':=by
 unfold iU;rw [bQ h];rfl
theorem ID{f:Ev→Mo Bool}{b:Bool}(h:f ρ Ω=aJ b Ω'):kB f ρ Ω=aJ (!b) Ω':=by
 unfold kB;rw [bQ h];rfl
theorem iX{f:Ev→Mo A}{b:Bool}(h:f ρ Ω=aJ (.bl b) Ω'):bB f ρ Ω=aJ b Ω':=by
 unfold bB;rw [bQ h];rfl
theorem Fl{g:A→A→Mo A}{f1 f2:Ev→Mo A}{a b:A}{Ω3:aI}{c:A}(h1:f1 ρ Ω=aJ a Ω')(h2:f2 ρ Ω'=aJ b Ba)(h3:g a b Ba=aJ c Ω3):aC g f1 f2 ρ Ω=aJ c Ω3:=by
 unfold aC;rw [bQ h1,bQ h2,h3]
theorem fF{g:A→A→Mo A}{f1 f2:Ev→Mo A}{a b c:A}(h1:f1 ρ Ω=aJ a Ω)(h2:f2 ρ Ω=aJ b Ω)(h3:g a b Ω=aJ c Ω):aC g f1 f2 ρ Ω=aJ c Ω:=Fl h1 h2 h3
theorem mX{t:Ev→Mo Bool}{s:MS}(h:t ρ Ω=aJ false Ω'):dD t s eN ρ Ω=iZ ρ Ω':=by
 unfold dD;rw [fR h];rfl
theorem lB{f:Ev→Mo A}{i:Nat}{a:A}(h:f ρ Ω=aJ a Ω'):dE f (gN i) ρ Ω=iZ (ρ.set i (some a)) Ω':=by
 unfold dE;rw [fR h];rfl
theorem bF{i:Nat}{a:A}(h:(ρ[i]?).join=some a):dB i ρ Ω=aJ a Ω:=by simp [h]
theorem ZO(n:Int)(Ω:aI):sI [.int n] Ω=aJ (.bl true) Ω:=by simp [sI,Lg]
end
theorem Vt(rs:List Rn):(dI rs).map (·.1)=sortI (rs.map (·.1)):=by
 refine BK ((pK rs).map (·.1)) ?_;have h:=OL (rs.map iF);rw [← ON,List.pairwise_map]at h;rw [List.pairwise_map];refine h.imp fun{a b} q=>?_;simp only [iF,KS.bV]at q;split at q
 ·rename_i e;omega
 ·simp only [decide_eq_false_iff_not]at q;omega
theorem BY(L:List Int):bX 8 (.lst (L.map A.int))=true:=by simp [bX]
theorem Xl{Ω:aI}{k:Nat}{L:List Int}(h:Ω[k]? = some (.lst (L.map A.int))):res Ω 6 (.aE k)=some (.lst (L.map A.int)):=by
 have hp:(L.map A.int).all (bX 8)=true:=by simp [bX]
 rw [Ec h,QY _ hp];rfl
theorem ac3(q:Ev→Mo A)(hq:q=kN false 2 [] (iD cR) (rS 2 (kX (gN 0) (kX (gN 1) tS))) sO aO)(S:List Rn)(hl:S.length≤1000)(ρ:Ev)(Ω:aI)(k:Nat)(h0:(ρ[3]?).join=(aB k))(g:Ω[k]? = some (.lst (aM S))):q ρ Ω=aJ (.lst ((S.map (·.1)).map A.int)) Ω:=by
 have gi:cX Ω (.aE k)=some (aM S):=rE g;have hk:k<Ω.length:=(cL.mp g).1;have eF:(aM S).filterMap (fun a=>match a with | .tup [x,_]=>some x | _=>none)=(S.map (·.1)).map A.int:=by
  simp only [aM,Mq,sE];rw [← Mr];rfl
 rw [← eF,hq];refine xQ (S:=srcOf (.aE k) (aM S)) _ (fun ρ=>∃u v,ρ=[u,v]) (by simp [h0,gi]) (fun ys=>by
  show gY (Ω++[.lst ys]) (.aE k)=some (aM S);exact rE (by rw [fV hk];exact g)) ⟨none,none,rfl⟩ (by simp [aM];omega) ?_ (by
  show fD _ (List.filterMap _ (aM S));rw [eF];exact wR fun a h=>by obtain⟨r,_,rfl⟩:=lV.mp h;simp only [Cl])
 rintro x hx ρ ⟨u,v,rfl⟩ ys;obtain⟨r,_,rfl⟩:=lV.mp hx;exact⟨[aA r.1,aA r.2],⟨_,_,rfl⟩,by simp [eU],.inl ⟨_,rfl,rfl,by simp [eU]⟩⟩
theorem ac1(q:Ev→Mo A)(hq:q=kN false 2 [] (iD cR) (rS 2 (kX (gN 0) (kX (gN 1) tS))) sO bE)(S:List Rn)(hl:S.length≤1000)(ρ:Ev)(Ω:aI)(k:Nat)(h0:(ρ[3]?).join=(aB k))(g:Ω[k]? = some (.lst (aM S))):q ρ Ω=aJ (.lst ((S.map (·.2)).map A.int)) Ω:=by
 have gi:cX Ω (.aE k)=some (aM S):=rE g;have hk:k<Ω.length:=(cL.mp g).1;have eF:(aM S).filterMap (fun a=>match a with | .tup [_,x]=>some x | _=>none)=(S.map (·.2)).map A.int:=by
  simp only [aM,Mq,sE];rw [← Mr];rfl
 rw [← eF,hq];refine xQ (S:=srcOf (.aE k) (aM S)) _ (fun ρ=>∃u v,ρ=[u,v]) (by simp [h0,gi]) (fun ys=>by
  show gY (Ω++[.lst ys]) (.aE k)=some (aM S);exact rE (by rw [fV hk];exact g)) ⟨none,none,rfl⟩ (by simp [aM];omega) ?_ (by
  show fD _ (List.filterMap _ (aM S));rw [eF];exact wR fun a h=>by obtain⟨r,_,rfl⟩:=lV.mp h;simp only [Cl])
 rintro x hx ρ ⟨u,v,rfl⟩ ys;obtain⟨r,_,rfl⟩:=lV.mp hx;exact⟨[aA r.1,aA r.2],⟨_,_,rfl⟩,by simp [eU],.inl ⟨_,rfl,rfl,by simp [eU]⟩⟩
theorem Kd(ok:aI→Prop)(Ω:aI)(aH:ok Ω)(x0 x1 x2 x3 x5 x6:Option A):∀(S:List Rn) (y:Option A),(∀r∈S,1≤r.2)→∃y',dU ok (gN 4) YG (aM S) [x0,x1,x2,x3,y,x5,x6] Ω=iZ [x0,x1,x2,x3,y',x5,x6] Ω
 | [],y,_=>⟨y,by simp [aM,dU,aH]⟩
 | r::S,y,hp=>by
  obtain⟨y',q⟩:=Kd ok Ω aH x0 x1 x2 x3 x5 x6 S (some (eU r)) fun r hr=>hp r (by simp [hr]);refine⟨y',?_⟩;rw [← q];have h1:¬r.2<1:=by have:=hp r (by simp);omega
  refine ED (ρ0:=[x0,x1,x2,x3,some (eU r),x5,x6]) (Ω0:=Ω) aH (by simp) ?_;simp [YG,eU,dJ,ZO,h1]
theorem akZ{Ω:aI}{p keep:Nat}{many tk aD:Int}{rs:List Rn}(h:Ω[p]? = some (bZ keep many tk rs aD))(nd:(rs.map (·.1)).Nodup)(hp:∀r∈rs,1≤r.2)(hl:rs.length<64)(hk:rs.length≤keep)(eY:keep≤1000)(h0:0≤aD)(hs:aD*((keep:Int)+1)+dH rs≤many) :
  Ao [.aE p,.int keep,.int many] Ω=aJ (.aE (Ω.length+2)) (Ω++[.lst (aM (dI rs)),.lst ((sortI (rs.map (·.1))).map A.int),.aX (encD (dI rs))]):=by
 have q1:=Mm h hl;have DF:=Vu rs;have DB:=OM rs;have Hr:=Vt rs;have Hk:∀r∈dI rs,1≤r.2:=fun r hr=>hp r ((pK rs).mem_iff.mp hr);have mV:((dI rs).map (·.1)).Nodup:=((pK rs).map (·.1)).nodup_iff.mpr nd;have Hg:dH (dI rs)=dH rs:=Cz (pK rs);generalize dI rs=S at q1 DF DB Hr Hk mV Hg;have Hi:p<Ω.length:=(cL.mp h).1;have g1:(Ω++[Cell.lst (aM S)])[Ω.length]? = some (.lst (aM S)):=by simp
 have h1:(Ω++[Cell.lst (aM S)])[p]? = some (bZ keep many tk rs aD):=by rw [fV Hi];exact h
 have l1:(Ω++[Cell.lst (aM S)]).length=Ω.length+1:=by simp
 have q2:=LY h1;have q3:=akW h1;have q4:=ZQ h1 nd hl;rw [l1,List.append_assoc,List.singleton_append]at q4;have h2:(Ω++[Cell.lst (aM S),.lst ((sortI (rs.map (·.1))).map A.int)])[p]? = some (bZ keep many tk rs aD):=by rw [fV Hi];exact h
 have q5:=akV h2;have g2:(Ω++[Cell.lst (aM S),.lst ((sortI (rs.map (·.1))).map A.int)])[Ω.length]? = some (.lst (aM S)):=by simp
 have g3:(Ω++[Cell.lst (aM S),.lst ((sortI (rs.map (·.1))).map A.int)])[Ω.length+1]? = some (.lst ((sortI (rs.map (·.1))).map A.int)):=by
  rw [sF (by omega)];simp
 have gi:cX (Ω++[Cell.lst (aM S)]) (.aE Ω.length)=some (aM S):=rE g1;have ty:=Pc g1;have hlen:(aM S).length=rs.length:=by simp [aM,DB]
 have Hd:=GR S;have iP:=XD S;rw [DF]at iP;have IX:(S.map iF).length<64:=by rw [dN];omega
 have n1:gT (.aE Ω.length) (.lst (aM S)) (Ω++[Cell.lst (aM S)])=aJ (.bl false) (Ω++[Cell.lst (aM S)]):=WJ (Xm g1) (uV (Eu S)) (Eu S);generalize S.map iF=us at Hd iP IX;show trim Ω (gC (LG [aB p,aA keep,aA many,none,none,none,none] Ω))=_;obtain⟨y4,lp⟩:=Kd (fun Ω'=>gY Ω' (.aE Ω.length)=some (aM S)) (Ω++[Cell.lst (aM S)]) (by simpa using gi) (aB p) (aA keep) (aA many) (aB Ω.length) none none S none Hk;have tO:¬(keep:Int)<(rs.length:Int):=by omega
 suffices hh:∃ρ',LG [aB p,aA keep,aA many,none,none,none,none] Ω=some (.ret (.aE (Ω.length+2)),ρ',Ω++[.lst (aM S),.lst ((sortI (rs.map (·.1))).map A.int),.aX (encD S)])by
  obtain⟨ρ',e⟩:=hh;rw [e];simp [trim,Cl]
 refine⟨[aB p,aA keep,aA many,aB Ω.length,y4,gP ((S.map (·.1)).map A.int),aA aD],?_⟩;unfold LG;rw [bK (lB (gQ h (by rfl) (by rfl) (as:=[]) (das:=[]) (by simp) (by rfl) (by simpa using q1)))];simp only [lT,lS];rw [bK (ρ1:=[aB p,aA keep,aA many,aB Ω.length,none,none,none]) (Ω':=Ω++[Cell.lst (aM S)]) (by simp [ty,gi,Hd,IX,iP,n1,hlen,tO])];rw [bK (ρ1:=[aB p,aA keep,aA many,aB Ω.length,y4,none,none]) (Ω':=Ω++[Cell.lst (aM S)]) (by
  rw [JX (S:=srcOf (.aE Ω.length) (aM S)) (Ω':=Ω++[Cell.lst (aM S)]) (by simp [gi])];exact lp)]
 rw [bK (lB (ac3 Li rfl S (by omega) _ _ Ω.length rfl g1))];simp only [lT,lS];rw [bK (lB (gQ h1 (by rfl) (by rfl) (as:=[]) (das:=[]) (by simp) (by rfl) (by simpa using q2)))];simp only [lT,lS];have t1:(iU (bB (aC gT (BA eM) (aU kF (aG eM a0)))) (iU (kB (bB (aU (dJ 1 sI) (aG fY a0)))) (bB (aC zB fY cO)))) [aB p,aA keep,aA many,aB Ω.length,y4,gP ((S.map (·.1)).map A.int),aA aD] (Ω++[Cell.lst (aM S)])=aJ false (Ω++[Cell.lst (aM S)]):=by
  have e1:BA eM [aB p,aA keep,aA many,aB Ω.length,y4,gP ((S.map (·.1)).map A.int),aA aD] (Ω++[Cell.lst (aM S)])=aJ (.int rs.length) (Ω++[Cell.lst (aM S)]):=by
   unfold BA;rw [bQ (bF (a := .lst ((S.map (·.1)).map A.int)) rfl)];have e3:(cX (Ω++[Cell.lst (aM S)]) (.lst ((S.map (·.1)).map A.int))).bind intsOf=some (S.map (·.1)):=by
    show intsOf ((S.map (·.1)).map A.int)=_;exact vJ _
   simp only [e3,Jz mV];rw [if_pos (by simp;omega)];simp [DB]
  rw [QS (iX (b:=false) (fF e1 (b := .int rs.length) (by simp [DB]) (by simp)))];have h00:¬aD<0:=by omega
  simp [dJ,ZO,h00]
 rw [bK (mX t1)];have t2:(bB (aC nB (aC bS (aC (nW) fY (aC bS bE bL)) (aU rT (aG LF a0))) cS)) [aB p,aA keep,aA many,aB Ω.length,y4,gP ((S.map (·.1)).map A.int),aA aD] (Ω++[Cell.lst (aM S)])=aJ false (Ω++[Cell.lst (aM S)]):=by
  have c1:kK aD ((keep:Int)+1):=XQ (by omega) (by omega);have e2:=ac1 LF rfl S (by omega) [aB p,aA keep,aA many,aB Ω.length,y4,gP ((S.map (·.1)).map A.int),aA aD] (Ω++[Cell.lst (aM S)]) Ω.length rfl g1;have e3:(aU rT (aG LF a0)) [aB p,aA keep,aA many,aB Ω.length,y4,gP ((S.map (·.1)).map A.int),aA aD] (Ω++[Cell.lst (aM S)])=aJ (.int (dH rs)) (Ω++[Cell.lst (aM S)]):=by
   unfold aU;rw [bQ (x:=[A.lst ((S.map (·.2)).map A.int)]) (Ω':=Ω++[Cell.lst (aM S)]) (by unfold aG;rw [bQ e2];simp)];have e4:(cX (Ω++[Cell.lst (aM S)]) (.lst ((S.map (·.2)).map A.int))).bind intsOf=some (S.map (·.2)):=by
    show intsOf ((S.map (·.2)).map A.int)=_;exact vJ _
   simp only [rT,e4,OI,Hg]
  have hJ:¬many<aD*((keep:Int)+1)+dH rs:=by omega
  generalize hx:aD*((keep:Int)+1)=x at hJ;refine iX (fF (a := .int (x+dH rs)) (b := .int many) (fF (a := .int x) (b := .int (dH rs)) ?_ e3 (by simp)) (by simp) (by simp [hJ]));refine fF (a := .int aD) (b := .int ((keep:Int)+1)) (by simp) (by simp) ?_;simp [gI,c1,hx]
 rw [bK (mX t2)];have t3:(iU (bB (aC gT (cG "held" [("Often",cE 1 [] FR)] aO a0) (aU kF (aG cR a0)))) (iU (bB (aC gT (cG "numbers" [("Often",cE 1 [] xH)] aO a0) eM)) (bB (aC gT (cG "length" [("Often",cE 1 [] FQ)] aO a0) cS)))) [aB p,aA keep,aA many,aB Ω.length,y4,gP ((S.map (·.1)).map A.int),aA aD] (Ω++[Cell.lst (aM S)])=aJ false (Ω++[Cell.lst (aM S),.lst ((sortI (rs.map (·.1))).map A.int)]):=by
  rw [QS (iX (b:=false) (fF (gQ h1 (by rfl) (by rfl) (as:=[]) (das:=[]) (by simp) (by rfl) (by simpa using q3)) (b := .int rs.length) (by simp [gi,hlen]) (by simp)))];have n2:gT (.aE (Ω.length+1)) (.lst ((S.map (·.1)).map A.int)) (Ω++[Cell.lst (aM S),.lst ((sortI (rs.map (·.1))).map A.int)])=aJ (.bl false) (Ω++[Cell.lst (aM S),.lst ((sortI (rs.map (·.1))).map A.int)]):=by
   rw [Hr];exact WJ (Xl g3) (uV (BY _)) (BY _)
  rw [QS (iX (b:=false) (Fl (gQ h1 (by rfl) (by rfl) (as:=[]) (das:=[]) (by simp) (by rfl) (by simpa using q4)) (bF (a := .lst ((S.map (·.1)).map A.int)) rfl) n2))];exact iX (fF (gQ h2 (by rfl) (by rfl) (as:=[]) (das:=[]) (by simp) (by rfl) (by simpa using q5)) (bF (a := .int many) rfl) (by simp))
 rw [bK (mX t3)];have e9:(aU rU (aG cR a0)) [aB p,aA keep,aA many,aB Ω.length,y4,gP ((S.map (·.1)).map A.int),aA aD] (Ω++[Cell.lst (aM S),.lst ((sortI (rs.map (·.1))).map A.int)])=aJ (.aE (Ω.length+2)) (Ω++[.lst (aM S),.lst ((sortI (rs.map (·.1))).map A.int),.aX (encD S)]):=by
  unfold aU;rw [bQ (x:=[A.aE Ω.length]) (Ω':=Ω++[Cell.lst (aM S),.lst ((sortI (rs.map (·.1))).map A.int)]) (by simp)];simp only [rU,rE g2,ZG,QR,if_pos (keys_nodup S mV)];simp
 unfold cJ;rw [fR e9]
section
variable{Ω:aI}{ρ:Ev}
theorem KC{i j k:Nat}{rs:List Rn}{n:Int}(h0:(ρ[i]?).join=(aB k))(h:Ω[k]? = some (.aX (encD rs)))(h1:(ρ[j]?).join=(aA n)):iO (dB i) (dB j) cO ρ Ω=aJ (.int (aQ rs n)) Ω:=by
 have cd:gM Ω (.aE k)=some (k,encD rs):=qC h;unfold iO;rw [bQ (bF h0)];rw [if_pos ⟨_,_,cd⟩];rw [bQ (bF h1)];rw [bQ (x := .int 0) (Ω':=Ω) (by simp)];simp only [JU,cd,kR,NO]
theorem bJ{f:Ev→Mo A}{fs:Ev→Mo (List A)}{a:A}{as:List A}(h:f ρ Ω=aJ a Ω)(hs:fs ρ Ω=aJ as Ω):aG f fs ρ Ω=aJ (a::as) Ω:=by
 unfold aG;rw [bQ h,bQ hs];rfl
theorem gD:a0 ρ Ω=aJ [] Ω:=rfl
theorem Vw{a b:List Int}(h:a.Perm b):sortI a=sortI b:=BK ((sortI_perm a).trans h) (OO a)
theorem ak0{p keep kd q:Nat}{many tk aD:Int}{rs S ws:List Rn}(h:Ω[p]? = some (bZ keep many tk rs aD))(hS:Ω[kd]? = some (.aX (encD S)))(hw:Ω[q]? = some (.aX (encD ws)))(n:Int)
  (e1:aQ S n=aQ rs n) (e2:aQ rs n≤aQ ws n) (e3:aQ ws n≤aQ rs n+aD) (e4:aQ rs n+aD≤many):FN [.aE p,.aE kd,.aE q,.int n,.int many] Ω=aJ (.bl true) Ω:=by
 have h2:(2:Nat)≤sizeLine:=by decide
 have q1:=Mn h n;have q2:=LY h;have g1:∀x5 x6:Option A,iO bE cR cO [aB p,aB kd,aB q,aA n,aA many,x5,x6] Ω=aJ (.int (aQ rs n)) Ω:=fun x5 x6=>by
  rw [KC (k:=kd) (rs:=S) (n:=n) rfl hS rfl,e1]
 have g2:∀x5 x6:Option A,iO cS cR cO [aB p,aB kd,aB q,aA n,aA many,x5,x6] Ω=aJ (.int (aQ ws n)) Ω:=fun x5 x6=>KC rfl hw rfl;generalize aQ rs n=low at q1 g1 e2 e3 e4;generalize aQ ws n=here at g2 e2 e3;show trim Ω (gC (LH [aB p,aB kd,aB q,aA n,aA many,none,none] Ω))=_
 suffices hh:∃ρ',LH [aB p,aB kd,aB q,aA n,aA many,none,none] Ω=some (.ret (.bl true),ρ',Ω)by
  obtain⟨ρ',e⟩:=hh;rw [e];simp
 refine⟨[aB p,aB kd,aB q,aA n,aA many,some (.tup [.int low,.int (low+aD)]),aA low],?_⟩;unfold LH;rw [bK (lB (gQ h (by rfl) (by rfl) (as:=[.int n]) (das:=[]) (by simp) (by rfl) (by simpa using q1)))];simp only [lT,lS];rw [bK (ρ1:=[aB p,aB kd,aB q,aA n,aA many,some (.tup [.int low,.int (low+aD)]),none]) (Ω':=Ω) (by simp [dJ,ZO])];rw [bK (lB (g1 _ _))];simp only [lT,lS];have t1:(bB (aC gT eM (pG (aG fY (aG (aU lM (aG gH (aG (aC bS fY (cG "off" [("Often",cE 1 [] lX)] aO a0)) a0))) a0))))) [aB p,aB kd,aB q,aA n,aA many,some (.tup [.int low,.int (low+aD)]),aA low] Ω=aJ false Ω:=by
  have m1:(cG "off" [("Often",cE 1 [] lX)] aO a0) [aB p,aB kd,aB q,aA n,aA many,some (.tup [.int low,.int (low+aD)]),aA low] Ω=aJ (.int aD) Ω:=gQ h (by rfl) (by rfl) (as:=[]) (das:=[]) (by simp) (by rfl) (by simpa using q2);have m2:(aU lM (aG gH (aG (aC bS fY (cG "off" [("Often",cE 1 [] lX)] aO a0)) a0))) [aB p,aB kd,aB q,aA n,aA many,some (.tup [.int low,.int (low+aD)]),aA low] Ω=aJ (.int (low+aD)) Ω:=by
   have m3:(aC bS fY (cG "off" [("Often",cE 1 [] lX)] aO a0)) [aB p,aB kd,aB q,aA n,aA many,some (.tup [.int low,.int (low+aD)]),aA low] Ω=aJ (.int (low+aD)) Ω:=fF (bF (a := .int low) rfl) m1 (by simp);unfold aU;rw [bQ (bJ (bF (a := .int many) rfl) (bJ m3 gD))];simp only [lM,Eb];rw [Int.min_eq_right e4]
  have m4:(pG (aG fY (aG (aU lM (aG gH (aG (aC bS fY (cG "off" [("Often",cE 1 [] lX)] aO a0)) a0))) a0))) [aB p,aB kd,aB q,aA n,aA many,some (.tup [.int low,.int (low+aD)]),aA low] Ω=aJ (.tup [.int low,.int (low+aD)]) Ω:=by
   unfold pG;rw [bQ (bJ (bF (a := .int low) rfl) (bJ m2 gD))];simp [h2]
  exact iX (fF (bF (a := .tup [.int low,.int (low+aD)]) rfl) m4 (Iw (by simp [bX])))
 rw [bK (mX t1)];unfold cJ;have c1:(BD DY DY (aC eI eM cO) (iO cS cR cO) (aC eI eM bL)) [aB p,aB kd,aB q,aA n,aA many,some (.tup [.int low,.int (low+aD)]),aA low] Ω=aJ (.bl true) Ω:=by
  unfold BD;rw [bQ (x := .int low) (Ω':=Ω) (by simp),bQ (g2 _ _)];simp [e2,e3]
 rw [fR c1]
theorem WU(p:Int→Bool)(F:A→Option A)(hF:∀n,F (.int n)=if p n=true then(aA n)else none):∀L:List Int,(L.map A.int).filterMap F=(L.filter p).map A.int
 | []=>rfl
 | n::L=>by
  have ih:=WU p F hF L;rw [cF,Af,hF n]
  by_cases h:p n=true
  ·rw [if_pos h,List.filter_cons_of_pos h];simp only [ih,cF]
  ·rw [if_neg h,List.filter_cons_of_neg h];simp only [ih]
theorem XS(n:Nat)(L:List Int):fD n (L.map A.int):=wR fun a h=>by obtain⟨r,_,rfl⟩:=lV.mp h;simp only [Cl]
theorem akR{p keep:Nat}{many tk aD:Int}{rs:List Rn}(h:Ω[p]? = some (bZ keep many tk rs aD))(nd:(rs.map (·.1)).Nodup)(hl:rs.length<64)(least:Int) :
  MO [.aE p,.int least] Ω=aJ (.lst (((sortI (rs.map (·.1))).filter fun n=>decide (least≤aQ rs n+aD)).map A.int)) Ω:=by
 have hp:p<Ω.length:=(cL.mp h).1;have q1:=ZQ h nd hl;generalize hL:sortI (rs.map (·.1))=L at q1;have hLl:L.length<64:=by rw [← hL,xW,dN];exact hl
 show trim Ω (gC (LL [aB p,aA least] Ω))=_;have eF:=WU (fun n=>decide (least≤aQ rs n+aD)) (fun a=>match a with | .int n=>if decide (least≤aQ rs n+aD)=true then(aA n)else none | _=>none) (fun n=>rfl) L;have e:YN [aB p,aA least] Ω=aJ (.lst ((L.filter fun n=>decide (least≤aQ rs n+aD)).map A.int)) (Ω++[.lst (L.map A.int)]):=by
  rw [← eF];unfold YN;have g:(Ω++[Cell.lst (L.map A.int)])[Ω.length]? = some (.lst (L.map A.int)):=by simp
  refine xQ (S:=srcOf (.aE Ω.length) (L.map A.int)) (Ω0:=Ω++[.lst (L.map A.int)]) _ (fun ρ=>∃u,ρ=[u,aB p,aA least]) ?_ (fun ys=>?_) ?_ (by simp;omega) ?_ ?_
  ·unfold iD;rw [bQ (gQ h (by rfl) (by rfl) (as:=[]) (das:=[]) (by simp) (by rfl) (by simpa using q1))];simp [rE g]
  ·show gY (Ω++[.lst (L.map A.int)]++[.lst ys]) (.aE Ω.length)=some (L.map A.int);exact rE (by rw [fV (by simp)];exact g)
  ·exact⟨none,rfl⟩
  ·rintro x hx ρ ⟨u,rfl⟩ ys;obtain⟨n,_,rfl⟩:=lV.mp hx;have h2:(Ω++[Cell.lst (L.map A.int)]++[.lst ys])[p]? = some (bZ keep many tk rs aD):=by
    rw [fV (by simp;omega),fV hp];exact h
   have q2:=Mn h2 n;generalize Ω++[Cell.lst (L.map A.int)]++[.lst ys]=Ω2 at h2 q2;have m1:(cG "counted" [("Often",cE 2 [] xJ)] bE (aG aO a0)) [aA n,aB p,aA least] Ω2=aJ (.tup [.int (aQ rs n),.int (aQ rs n+aD)]) Ω2:=gQ h2 (by rfl) (by rfl) (as:=[.int n]) (das:=[]) (by simp) (by rfl) (by simpa using q2);have m2:(bB (aC zD (aC eI (cG "counted" [("Often",cE 2 [] xJ)] bE (aG aO a0)) bL) cS)) [aA n,aB p,aA least] Ω2=aJ (decide (least≤aQ rs n+aD)) Ω2 :=
    iX (fF (fF m1 (b := .int 1) (by simp) (c := .int (aQ rs n+aD)) (by simp)) (bF (a := .int least) rfl) (by simp))
   refine⟨[aA n,aB p,aA least],⟨_,rfl⟩,by simp,?_⟩
   by_cases hc:least≤aQ rs n+aD
   ·exact .inl ⟨.int n,by simp [hc],by rw [m2];simp [hc],by simp⟩
   ·exact .inr ⟨by simp [hc],by rw [m2];simp [hc]⟩
  ·show fD _ (List.filterMap _ (L.map A.int));rw [eF];exact XS _ _
 have e2:LL [aB p,aA least] Ω=some (.ret (.lst ((L.filter fun n=>decide (least≤aQ rs n+aD)).map A.int)),[aB p,aA least],Ω++[.lst (L.map A.int)]):=by
  unfold LL cJ;rw [fR e]
 rw [e2];simp only [CB];exact NX (by simp only [Cl];exact XS _ _)
theorem agX(n:Int)(L:List Int):zA true (.int n) (.lst (L.map A.int)) Ω=aJ (.bl (!decide (n∈L))) Ω:=by
 have r1:res Ω 6 (.int n)=(aA n):=uV (by simp [bX]);have r2:res Ω 6 (.lst (L.map A.int))=some (.lst (L.map A.int)):=uV (BY L);have p1:bX 7 (.int n)=true:=by simp [bX]
 have ea:((L.map A.int).any fun d=>eT 7 d (.int n))=decide (n∈L):=by
  rw [List.any_map];have e0:∀m:Int,((fun d=>eT 7 d (.int n)) ∘ A.int) m=decide (m=n):=fun m=>by
   simp only [Function.comp,eT]
   by_cases Hm:m=n
   ·simp [Hm]
   ·simp [Hm]
  rw [show((fun d=>eT 7 d (.int n)) ∘ A.int)=fun m=>decide (m=n)from funext e0];clear r2
  induction L with
  | nil=>rfl
  | cons m L ih =>
   rw [ME,ih]
   by_cases hm:m=n
   ·simp [hm]
   ·have:¬n=m:=fun z=>hm z.symm;simp [hm,this]
 unfold zA;rw [r1,r2];simp only [p1,BY L,Bool.and_self,kT,ea]
theorem abJ{kd:Nat}{S:List Rn}(hS:Ω[kd]? = some (.aX (encD S)))(hl:S.length<64)(least many aD:Int)(hm:∀n,aQ S n+aD≤many)(x0 x2 x5 x7 x8:Option A) :
  YF [x0,aB kd,x2,aA least,aA many,x5,aA aD,x7,x8] Ω=aJ (.lst (((sortI (S.map (·.1))).filter fun n=>decide (least≤aQ S n+aD)).map A.int)) Ω:=by
 have hk:kd<Ω.length:=(cL.mp hS).1;have cd:gM Ω (.aE kd)=some (kd,encD S):=qC hS;have eF:=WU (fun n=>decide (least≤aQ S n+aD)) (fun a=>match a with | .int n=>if decide (least≤aQ S n+aD)=true then(aA n)else none | _=>none) (fun n=>rfl) (sortI (S.map (·.1)));have vR:∀n∈sortI (S.map (·.1)),n∈S.map (·.1):=fun n hn=>(sortI_perm _).mem_iff.mp hn;rw [← eF];unfold YF;refine xQ (S:=srcOf (.lst ((sortI (S.map (·.1))).map A.int)) ((sortI (S.map (·.1))).map A.int)) (Ω0:=Ω) _ (fun ρ=>∃u,ρ=[u,aB kd,aA least,aA many,aA aD]) ?_ (fun ys=>by simp) ?_ (by simp [xW];omega) ?_ ?_
 ·have k1:(pH false bE) [x0,aB kd,x2,aA least,aA many,x5,aA aD,x7,x8] Ω=aJ (.lst ((S.map (·.1)).map A.int)) Ω:=by
   unfold pH;rw [bQ (bF (a := .aE kd) rfl)];simp only [cd,SR];rfl
  have k2:(aU (DW false) (aG (pH false bE) a0)) [x0,aB kd,x2,aA least,aA many,x5,aA aD,x7,x8] Ω=aJ (.lst ((sortI (S.map (·.1))).map A.int)) Ω:=by
   unfold aU;rw [bQ (x:=[A.lst ((S.map (·.1)).map A.int)]) (Ω':=Ω) (by unfold aG;rw [bQ k1];simp)];have e3:(cX Ω (.lst ((S.map (·.1)).map A.int))).bind intsOf=some (S.map (·.1)):=by
    show intsOf ((S.map (·.1)).map A.int)=_;exact vJ _
   simp only [DW,e3];rw [if_pos (by simpa using hl)];rfl
  unfold iD;rw [bQ k2];simp
 ·exact⟨none,rfl⟩
 ·rintro x hx ρ ⟨u,rfl⟩ ys;obtain⟨n,hn,rfl⟩:=lV.mp hx;have kU:=vR n hn;have h2:(Ω++[Cell.lst ys])[kd]? = some (.aX (encD S)):=by rw [fV hk];exact hS
  generalize Ω++[Cell.lst ys]=Ω2 at h2;have cd2:gM Ω2 (.aE kd)=some (kd,encD S):=qC h2;have d1:(aC tT bE aO) [aA n,aB kd,aA least,aA many,aA aD] Ω2=aJ (.int (aQ S n)) Ω2 :=
   fF (bF (a := .aE kd) rfl) (bF (a := .int n) rfl) (by simp only [tT,cd2,kR,NN,if_pos kU])
  have d2:(aU lM (aG cR (aG (aC bS (aC tT bE aO) gH) a0))) [aA n,aB kd,aA least,aA many,aA aD] Ω2=aJ (.int (aQ S n+aD)) Ω2:=by
   have d3:(aC bS (aC tT bE aO) gH) [aA n,aB kd,aA least,aA many,aA aD] Ω2=aJ (.int (aQ S n+aD)) Ω2:=fF d1 (bF (a := .int aD) rfl) (by simp);unfold aU;rw [bQ (bJ (bF (a := .int many) rfl) (bJ d3 gD))];simp only [lM,Eb];rw [Int.min_eq_right (hm n)]
  have m2:(bB (aC zD (aU lM (aG cR (aG (aC bS (aC tT bE aO) gH) a0))) cS)) [aA n,aB kd,aA least,aA many,aA aD] Ω2=aJ (decide (least≤aQ S n+aD)) Ω2 :=
   iX (fF d2 (bF (a := .int least) rfl) (by simp))
  refine⟨[aA n,aB kd,aA least,aA many,aA aD],⟨_,rfl⟩,by simp,?_⟩
  by_cases hc:least≤aQ S n+aD
  ·exact .inl ⟨.int n,by simp [hc],by rw [m2];simp [hc],by simp⟩
  ·exact .inr ⟨by simp [hc],by rw [m2];simp [hc]⟩
 ·show fD _ (List.filterMap _ ((sortI (S.map (·.1))).map A.int));rw [eF];exact XS _ _
theorem Fm(found:List Int)(least aD:Int)(x0 x1 x2 x4:Option A)(Ω:aI):∀(ws:List Rn) (y z:Option A),(∀r∈ws,least≤r.2→aD<r.2→r.1∈found)→∃y' z',dU (fun _=>True) (rS 2 (kX (gN 7) (kX (gN 8) tS))) LC (aM ws) [x0,x1,x2,aA least,x4,gP (found.map A.int),aA aD,y,z] Ω=iZ [x0,x1,x2,aA least,x4,gP (found.map A.int),aA aD,y',z'] Ω
 | [],y,z,_=>⟨y,z,by simp [aM,dU]⟩
 | r::ws,y,z,hp=>by
  obtain⟨y',z',q⟩:=Fm found least aD x0 x1 x2 x4 Ω ws (aA r.1) (aA r.2) fun r hr=>hp r (by simp [hr]);refine⟨y',z',?_⟩;rw [← q];have h1:=hp r (by simp);refine ED (ρ0:=[x0,x1,x2,aA least,x4,gP (found.map A.int),aA aD,aA r.1,aA r.2]) (Ω0:=Ω) trivial (by simp [eU]) ?_;have gm:=agX (Ω:=Ω) r.1 found;unfold LC;refine mX ?_
  by_cases a1:least≤r.2
  ·by_cases a2:aD<r.2
   ·have a3:=h1 a1 a2;simp [a1,a2,gm,a3]
   ·simp [a1,a2]
  ·simp [a1]
theorem akQ{p keep kd q:Nat}{many tk aD:Int}{rs S ws:List Rn}(h:Ω[p]? = some (bZ keep many tk rs aD))(hS:Ω[kd]? = some (.aX (encD S)))(hw:Ω[q]? = some (.aX (encD ws)))(nd:(rs.map (·.1)).Nodup)(hl:rs.length<64)(vW:S.Perm rs)(hm:∀n,aQ rs n+aD≤many)
  (AU:(ws.map (·.1)).Nodup) (rN:∀n,aQ ws n≤aQ rs n+aD) (least:Int):ML [.aE p,.aE kd,.aE q,.int least,.int many] Ω=aJ (.bl true) Ω:=by
 have q1:=akR h nd hl least;have q2:=LY h;have mV:(S.map (·.1)).Nodup:=(vW.map (·.1)).nodup_iff.mpr nd;have ec:∀n,aQ S n=aQ rs n:=fun n=>XN vW mV n;have q3:=fun x0 x2 x5 x7 x8=>abJ hS (by rw [vW.length_eq];exact hl) least many aD (fun n=>by rw [ec n];exact hm n) x0 x2 x5 x7 x8;have eS:sortI (S.map (·.1))=sortI (rs.map (·.1)):=Vw (vW.map (·.1));have eP:(fun n=>decide (least≤aQ S n+aD))=fun n=>decide (least≤aQ rs n+aD):=funext fun n=>by rw [ec n]
 rw [eS,eP]at q3;have hf:∀r∈ws,least≤r.2→aD<r.2→r.1∈(sortI (rs.map (·.1))).filter fun n=>decide (least≤aQ rs n+aD):=fun r hr a1 a2=>by
  have c1:=KL AU hr;have c2:=rN r.1;refine List.mem_filter.mpr ⟨(sortI_perm _).mem_iff.mpr (Kf (by omega)),?_⟩;simp only [zL];omega
 generalize ((sortI (rs.map (·.1))).filter fun n=>decide (least≤aQ rs n+aD))=found at q1 q3 hf;have hq:q<Ω.length:=(cL.mp hw).1;show trim Ω (gC (LD [aB p,aB kd,aB q,aA least,aA many,none,none,none,none] Ω))=_
 suffices hh:∃ρ',LD [aB p,aB kd,aB q,aA least,aA many,none,none,none,none] Ω=some (.ret (.bl true),ρ',Ω)by
  obtain⟨ρ',e⟩:=hh;rw [e];simp
 obtain⟨y',z',lp⟩:=Fm found least aD (aB p) (aB kd) (aB q) (aA many) (Ω.set q .dead) ws none none hf;refine⟨[aB p,aB kd,aB q,aA least,aA many,gP (found.map A.int),aA aD,y',z'],?_⟩;unfold LD;rw [bK (lB (gQ h (by rfl) (by rfl) (as:=[.int least]) (das:=[]) (by simp) (by rfl) (by simpa using q1)))];simp only [lT,lS];rw [bK (lB (gQ h (by rfl) (by rfl) (as:=[]) (das:=[]) (by simp) (by rfl) (by simpa using q2)))];simp only [lT,lS];rw [bK (mX (iX (fF (bF (a := .lst (found.map A.int)) rfl) (q3 _ _ _ _ _) (Iw (BY _)))))];have e1:(BU 2 (rS 2 (kX (gN 7) (kX (gN 8) tS))) LC) [aB p,aB kd,aB q,aA least,aA many,gP (found.map A.int),aA aD,none,none] Ω=iZ [aB p,aB kd,aB q,aA least,aA many,gP (found.map A.int),aA aD,y',z'] Ω:=by
  have cd:gM Ω (.aE q)=some (q,encD ws):=qC hw;unfold BU;simp only [List.getElem?_cons_succ,List.getElem?_cons_zero,Option.join_some,cd,SU];rw [lp];simp only [OC,fU hq,wZ];rw [OT hw]
 rw [bK e1];simp
end
section
variable{Ω Ω':aI}{ρ:Ev}
theorem Ln{f g:Ev→Mo Bool}(h:f ρ Ω=aJ false Ω'):qV f g ρ Ω=aJ false Ω':=by
 unfold qV;rw [bQ h];rfl
theorem Lm{f g:Ev→Mo Bool}(h:f ρ Ω=aJ true Ω'):qV f g ρ Ω=g ρ Ω':=by
 unfold qV;rw [bQ h];rfl
theorem mE{F:List A→Mo A}{fs:Ev→Mo (List A)}{n:Nat}{as:List A}{a:A}(h:fs ρ Ω=aJ as Ω)(hn:as.length=n)(hF:F as Ω=aJ a Ω'):aU (dJ n F) fs ρ Ω=aJ a Ω':=by
 unfold aU;rw [bQ h];unfold dJ;rw [if_pos hn];exact hF
theorem nX.high{keep:Nat}{rs ws:List Rn}{aD many:Int}(s:nX keep rs aD ws many)(n:Int):aQ rs n+aD≤many:=by
 have h1:=Kg (n:=n) s.pos;have h2:=s.sum;have h3:aD*1≤aD*((keep:Int)+1):=Int.mul_le_mul_of_nonneg_left (by omega) s.lo;omega
theorem nX.kept{keep:Nat}{rs ws:List Rn}{aD many:Int}(s:nX keep rs aD ws many)(n:Int)(h:many<aQ ws n*((keep:Int)+1)):n∈rs.map (·.1):=by
 by_cases hn:n∈rs.map (·.1)
 ·exact hn
 ·exfalso;have h0:=EH hn;have h1:=s.ge n;have h2:=s.sum;have h3:=Dc s.pos;have h4:aQ ws n*((keep:Int)+1)≤aD*((keep:Int)+1):=Int.mul_le_mul_of_nonneg_right (by omega) (by omega);omega
theorem Ck{keep:Nat}{many c:Int}{p q kd:Nat}{S ws:List Rn}(eY:keep≤1000)(hS:Ω[kd]? = some (.aX (encD S)))(hw:Ω[q]? = some (.aX (encD ws)))
  (hc:∀n,FN [.aE p,.aE kd,.aE q,.int n,.int many] Ω=aJ (.bl true) Ω) (kU:∀n,many<aQ ws n*((keep:Int)+1)→n∈S.map (·.1)) (ok:aI→Prop) (aH:ok Ω) (x7:Option A):∀(L:List Int) (y:Option A),
  ∃y',dU ok (gN 6) YE (L.map A.int) [aB p,aA keep,aB q,aA c,aA many,aB kd,y,x7] Ω=iZ [aB p,aA keep,aB q,aA c,aA many,aB kd,y',x7] Ω
 | [],y=>⟨y,by simp [dU,aH]⟩
 | n::L,y=>by
  obtain⟨y',e⟩:=Ck eY hS hw hc kU ok aH x7 L (aA n);refine⟨y',?_⟩;rw [← e];refine ED (ρ0:=[aB p,aA keep,aB q,aA c,aA many,aB kd,aA n,x7]) (Ω0:=Ω) aH (by simp) ?_;unfold YE;have t1:(kB (bB (aU (dJ 5 FN) (aG aO (aG eM (aG cS (aG fY (aG gH a0)))))))) [aB p,aA keep,aB q,aA c,aA many,aB kd,aA n,x7] Ω=aJ false Ω :=
   ID (iX (b:=true) (mE (as:=[.aE p,.aE kd,.aE q,.int n,.int many]) (bJ (bF rfl) (bJ (bF rfl) (bJ (bF rfl) (bJ (bF rfl) (bJ (bF rfl) gD))))) rfl (hc n)))
  rw [bK (mX t1)];refine mX ?_;have g:(iO cS fY cO) [aB p,aA keep,aB q,aA c,aA many,aB kd,aA n,x7] Ω=aJ (.int (aQ ws n)) Ω:=KC rfl hw rfl;have cm:kK (aQ ws n) ((keep:Int)+1):=XQ (by omega) (by omega);have hi:=kU n;generalize hx:aQ ws n*((keep:Int)+1)=x at hi;have t2:(bB (aC nB (aC (nW) (iO cS fY cO) (aC bS bE bL)) gH)) [aB p,aA keep,aB q,aA c,aA many,aB kd,aA n,x7] Ω=aJ (decide (many<x)) Ω:=by
   refine iX (fF (a := .int x) (fF g (b := .int ((keep:Int)+1)) (by simp) ?_) (bF (a := .int many) rfl) (by simp));simp [gI,cm,hx]
  by_cases cP:many<x
  ·rw [Lm (Ω':=Ω) (by rw [t2];simp [cP])];have cd:gM Ω (.aE kd)=some (kd,encD S):=qC hS;refine iX (fF (bF (a := .int n) rfl) (bF (a := .aE kd) rfl) ?_);simp only [zE,cd,kR,NN,if_pos (hi cP)];rfl
  ·exact Ln (by rw [t2];simp [cP])
theorem Cj{many:Int}{p q kd:Nat}(ho:∀n,ML [.aE p,.aE kd,.aE q,.int n,.int many] Ω=aJ (.bl true) Ω)(ok:aI→Prop)(aH:ok Ω)(x1 x3 x6:Option A):∀(L:List Int) (y:Option A),
  ∃y',dU ok (gN 7) YD (L.map A.int) [aB p,x1,aB q,x3,aA many,aB kd,x6,y] Ω=iZ [aB p,x1,aB q,x3,aA many,aB kd,x6,y'] Ω
 | [],y=>⟨y,by simp [dU,aH]⟩
 | n::L,y=>by
  obtain⟨y',e⟩:=Cj ho ok aH x1 x3 x6 L (aA n);refine⟨y',?_⟩;rw [← e];refine ED (ρ0:=[aB p,x1,aB q,x3,aA many,aB kd,x6,aA n]) (Ω0:=Ω) aH (by simp) ?_;unfold YD;exact mX (ID (iX (b:=true) (mE (as:=[.aE p,.aE kd,.aE q,.int n,.int many]) (bJ (bF rfl) (bJ (bF rfl) (bJ (bF rfl) (bJ (bF rfl) (bJ (bF rfl) gD))))) rfl (ho n))))
theorem ZP{p q keep:Nat}{many tk aD:Int}{rs ws:List Rn}(h:Ω[p]? = some (bZ keep many tk rs aD))(hw:Ω[q]? = some (.aX (encD ws)))(s:nX keep rs aD ws many)(hl:rs.length<64)(mY:ws.length≤100000)(eY:keep≤1000)(c:Int) :
  FK [.aE p,.int keep,.aE q,.int c] Ω=aJ (.bl true) Ω:=by
 have hp:p<Ω.length:=(cL.mp h).1;have hq:q<Ω.length:=(cL.mp hw).1;have qc:=akZ h s.nd s.pos hl s.len eY s.lo s.sum;generalize hΔ:[Cell.lst (aM (dI rs)),.lst ((sortI (rs.map (·.1))).map A.int),.aX (encD (dI rs))]=Δ at qc;have h1:(Ω++Δ)[p]? = some (bZ keep many tk rs aD):=by rw [fV hp];exact h
 have IY:(Ω++Δ)[q]? = some (.aX (encD ws)):=by rw [fV hq];exact hw
 have hS:(Ω++Δ)[Ω.length+2]? = some (.aX (encD (dI rs))):=by rw [← hΔ,sF (by omega)];simp
 have mV:((dI rs).map (·.1)).Nodup:=((pK rs).map (·.1)).nodup_iff.mpr s.nd;have hco:=fun n=>ak0 h1 hS IY n (XN (pK rs) mV n) (s.le n) (s.ge n) (s.high n);have hof:=fun n=>akQ h1 hS IY s.nd hl (pK rs) s.high s.AU s.ge n;have kU:∀n,many<aQ ws n*((keep:Int)+1)→n∈(dI rs).map (·.1):=fun n hn=>((pK rs).map (·.1)).mem_iff.mpr (s.kept n hn);have qo:=LY h1;have aR:oG many ((keep:Int)+1):=⟨by omega,by omega⟩;have h2s:(1:Nat)≤sizeLine:=by decide
 have h4s:(4:Nat)≤sizeLine:=by decide
 show trim Ω (gC (LB [aB p,aA keep,aB q,aA c,none,none,none,none] Ω))=_;obtain⟨y1,lp1⟩:=Ck (c:=c) eY hS IY hco kU (fun Ω'=>gY Ω' (.lst ((ws.map (·.1)++[c%99 - 50]).map A.int))=some ((ws.map (·.1)++[c%99 - 50]).map A.int)) (by simp) none (ws.map (·.1)++[c%99 - 50]) none;obtain⟨y2,lp2⟩:=Cj (p:=p) (q:=q) (kd:=Ω.length+2) hof (fun Ω'=>gY Ω' (.lst ([1,1+c%9,aD+1,1+many/((keep:Int)+1)].map A.int))=some ([1,1+c%9,aD+1,1+many/((keep:Int)+1)].map A.int)) (by simp) (aA keep) (aA c) y1 [1,1+c%9,aD+1,1+many/((keep:Int)+1)] none
 suffices hh:∃ρ',LB [aB p,aA keep,aB q,aA c,none,none,none,none] Ω=some (.ret (.bl true),ρ',Ω++Δ)by
  obtain⟨ρ',e⟩:=hh;rw [e];simp only [CB];exact NX (by simp only [Cl])
 refine⟨[aB p,aA keep,aB q,aA c,aA many,aB (Ω.length+2),y1,y2],?_⟩;have cd:gM Ω (.aE q)=some (q,encD ws):=qC hw;have cd1:gM (Ω++Δ) (.aE q)=some (q,encD ws):=qC IY;unfold LB;have e1:(aU rT (aG (BB false cS) a0)) [aB p,aA keep,aB q,aA c,none,none,none,none] Ω=aJ (.int many) Ω:=by
  have v1:(BB false cS) [aB p,aA keep,aB q,aA c,none,none,none,none] Ω=aJ (.lst ((ws.map (·.2)).map A.int)) Ω:=by
   unfold BB;rw [bQ (bF (a := .aE q) rfl)];simp only [cd,Bt];rfl
  unfold aU;rw [bQ (bJ v1 gD)];have e4:(cX Ω (.lst ((ws.map (·.2)).map A.int))).bind intsOf=some (ws.map (·.2)):=by
   show intsOf ((ws.map (·.2)).map A.int)=_;exact vJ _
  simp only [rT,e4,OI,s.wsum]
 rw [bK (lB e1)];simp only [lT,lS];rw [bK (lB (mE (as:=[.aE p,.int keep,.int many]) (bJ (bF (by rfl)) (bJ (bF (by rfl)) (bJ (bF (by rfl)) gD))) (by rfl) qc))];simp only [lT,lS];rw [bK (mX (iX (fF (bF (a := .aE (Ω.length+2)) (by rfl)) (b := .aZ) (by rfl) (by rfl))))];have e2:(iD (aC bS (pH false cS) (qU false (aG (aC (qA) (aC (eG) cR (cI 99)) (cI 50)) a0)))) [aB p,aA keep,aB q,aA c,aA many,aB (Ω.length+2),none,none] (Ω++Δ)=aJ (srcOf (.lst ((ws.map (·.1)++[c%99 - 50]).map A.int)) ((ws.map (·.1)++[c%99 - 50]).map A.int)) (Ω++Δ):=by
  have k1:(pH false cS) [aB p,aA keep,aB q,aA c,aA many,aB (Ω.length+2),none,none] (Ω++Δ)=aJ (.lst ((ws.map (·.1)).map A.int)) (Ω++Δ):=by
   unfold pH;rw [bQ (bF (a := .aE q) rfl)];simp only [cd1,SR];rfl
  have hz:¬sizeLine<((ws.map (·.1)).map A.int).length+1:=by rw [kP];simp;omega
  have k2:(aC bS (pH false cS) (qU false (aG (aC (qA) (aC (eG) cR (cI 99)) (cI 50)) a0))) [aB p,aA keep,aB q,aA c,aA many,aB (Ω.length+2),none,none] (Ω++Δ)=aJ (.lst ((ws.map (·.1)++[c%99 - 50]).map A.int)) (Ω++Δ):=by
   refine fF k1 (b := .lst [.int (c%99 - 50)]) (by simp [h2s]) ?_;rw [EZ];generalize (ws.map (·.1)).map A.int=X at hz;simp [JV,cX,yQ,hz]
  unfold iD;rw [bQ k2];simp
 rw [bK (ρ1:=[aB p,aA keep,aB q,aA c,aA many,aB (Ω.length+2),y1,none]) (Ω':=Ω++Δ) (by rw [JX e2];exact lp1)];have e3:(iD (qU false (aG bL (aG (aC bS bL (aC (eG) cR GD)) (aG (aC bS (cG "off" [("Often",cE 1 [] lX)] aO a0) bL) (aG (aC bS bL (aC (jV) gH (aC bS bE bL))) a0)))))) [aB p,aA keep,aB q,aA c,aA many,aB (Ω.length+2),y1,none] (Ω++Δ)=aJ (srcOf (.lst ([1,1+c%9,aD+1,1+many/((keep:Int)+1)].map A.int)) ([1,1+c%9,aD+1,1+many/((keep:Int)+1)].map A.int)) (Ω++Δ):=by
  have m1:(cG "off" [("Often",cE 1 [] lX)] aO a0) [aB p,aA keep,aB q,aA c,aA many,aB (Ω.length+2),y1,none] (Ω++Δ)=aJ (.int aD) (Ω++Δ):=gQ h1 (by rfl) (by rfl) (as:=[]) (das:=[]) (by simp) (by rfl) (by simpa using qo);have m4:(aC (jV) gH (aC bS bE bL)) [aB p,aA keep,aB q,aA c,aA many,aB (Ω.length+2),y1,none] (Ω++Δ)=aJ (.int (many/((keep:Int)+1))) (Ω++Δ):=by
   refine fF (bF (a := .int many) rfl) (b := .int ((keep:Int)+1)) (by simp) ?_;simp [gI,aR]
  have l1:(aG bL (aG (aC bS bL (aC (eG) cR GD)) (aG (aC bS (cG "off" [("Often",cE 1 [] lX)] aO a0) bL) (aG (aC bS bL (aC (jV) gH (aC bS bE bL))) a0)))) [aB p,aA keep,aB q,aA c,aA many,aB (Ω.length+2),y1,none] (Ω++Δ)=aJ [.int 1,.int (1+c%9),.int (aD+1),.int (1+many/((keep:Int)+1))] (Ω++Δ) :=
   bJ (by simp) (bJ (by simp) (bJ (fF m1 (b := .int 1) (by simp) (by simp)) (bJ (fF (a := .int 1) (by simp) m4 (by simp)) gD)))
  unfold iD;rw [bQ (x := .lst ([1,1+c%9,aD+1,1+many/((keep:Int)+1)].map A.int)) (Ω':=Ω++Δ) (by unfold qU;rw [bQ l1];simp [h4s])];simp
 rw [bK (ρ1:=[aB p,aA keep,aB q,aA c,aA many,aB (Ω.length+2),y1,y2]) (Ω':=Ω++Δ) (by rw [JX e3];exact lp2)];rfl
end
theorem Xh{f:Ev→Mo (List A)}{ρ:Ev}{Ω Ω':aI}{i j:Int}(h:f ρ Ω=aJ [.int i,.int j] Ω')(hs:qY i∧qY j):GP f ρ Ω=aJ (yA i (j - i).toNat) Ω':=by
 unfold GP;rw [bQ h];show mb (lA (qY i∧qY j)) _ Ω'=_;rw [acN _ hs];rfl
@[simp] theorem anU{α:Type}(x y z u v w:α)(l:List α):hV (x::y::z::u::v::w::l) 5=some w:=LP _ 5
theorem akM(c:Int)(hc:0≤c):∃t,1≤t∧t≤1000000∧∀Ω,sJ [.int c] Ω=aJ (.int t) Ω:=by
 have d6:oG c 6:=⟨by decide,by decide⟩;have h6:(6:Nat)≤sizeLine:=by decide
 have hm:c%6=0∨c%6=1∨c%6=2∨c%6=3∨c%6=4∨c%6=5:=by omega
 rcases hm with e | e | e | e | e | e
 ·exact⟨1,by omega,by omega,fun Ω=>by simp [sJ,wV,e,d6,h6]⟩
 ·exact⟨1,by omega,by omega,fun Ω=>by simp [sJ,wV,e,d6,h6]⟩
 ·exact⟨1,by omega,by omega,fun Ω=>by simp [sJ,wV,e,d6,h6]⟩
 ·exact⟨1+c/6%3,by omega,by omega,fun Ω=>by simp [sJ,wV,e,d6,h6]⟩
 ·exact⟨1+c/6%9,by omega,by omega,fun Ω=>by simp [sJ,wV,e,d6,h6]⟩
 ·exact⟨1+c/6%1000000,by omega,by omega,fun Ω=>by simp [sJ,wV,e,d6,h6]⟩
theorem akS(c way:Int)(hc:0≤c)(hc1:c<2147483587):∃v,∀Ω,uH [.int c,.int way] Ω=aJ (.int v) Ω:=by
 have d3:oG c 3:=⟨by decide,by decide⟩;have d4:oG c 4:=⟨by decide,by decide⟩;have Fe:FX 10 15:=⟨by decide,by decide,by decide⟩;have m1:kK (c%3) (c/3%14):=zN (by omega) (by omega);have m2:∀j,kK (c/4%1999 - 999) j:=fun j=>zN (by omega) (by omega);have h2:(2:Nat)≤sizeLine:=by decide
 by_cases w0:way=0
 ·exact⟨c%7,fun Ω=>by simp [uH,zQ,w0]⟩
 by_cases w1:way=1
 ·exact⟨c%3*(c/3%14),fun Ω=>by simp [uH,zQ,w1,d3,m1]⟩
 by_cases w2:way=2
 ·exact⟨c%60 - 30,fun Ω=>by simp [uH,zQ,w2]⟩
 by_cases e:c%4=0
 ·exact⟨(c/4%1999 - 999)*10 ^ 15,fun Ω=>by simp [uH,zQ,w0,w1,w2,d4,m2,Fe,h2,e]⟩
 ·exact⟨c%3,fun Ω=>by simp [uH,zQ,w0,w1,w2,d4,m2,Fe,h2,e]⟩
abbrev eA(keep:Nat)(many tk:Int)(rs:List Rn)(aD:Int)(ws:List Rn):aI:=[bZ keep many tk rs aD,.aX (encD ws)]
theorem ifB{t:Ev→Mo Bool}{f g:MS}{ρ:Ev}{Ω Ω':aI}{b:Bool}(h:t ρ Ω=aJ b Ω'):dD t f g ρ Ω=if b then f ρ Ω' else g ρ Ω':=by
 unfold dD;rw [fR h]
theorem KN{g:List A→Mo A}{fs:Ev→Mo (List A)}{ρ:Ev}{Ω Ω':aI}{as:List A}{a:A}(h:fs ρ Ω=aJ as Ω)(hg:g as Ω=aJ a Ω'):aU g fs ρ Ω=aJ a Ω':=by
 unfold aU;rw [bQ h];exact hg
theorem Lj{fo fe:Ev→Mo A}{ρ:Ev}{Ω:aI}{ds:List A}{a:A}(h:fo ρ Ω=aJ (.aE Ω.length) (Ω++[.lst ds]))(he:fe ρ (Ω++[.lst ds])=aJ a (Ω++[.lst ds]))(hl:ds.length<1000):BE zF fo (aG fe a0) ρ Ω=aJ (.aZ) (Ω++[.lst (ds++[a])]):=by
 have g:(Ω++[Cell.lst ds])[Ω.length]? = some (.lst ds):=vZ _ _;have hz:ds.length<sizeLine:=by rw [kP];omega
 unfold BE;rw [bQ h,if_pos (ad0 (rE g)),bQ (bJ he gD)];simp only [zF,ajC g,if_pos hz,xX]
theorem Ph(ns:List Int)(c0 way:Int)(keep i:Nat)(hi:i<60)(eY:keep≤1000){rs ws:List Rn}{aD many:Int}(s:nX keep rs aD ws many)(hl:rs.length≤i)(mY:ws.length≤i)(hm:many≤(i:Int)*1000000)(x7 x8 x9:Option A) :
  ∃(fM eL:List Rn) (kQ CI:Int) (MX MW MU:Option A),nX keep fM kQ eL CI∧fM.length≤i+1∧eL.length≤i+1∧CI≤((i:Int)+1)*1000000 ∧
   KY [some (.bY ns),aA c0,aA keep,aB 0,aA way,aB 1,aA (2+(i:Int)),x7,x8,x9] (eA keep many i rs aD ws)=iZ [some (.bY ns),aA c0,aA keep,aB 0,aA way,aB 1,aA (2+(i:Int)),MX,MW,MU] (eA keep CI ((i:Int)+1) fM kQ eL):=by
 have q1:=fun Ω=>ZR ns (2+(i:Int)) Ω (by omega) (by omega);have KQ:=Kn ns (2+(i:Int));have c01:=ajD ns (2+(i:Int));generalize tW ns (2+(i:Int))=z at q1 KQ c01;have q2:=fun Ω=>EX z (2+(i:Int)) Ω KQ (by omega) (by omega) (by omega);have s0:=IG z (2+(i:Int));have s1:=QX z (2+(i:Int));generalize tK z (2+(i:Int))=st at q2 s0 s1;have q3:=fun Ω=>EX st 1 Ω s0 (by omega) (by omega) (by omega);have n0:=IG st 1;have n1:=QX st 1;generalize tK st 1=zn at q3 n0 n1;have q4:=fun Ω=>EX st 2 Ω s0 (by omega) (by omega) (by omega);have t0:=IG st 2;generalize tK st 2=zt at q4 t0;obtain⟨n,qn⟩:=akS zn way n0 n1;obtain⟨t,ht,ht1,qt⟩:=akM zt t0;have s':=s.next n t ht
 have Hn:(kD keep (bM rs n t)).length≤i+1:=by
  have:=IL rs n t;unfold kD;split
  ·rw [OM,Jg];have:=List.length_filter_le (fun r:Rn=>decide (taken (bM rs n t) keep<r.2)) (bM rs n t);omega
  ·omega
 have TN:=akP (Ω:=eA keep many i rs aD ws) (p:=0) (tk:=(i:Int)) rfl s.nd (by omega) n t ht (by omega);generalize kD keep (bM rs n t)=fM at s' Hn TN;generalize aD+taken (bM rs n t) keep=kQ at s' TN;have Hj:qM [.aE 0,.int n,.int t] (eA keep many i rs aD ws)=aJ (.aZ) (eA keep (many+t) ((i:Int)+1) fM kQ ws):=TN;have aeD:(bM ws n t).length≤i+1:=by have:=IL ws n t;omega
 refine⟨fM,bM ws n t,kQ,many+t,aA st,aA n,aA t,s',Hn,aeD,by omega,?_⟩;unfold KY;rw [bK (lB (Ω':=eA keep many i rs aD ws) (a := .int st) (mE (as:=[.int z,.int (2+(i:Int))]) (bJ (mE (as:=[.bY ns,.int (2+(i:Int))]) (bJ (bF (by rfl)) (bJ (bF (by rfl)) gD)) (by rfl) (q1 _)) (bJ (bF (by rfl)) gD)) (by rfl) (q2 _)))];simp only [lT,lS];rw [bK (lB (Ω':=eA keep many i rs aD ws) (a := .int n) (mE (as:=[.int zn,.int way]) (bJ (mE (as:=[.int st,.int 1]) (bJ (bF (by rfl)) (bJ (by rfl) gD)) (by rfl) (q3 _)) (bJ (bF (by rfl)) gD)) (by rfl) (qn _)))];simp only [lT,lS];rw [bK (lB (Ω':=eA keep many i rs aD ws) (a := .int t) (mE (as:=[.int zt]) (bJ (mE (as:=[.int st,.int 2]) (bJ (bF (by rfl)) (bJ (by rfl) gD)) (by rfl) (q4 _)) gD) (by rfl) (qt _)))];simp only [lT,lS];have vO:(eA keep many i rs aD ws)[0]? = some (bZ keep many i rs aD):=rfl;have e1 : (dD (bB (aC lN uL bL))
    (mB (cG "put" [("Often",cE 3 [.int 1] qM)] cR (aG pF a0)))
    (mB (cG "put" [("Often",cE 3 [] qM)] cR (aG pF (aG uL a0))))) [some (.bY ns),aA c0,aA keep,aB 0,aA way,aB 1,aA (2+(i:Int)),aA st,aA n,aA t] (eA keep many i rs aD ws)=iZ [some (.bY ns),aA c0,aA keep,aB 0,aA way,aB 1,aA (2+(i:Int)),aA st,aA n,aA t] (eA keep (many+t) ((i:Int)+1) fM kQ ws):=by
  have et:(bB (aC lN uL bL)) [some (.bY ns),aA c0,aA keep,aB 0,aA way,aB 1,aA (2+(i:Int)),aA st,aA n,aA t] (eA keep many i rs aD ws)=aJ (t == 1) (eA keep many i rs aD ws):=iX (fF (bF (a := .int t) rfl) (b := .int 1) rfl (by simp));rw [ifB et]
  by_cases h1:t=1
  ·subst h1;rw [if_pos (by rfl)];exact rV (gQ vO rfl rfl (as:=[.int n]) (das:=[.int 1]) (bJ (bF rfl) gD) rfl Hj)
  ·rw [if_neg (by simpa using h1)];exact rV (gQ vO rfl rfl (as:=[.int n,.int t]) (das:=[]) (bJ (bF rfl) (bJ (bF rfl) gD)) rfl Hj)
 rw [bK e1];have Hh:(eA keep (many+t) ((i:Int)+1) fM kQ ws)[1]? = some (.aX (encD ws)):=rfl;have e2:(xY (aC bS (iO eM pF cO) uL) eM pF) [some (.bY ns),aA c0,aA keep,aB 0,aA way,aB 1,aA (2+(i:Int)),aA st,aA n,aA t] (eA keep (many+t) ((i:Int)+1) fM kQ ws)=iZ [some (.bY ns),aA c0,aA keep,aB 0,aA way,aB 1,aA (2+(i:Int)),aA st,aA n,aA t] (eA keep (many+t) ((i:Int)+1) fM kQ (bM ws n t)):=by
  have g:=KC (ρ:=[some (.bY ns),aA c0,aA keep,aB 0,aA way,aB 1,aA (2+(i:Int)),aA st,aA n,aA t]) (i:=5) (j:=8) (k:=1) (n:=n) rfl Hh rfl;have cd:gM (eA keep (many+t) ((i:Int)+1) fM kQ ws) (.aE 1)=some (1,encD ws):=qC Hh;have hz:(encD ws).length<sizeLine:=by rw [kP];simp [encD];omega
  unfold xY;rw [fR (fF (a := .int (aQ ws n)) (b := .int t) (c := .int (aQ ws n+t)) g (bF rfl) (by simp))];rw [fR (bF (a := .aE 1) rfl),fR (bF (a := .int n) rfl)];simp only [HG,cd,kR,if_pos hz,QM ws n t s.AU];rfl
 rw [bK e2];refine mX ?_;have e3:(bB (aC lN (aC (eG) fY GF) cO)) [some (.bY ns),aA c0,aA keep,aB 0,aA way,aB 1,aA (2+(i:Int)),aA st,aA n,aA t] (eA keep (many+t) ((i:Int)+1) fM kQ (bM ws n t))=aJ ((2+(i:Int))%7 == 0) (eA keep (many+t) ((i:Int)+1) fM kQ (bM ws n t)) :=
  iX (fF (fF (bF (a := .int (2+(i:Int))) rfl) (b := .int 7) rfl (c := .int ((2+(i:Int))%7)) (by simp)) (b := .int 0) rfl (by simp))
 by_cases h7:(2+(i:Int))%7=0
 ·rw [Lm (Ω':=eA keep (many+t) ((i:Int)+1) fM kQ (bM ws n t)) (by rw [e3];simp [h7])];have tr:=ZP (Ω:=eA keep (many+t) ((i:Int)+1) fM kQ (bM ws n t)) (p:=0) (q:=1) rfl rfl s' (by omega) (by omega) eY st;exact ID (iX (b:=true) (mE (as:=[.aE 0,.int keep,.aE 1,.int st]) (bJ (bF rfl) (bJ (bF rfl) (bJ (bF rfl) (bJ (bF rfl) gD)))) rfl tr))
 ·exact Ln (by rw [e3];simp [h7])
theorem ac7(ns:List Int)(TV:ns.length≤63):∃W,My [.bY ns] []=aJ (.bl true) W:=by
 have c0:=fun Ω=>ZR ns 0 Ω (by decide) (by decide);have KQ:=Kn ns 0;generalize tW ns 0=z0 at c0 KQ;have c1:=fun Ω=>ZR ns 1 Ω (by decide) (by decide);generalize tW ns 1=z1 at c1;have zM:oG z0 12:=⟨by decide,by decide⟩;have d72:oG z0 72:=⟨by decide,by decide⟩;have aiT:oG z0 288:=⟨by decide,by decide⟩;generalize hm:min (ns.length:Int) 62=m;have hm0:0≤m:=by omega
 have hm1:m≤62:=by omega
 have aeK:∀Ω,gY Ω (.bY ns)=some (ns.map A.int):=fun _=>rfl;have ae8:∃keep:Nat,keep≤1000∧∀g:MS,(bD (dE (aC bS bL (aC (eG) bE (cI 12))) (gN 2))
  (bD (dD (bB (aC lN (aC (eG) (aC (jV) bE (cI 12)) sR) cO))
   (dE (cI 1000) (gN 2))
   eN)
  (bD (dD (bB (aC lN (aC (eG) (aC (jV) bE (cI 12)) sR) bL))
   (dE (aC bS (cI 13) (aC (eG) (aC (jV) bE (cI 288)) (cI 48))) (gN 2))
   eN) g))) [some (.bY ns),aA z0,none,none,none,none,none,none,none,none] []=g [some (.bY ns),aA z0,aA keep,none,none,none,none,none,none,none] []:=by
  by_cases k0:z0/12%6=0
  ·refine⟨1000,by omega,fun g=>?_⟩;rw [bK (ρ1:=[some (.bY ns),aA z0,aA (1+z0%12),none,none,none,none,none,none,none]) (Ω':=[]) (by simp)];rw [bK (ρ1:=[some (.bY ns),aA z0,aA 1000,none,none,none,none,none,none,none]) (Ω':=[]) (by simp [zM,k0])];rw [bK (ρ1:=[some (.bY ns),aA z0,aA 1000,none,none,none,none,none,none,none]) (Ω':=[]) (by simp [zM,k0])];rfl
  ·by_cases k1:z0/12%6=1
   ·obtain⟨kk,tO⟩:=Mu (show 0≤13+z0/288%48 by omega);refine⟨kk,by omega,fun g=>?_⟩;rw [bK (ρ1:=[some (.bY ns),aA z0,aA (1+z0%12),none,none,none,none,none,none,none]) (Ω':=[]) (by simp)];rw [bK (ρ1:=[some (.bY ns),aA z0,aA (1+z0%12),none,none,none,none,none,none,none]) (Ω':=[]) (by simp [zM,k0])];rw [bK (ρ1:=[some (.bY ns),aA z0,aA kk,none,none,none,none,none,none,none]) (Ω':=[]) (by simp [zM,aiT,k1,tO])]
   ·obtain⟨kk,tO⟩:=Mu (show 0≤1+z0%12 by omega);refine⟨kk,by omega,fun g=>?_⟩;rw [bK (ρ1:=[some (.bY ns),aA z0,aA kk,none,none,none,none,none,none,none]) (Ω':=[]) (by simp [tO])];rw [bK (ρ1:=[some (.bY ns),aA z0,aA kk,none,none,none,none,none,none,none]) (Ω':=[]) (by simp [zM,k0])];rw [bK (ρ1:=[some (.bY ns),aA z0,aA kk,none,none,none,none,none,none,none]) (Ω':=[]) (by simp [zM,k1])]
 obtain⟨keep,eY,UE⟩:=ae8;obtain⟨ρ1,Ω1,e1,x6,x7,x8,x9,rs,ws,aD,many,rfl,rfl,s,hl,mY,JE⟩:=Jl (ok:=fun _=>True) (g:=gN 6) (b:=KY)
  (fun i ρ Ω'=>∃(x6 x7 x8 x9:Option A) (rs ws:List Rn) (aD many:Int),ρ=[some (.bY ns),aA z0,aA keep,aB 0,aA (z0/72%4),aB 1,x6,x7,x8,x9]∧Ω'=eA keep many i rs aD ws∧nX keep rs aD ws many∧rs.length≤i∧ws.length≤i∧many≤(i:Int)*1000000) (fun _ _ _ _=>trivial)
  ((List.range (m - 2).toNat).map fun(i:Nat)=>A.int (2+(i:Int))) 0 [some (.bY ns),aA z0,aA keep,aB 0,aA (z0/72%4),aB 1,none,none,none,none] (eA keep 0 0 [] 0 []) ⟨none,none,none,none,[],[],0,0,rfl,rfl,Df keep,by simp,by simp,by simp⟩
  (by
   rintro i x ρ Ω' hx ⟨x6,x7,x8,x9,rs,ws,aD,many,rfl,rfl,s,hl,mY,JE⟩;have hi:i<(m - 2).toNat:=by simpa using(cL.mp hx).1
   obtain rfl:A.int (2+(i:Int))=x:=by
    have:=(cL.mp hx).2;simpa using this
   rw [Nat.zero_add]at hl mY JE ⊢;obtain⟨fM,eL,kQ,CI,MX,MW,MU,a1,a2,a3,a4,q⟩:=Ph ns z0 (z0/72%4) keep i (by omega) eY s hl mY JE x7 x8 x9;exact⟨[some (.bY ns),aA z0,aA keep,aB 0,aA (z0/72%4),aB 1,aA (2+(i:Int)),x7,x8,x9],_,_,_,by simp,.inl q,aA (2+(i:Int)),MX,MW,MU,fM,eL,kQ,CI,rfl,by simp,a1,a2,a3,by simpa using a4⟩)
 simp only [Nat.zero_add,dN,Ab]at hl mY JE e1;have IZ:(((m - 2).toNat:Nat):Int)=max 0 (m - 2):=by omega
 have am7:(m - 2).toNat≤60:=by omega
 have vO:(eA keep many ((m - 2).toNat:Nat) rs aD ws)[0]? = some (bZ keep many ((m - 2).toNat:Nat) rs aD):=rfl;have qp:=akO vO;have qc:=Mm vO (by omega);have hS:(dI rs).length≤60:=by rw [OM];omega
 generalize hA:Cell.lst (aM (dI rs)++[.tup [.int 0,.int 1]])=cA;have Hl:(eA keep many ((m - 2).toNat:Nat) rs aD ws++[cA])[0]? = some (bZ keep many ((m - 2).toNat:Nat) rs aD):=rfl;have qn:=ZQ Hl s.nd (by omega);generalize hB:Cell.lst ((sortI (rs.map (·.1))).map A.int++[.int 0])=Kt;have hIl:(sortI (rs.map (·.1))).length≤60:=by rw [xW,dN];omega
 have Pl:=ZP (Ω:=eA keep 0 0 [] 0 []) (p:=0) (q:=1) rfl rfl (Df keep) (by simp) (by simp) eY z0;have tr:=ZP (Ω:=eA keep many ((m - 2).toNat:Nat) rs aD ws++[cA]++[Kt]) (p:=0) (q:=1) rfl rfl s (by omega) (by omega) eY z1;have h2:(2:Nat)≤sizeLine:=by decide
 refine⟨[],?_⟩;show trim [] (gC (KZ [some (.bY ns),none,none,none,none,none,none,none,none,none] []))=_
 suffices hh:∃ρ',KZ [some (.bY ns),none,none,none,none,none,none,none,none,none] []=some (.ret (.bl true),ρ',eA keep many ((m - 2).toNat:Nat) rs aD ws++[cA]++[Kt])by
  obtain⟨ρ',e⟩:=hh;rw [e];simp only [CB];exact NX (Ω:=[]) (by simp only [Cl])
 refine⟨[some (.bY ns),aA z0,aA keep,aB 0,aA (z0/72%4),aB 1,x6,x7,x8,x9],?_⟩;unfold KZ;rw [bK (lB (Ω':=[]) (a := .int z0) (mE (as:=[.bY ns,.int 0]) (bJ (bF (by rfl)) (bJ (by rfl) gD)) (by rfl) (c0 _)))];simp only [lT,lS];rw [UE];rw [bK (lB (Ω':=[bZ keep 0 0 [] 0]) (a := .aE 0) (by unfold aU;rw [bQ (bJ (bF (a := .int keep) (by rfl)) gD)];exact akT keep []))];simp only [lT,lS];rw [bK (lB (Ω':=[bZ keep 0 0 [] 0]) (a := .int (z0/72%4)) (by simp [d72]))];simp only [lT,lS];rw [bK (lB (Ω':=eA keep 0 0 [] 0 []) (a := .aE 1) (by rfl))];simp only [lT,lS];rw [bK (mX (ID (iX (b:=true) (mE (as:=[.aE 0,.int keep,.aE 1,.int z0]) (bJ (bF (by rfl)) (bJ (bF (by rfl)) (bJ (bF (by rfl)) (bJ (bF (by rfl)) gD)))) (by rfl) Pl))))];have em:∀(x1 x2 x3 x4 x5 x6 x7 x8 x9:Option A) (Ω:aI),(aU lM (aG (aU kF (aG aO a0)) (aG (cI 62) a0))) [some (.bY ns),x1,x2,x3,x4,x5,x6,x7,x8,x9] Ω=aJ (.int m) Ω:=fun _ _ _ _ _ _ _ _ _ Ω=>by simp [aeK,hm]
 rw [bK (ρ1:=[some (.bY ns),aA z0,aA keep,aB 0,aA (z0/72%4),aB 1,x6,x7,x8,x9]) (Ω':=eA keep many ((m - 2).toNat:Nat) rs aD ws) (by
  rw [JX (Xh (i:=2) (j:=m) (Ω':=eA keep 0 0 [] 0 []) (bJ (by rfl) (bJ (em _ _ _ _ _ _ _ _ _ _) gD)) (by unfold qY;omega))];exact e1)]
 have t1:(bB (aC gT (cG "puts" [("Often",cE 1 [] FP)] cR a0) (aU JT (aG cO (aG (aC (qA) (aU lM (aG (aU kF (aG aO a0)) (aG (cI 62) a0))) uM) a0))))) [some (.bY ns),aA z0,aA keep,aB 0,aA (z0/72%4),aB 1,x6,x7,x8,x9] (eA keep many ((m - 2).toNat:Nat) rs aD ws)=aJ false (eA keep many ((m - 2).toNat:Nat) rs aD ws):=by
  refine iX (fF (gQ vO rfl rfl (as:=[]) (das:=[]) rfl rfl qp) (b := .int (max 0 (m - 2))) ?_ (by rw [IZ];simp));exact KN (as:=[.int 0,.int (m - 2)]) (bJ rfl (bJ (fF (em _ _ _ _ _ _ _ _ _ _) (b := .int 2) rfl (by simp)) gD)) (by simp)
 rw [bK (mX t1)];rw [bK (rV (Lj (ds:=aM (dI rs)) (a := .tup [.int 0,.int 1]) (gQ vO (by rfl) (by rfl) (as:=[]) (das:=[]) (by rfl) (by rfl) (by exact qc)) (by simp [h2]) (by simp [aM];omega))),hA];rw [bK (rV (Lj (ds:=(sortI (rs.map (·.1))).map A.int) (a := .int 0) (gQ Hl (by rfl) (by rfl) (as:=[]) (das:=[]) (by rfl) (by rfl) (by exact qn)) (by rfl) (by simp;omega))),hB];unfold cJ;rw [fR (mE (as:=[.aE 0,.int keep,.aE 1,.int z1]) (bJ (bF (by rfl)) (bJ (bF (by rfl)) (bJ (bF (by rfl)) (bJ (mE (as:=[.bY ns,.int 1]) (bJ (bF (by rfl)) (bJ (by rfl) gD)) (by rfl) (c1 _)) gD)))) (by rfl) tr)]
end M
namespace Ai
open PySem L2 V2 PyProof.Rows M
def top(i:Nat):Stmt:=PySem.Challenge.pw_rankpouch_k62_often_bounds.main.body.getD i (.Pass ⟨0,0,0,0⟩)
abbrev BR:Stmt:=top 8
abbrev PF:Stmt:=top 11
abbrev PK:Stmt:=top 12
abbrev OZ:Stmt:=top 13
abbrev PD:Stmt:=top 14
abbrev PH:Stmt:=top 15
abbrev BS:Stmt:=top 16
abbrev PJ:Stmt:=top 17
abbrev HI:Stmt:=top 18
abbrev PB:Stmt:=top 19
abbrev uS:Stmt:=inClass (top 6) 0
abbrev uR:Stmt:=inClass (top 6) 1
abbrev PN:Stmt:=inClass (top 6) 3
abbrev PO:Stmt:=inClass (top 6) 4
abbrev PL:Stmt:=inClass (top 6) 5
abbrev PQ:Stmt:=inClass (top 6) 6
abbrev PM:Stmt:=inClass (top 6) 7
abbrev uT:Stmt:=inClass (top 9) 0
abbrev PR:Stmt:=inClass (top 9) 2
abbrev QA:Stmt:=inClass (top 9) 4
abbrev PX:Stmt:=inClass (top 9) 5
abbrev PY:Stmt:=inClass (top 9) 6
abbrev PV:Stmt:=inClass (top 9) 7
abbrev PU:Stmt:=inClass (top 9) 8
abbrev PZ:Stmt:=inClass (top 9) 9
abbrev HJ:Stmt:=inClass (top 9) 10
abbrev qZ:Stmt:=top 20
structure dZ(mg:Str→Option Value):Prop where
 bool:mg "bool" = none
 dict:mg "dict" = none
 int:mg "int" = none
 isinstance:mg "isinstance" = none
 len:mg "len" = none
 list:mg "list" = none
 max:mg "max" = none
 min:mg "min" = none
 range:mg "range" = none
 set:mg "set" = none
 sorted:mg "sorted" = none
 sum:mg "sum" = none
 tuple:mg "tuple" = none
section
variable(P:Program)(w:World)(K:Frag)(mg:Str→Option Value)(base:Heap)
abbrev ZD:=fX P w K mg base "_law_mix" 1 ["_law_cell_here", "_law_k"] xF
abbrev ZC:=fX P w K mg base "_law_whole" 1 ["_law_found"] sI
abbrev Lz:=fX P w K mg base "_law_times" 1 ["_law_cell_here"] sJ
abbrev Ly:=fX P w K mg base "_law_many" 1 ["_law_cell_here", "_law_way"] uH
abbrev Lx:=fX P w K mg base "_law_cell" 2 ["_law_script", "_law_k"] xG
abbrev Lw:=bU P w K mg base "Often" "counted" 1 2 [] xJ
abbrev LR:=bU P w K mg base "Often" "off" 1 1 [] lX
abbrev Lv:=fX P w K mg base "_law_counted_ok" 2 ["_law_pouch", "_law_kept", "_law_row", "_law_number", "_law_length"] FN
abbrev YY:=bU P w K mg base "Often" "numbers" 2 1 [] xH
abbrev Lu:=bU P w K mg base "Often" "counts" 1 1 [] FT
abbrev Mc:=fX P w K mg base "_law_counts_ok" 3 ["_law_pouch", "_law_keep", "_law_length"] Ao
abbrev ZA:=bU P w K mg base "Often" "look_room" 1 2 [] MM
abbrev YZ:=bU P w K mg base "Often" "take" 3 3 [] MN
abbrev Mb:=fX P w K mg base "_law_often_ok" 4 ["_law_pouch", "_law_kept", "_law_row", "_law_least", "_law_length"] ML
abbrev Ma:=fX P w K mg base "_law_truly" 5 ["_law_pouch", "_law_keep", "_law_row", "_law_cell_here"] FK
end
section
variable{P:Program}{w:World}{K:Frag}{mg:Str→Option Value}{base:Heap}
theorem Dx:cU ["self", "keep"] ["self", "keep"] (aV uS):=fN
theorem La(B:dZ mg)(pD:cM K ["Often"] "keep")(iA:cM K ["Often"] "many")(jL:cM K ["Often"] "taken")(f:Addr)(aR:Value)(A:Around)(outer:List Env)(s:Shared)(H:Hp)(E:XK)(hr:bN 0 (A.deeper (envOfC "Pouch.__init__" (aV uS) s.heap.objs.size f aR))) :
  jW (nE P w K mg base ["self", "keep"] "Pouch.__init__" (aV uS) f aR A outer s H E) (fun _=>E) (dW uS) LK:=by
 exact(bI (qR (vv 0) (vv 1) pD)
  (bI (qR (vv 0) aP iA)
  (bH (qR (vv 0) aP jL))))
theorem anN(B:dZ mg)(pD:cM K ["Often"] "keep")(iA:cM K ["Often"] "many")(jL:cM K ["Often"] "taken"){cls:Str}(h:MK K mg cls "Pouch.__init__" uS):uB P w K mg base cls 1 2 xI:=uB.of h Dx (fun _ _ _ _ _ _ us hl=>nN us hl eX) (La B pD iA jL)
theorem ahV(B:dZ mg)(pD:cM K ["Often"] "keep")(iA:cM K ["Often"] "many")(jL:cM K ["Often"] "taken"){rk:Str}(h:FI K mg rk "__init__" "Pouch.__init__" uS):qL P w K mg base rk "__init__" 1 2 xI:=qL.of h Dx (fun _ _ _ _ _ _ us hl=>nN us hl eX) (La B pD iA jL)
theorem Wr:cU ["self", "more"] ["self", "more"] (aV PN):=fN
theorem aiH(B:dZ mg)(US:∃t,mg "LONGEST" = some (.int 1000000000 t))(iA:cM K ["Often"] "many"){cls:Str}(h:lE K mg cls "look_room" "Pouch.look_room" PN):bU P w K mg base cls "look_room" 1 2 [] MM:=by
 refine bU.of h Wr (fun _ _ _ _ _ _ us hl=>nN us hl eX) (fun _ _ _ _ _ _ _ hr=>?_);exact(bH (fE (dR tG (bA (fG false) (mP (vv 0) iA) (vv 1)) (Of rfl US) (dS _))
   (bH Bk)
   fL))
theorem Ws:cU ["self"] ["self"] (aV PO):=fN
theorem aiI(B:dZ mg)(iA:cM K ["Often"] "many"){cls:Str}(h:lE K mg cls "length" "Pouch.length" PO):bU P w K mg base cls "length" 1 1 [] FQ:=by
 refine bU.of h Ws (fun _ _ _ _ _ _ us hl=>oJ us hl (fun _=>rfl)) (fun _ _ _ _ _ _ _ hr=>?_);exact(bH (cV (mP (vv 0) iA)))
theorem Wo:cU ["self"] ["self"] (aV PL):=fN
theorem aiE(B:dZ mg)(jL:cM K ["Often"] "taken"){cls:Str}(h:lE K mg cls "puts" "Pouch.puts" PL):bU P w K mg base cls "puts" 1 1 [] FP:=by
 refine bU.of h Wo (fun _ _ _ _ _ _ us hl=>oJ us hl (fun _=>rfl)) (fun _ _ _ _ _ _ _ hr=>?_);exact(bH (cV (mP (vv 0) jL)))
theorem OV:cU ["counts", "keep", "taken"] ["counts", "keep"] (aV BR):=fN
theorem ah4(B:dZ mg)(h:HasFn K mg "cut" BR):fX P w K mg base "cut" 1 ["counts", "keep"] FJ:=by
 refine fX.of h OV (fun _ _ _ _ _ _ us hl=>nN us hl eX) (fun _ _ _ _ _ _ _ hr=>?_);exact(bI (fZ (i:=2) OV.nd rfl (Or.inr rfl) aP)
  (bI (fE (dR tG (gA qD rfl B.len PySem.boot_len (aL (vv 0) bC)) (vv 1) (dS _))
   (bH (fZ (i:=2) OV.nd rfl (Or.inr rfl) (jN (Ny false B.sorted rfl (AZ false ["pair"] [] rfl (yM (aV BR) ["counts", "keep", "taken"]) (qT (vv 0)) (fun cl C s H fp=>⟨(lY (i:=0) (show(["pair"]:List Str).Nodup by decide +kernel) rfl dM),NC,(jN (vv 0) aP eX)⟩))) (vv 1) eX)))
   fL)
  (bH (cV (AY (aL (gA (Kr false) rfl B.sorted EO (aL (AZ false ["pair"] [2] rfl (yM (aV BR) ["counts", "keep", "taken"]) (qT (vv 0)) (fun cl C s H fp=>⟨(lY (i:=0) (show(["pair", "taken"]:List Str).Nodup by decide +kernel) rfl dM),(NB (dR tG (jN (vv 0) aP eX) (vv 1) (dS _))),(AY (aL (jN (vv 0) aP eX) (aL (bA CF (jN (vv 0) aP eX) (vv 1)) bC)))⟩)) bC)) (aL (vv 2) bC)))))))
theorem Wz:cU ["self", "number", "times"] ["self", "number", "times"] (aV QA):=fN
theorem aiR(B:dZ mg)(gG:cM K ["Often"] "tally"){cls:Str}(h:lE K mg cls "count_in" "Often.count_in" QA):bU P w K mg base cls "count_in" 1 3 [] MQ:=by
 refine bU.of h Wz (fun _ _ _ _ _ _ us hl=>GQ us hl (fun _ _ _=>rfl)) (fun _ _ _ _ _ _ _ hr=>?_);exact(bH (Bl (i:=0) (f := "tally") (Bn (bN.pI hr) (mP (vv 0) gG) (vv 1) (bA (fG false) (xP (bN.pI hr) (mP (vv 0) gG) (vv 1) aP ⟨rfl,rfl,rfl,rfl⟩) (vv 2)))))
theorem Wy:cU ["self"] ["self"] (aV PY):=fN
theorem aiP(B:dZ mg)(gG:cM K ["Often"] "tally"){cls:Str}(h:lE K mg cls "counts" "Often.counts" PY):bU P w K mg base cls "counts" 1 1 [] FT:=by
 refine bU.of h Wy (fun _ _ _ _ _ _ us hl=>oJ us hl (fun _=>rfl)) (fun _ _ _ _ _ _ _ hr=>?_);exact(bH (cV (Og true rfl (vv 0) gG rfl B.sorted)))
theorem Wx:cU ["self"] ["self"] (aV PV):=fN
theorem aiN(B:dZ mg)(gG:cM K ["Often"] "tally"){cls:Str}(h:lE K mg cls "kept" "Often.kept" PV):bU P w K mg base cls "kept" 1 1 [] qN:=by
 refine bU.of h Wx (fun _ _ _ _ _ _ us hl=>oJ us hl (fun _=>rfl)) (fun _ _ _ _ _ _ _ hr=>?_);exact(bH (cV (Oh false rfl (vv 0) gG rfl B.list)))
theorem Ww:cU ["self"] ["self"] (aV PU):=fN
theorem aiM(B:dZ mg)(kL:cM K ["Often"] "lost"){cls:Str}(h:lE K mg cls "off" "Often.off" PU):bU P w K mg base cls "off" 1 1 [] lX:=by
 refine bU.of h Ww (fun _ _ _ _ _ _ us hl=>oJ us hl (fun _=>rfl)) (fun _ _ _ _ _ _ _ hr=>?_);exact(bH (cV (mP (vv 0) kL)))
theorem Dz:cU ["self", "number", "low"] ["self", "number"] (aV PZ):=fN
theorem aiQ(B:dZ mg)(kL:cM K ["Often"] "lost")(gG:cM K ["Often"] "tally"){cls:Str}(h:lE K mg cls "counted" "Often.counted" PZ):bU P w K mg base cls "counted" 1 2 [] xJ:=by
 refine bU.of h Dz (fun _ _ _ _ _ _ us hl=>nN us hl eX) (fun _ _ _ _ _ _ _ hr=>?_);exact(bI (Bl (i:=0) (f := "tally") (fZ (i:=2) Dz.nd rfl dM (xP (bN.pI hr) (mP (vv 0) gG) (vv 1) aP ⟨rfl,rfl,rfl,rfl⟩)))
  (bH (cV (AY (aL (vv 2) (aL (bA (fG false) (vv 2) (mP (vv 0) kL)) bC))))))
theorem Dv:cU ["_law_cell_here", "_law_k", "_law_first"] ["_law_cell_here", "_law_k"] (aV PF):=fN
theorem ah9(B:dZ mg)(h:HasFn K mg "_law_mix" PF):ZD P w K mg base:=by
 refine fX.of h Dv (fun _ _ _ _ _ _ us hl=>nN us hl eX) (fun _ _ _ _ _ _ _ hr=>?_);exact(bI (fZ (i:=2) Dv.nd rfl dM (bA gZ (bA rC (bA (fG false) (vv 0) aP) (bA (fG false) aP (bA rC aP (vv 1)))) aP))
  (bH (cV (bA gZ (bA (fG false) (bA (fG false) (bA rC (bA oN (vv 2) aP) aP) (bA rC (vv 2) (bA (fG false) (bA rC (vv 1) (vv 1)) aP))) (vv 1)) aP))))
theorem Wl:cU ["_law_found"] ["_law_found"] (aV OZ):=fN
theorem ah5(B:dZ mg)(h:HasFn K mg "_law_whole" OZ):ZC P w K mg base:=by
 refine fX.of h Wl (fun _ _ _ _ _ _ us hl=>oJ us hl (fun _=>rfl)) (fun _ _ _ _ _ _ _ hr=>?_);exact(bH (cV (Ot (gA EN rfl B.isinstance KU (aL (vv 0) (aL (AX rfl B.int PyProof.Rows.boot_int) bC))) (Nz (Oa (gA EN rfl B.isinstance KU (aL (vv 0) (aL (AX rfl B.bool PyProof.Rows.boot_bool) bC))))))))
theorem Wm:cU ["_law_cell_here"] ["_law_cell_here"] (aV PD):=fN
theorem ah7(B:dZ mg)(h:HasFn K mg "_law_times" PD):Lz P w K mg base:=by
 refine fX.of h Wm (fun _ _ _ _ _ _ us hl=>oJ us hl (fun _=>rfl)) (fun _ _ _ _ _ _ _ hr=>?_);exact(bH (cV (jN (GK false (aL aP (aL aP (aL aP (aL (bA (fG false) aP (bA gZ (bA oN (vv 0) aP) aP)) (aL (bA (fG false) aP (bA gZ (bA oN (vv 0) aP) aP)) (aL (bA (fG false) aP (bA gZ (bA oN (vv 0) aP) aP)) bC))))))) (bA gZ (vv 0) aP) eX)))
theorem Wn:cU ["_law_cell_here", "_law_way"] ["_law_cell_here", "_law_way"] (aV PH):=fN
theorem aiA(B:dZ mg)(h:HasFn K mg "_law_many" PH):Ly P w K mg base:=by
 refine fX.of h Wn (fun _ _ _ _ _ _ us hl=>nN us hl eX) (fun _ _ _ _ _ _ _ hr=>?_);exact(bI (fE (dR (tH hr.units) (vv 1) aP (dS _))
   (bH (cV (bA gZ (vv 0) aP)))
   fL)
  (bI (fE (dR (tH hr.units) (vv 1) aP (dS _))
   (bH (cV (bA rC (bA gZ (vv 0) aP) (bA gZ (bA oN (vv 0) aP) aP))))
   fL)
  (bI (fE (dR (tH hr.units) (vv 1) aP (dS _))
   (bH (cV (bA CF (bA gZ (vv 0) aP) aP)))
   fL)
  (bH (cV (jN (GK false (aL (bA gZ (vv 0) aP) (aL (bA rC (bA CF (bA gZ (bA oN (vv 0) aP) aP) aP) (bA abP aP aP)) bC))) (NG ajY rfl B.int PyProof.Rows.boot_int (aL (Om (tH hr.units) (bA gZ (vv 0) aP) aP (dS _)) bC)) eX))))))
theorem Wt:cU ["self"] ["self"] (aV PQ):=fN
theorem aiJ(B:dZ mg)(zY:bU P w K mg base "Often" "kept" 1 1 [] qN){cls:Str}(h:lE K mg cls "held" "Pouch.held" PQ):bU P w K mg base cls "held" 2 1 [] FR:=by
 refine bU.of h Wt (fun _ _ _ _ _ _ us hl=>oJ us hl (fun _=>rfl)) (fun _ _ _ _ _ _ _ hr=>?_);exact(bH (cV (gA qD rfl B.len PySem.boot_len (aL (lH cH (bR.cons zY hr.m bR.nil) (vv 0)) bC))))
theorem Wq:cU ["self"] ["self"] (aV PM):=fN
theorem aiG(B:dZ mg)(zY:bU P w K mg base "Often" "kept" 1 1 [] qN){cls:Str}(h:lE K mg cls "numbers" "Pouch.numbers" PM):bU P w K mg base cls "numbers" 2 1 [] xH:=by
 refine bU.of h Wq (fun _ _ _ _ _ _ us hl=>oJ us hl (fun _=>rfl)) (fun _ _ _ _ _ _ _ hr=>?_);exact(bH (cV (Nx true rfl rfl B.sorted rfl B.set (lH cH (bR.cons zY hr.m bR.nil) (vv 0)))))
theorem Dy:cU ["self", "left"] ["self"] (aV PX):=fN
theorem aiO(B:dZ mg)(Ap:fX P w K mg base "cut" 1 ["counts", "keep"] FJ)(pD:cM K ["Often"] "keep")(kL:cM K ["Often"] "lost")(gG:cM K ["Often"] "tally"){cls:Str}(h:lE K mg cls "cut_down" "Often.cut_down" PX):bU P w K mg base cls "cut_down" 2 1 [] MP:=by
 refine bU.of h Dy (fun _ _ _ _ _ _ us hl=>oJ us hl (fun _=>rfl)) (fun _ _ _ _ _ _ _ hr=>?_);exact(bH (fE (dR tG (Oi (vv 0) gG rfl B.len) (mP (vv 0) pD) (dS _))
   (bI (fZ (i:=1) Dy.nd rfl dM (iB cH Ap hr.m rfl (aL (Oj false rfl (vv 0) gG rfl B.list) (aL (mP (vv 0) pD) bC))))
   (bI (Bm (qR (vv 0) (NG (Ks rfl) rfl B.dict PyProof.Rows.boot_dict (aL (jN (vv 1) aP eX) bC)) gG))
   (bH (qR (vv 0) (bA (fG false) (mP (vv 0) kL) (jN (vv 1) aP eX)) kL))))
   fL))
theorem OX:cU ["_law_script", "_law_k", "_law_cell_here"] ["_law_script", "_law_k"] (aV PK):=fN
theorem aiD(B:dZ mg)(h:HasFn K mg "_law_cell" PK)(uI:ZD P w K mg base):Lx P w K mg base:=by
 refine fX.of h OX (fun _ _ _ _ _ _ us hl=>nN us hl eX) (fun _ _ _ _ _ _ _ hr=>?_);exact(bI (fZ (i:=2) OX.nd rfl dM aP)
  (bI (fE (dR HZ (vv 1) (gA qD rfl B.len PySem.boot_len (aL (vv 0) bC)) (dS _))
   (bH (fZ (i:=2) OX.nd rfl dM (bA gZ (jN (vv 0) (vv 1) eX) aP)))
   fL)
  (bH (cV (iB cH uI hr.m rfl (aL (vv 2) (aL (bA (fG false) (vv 1) aP) bC)))))))
theorem OW:cU ["_law_pouch", "_law_kept", "_law_row", "_law_number", "_law_length", "_law_found", "_law_low"] ["_law_pouch", "_law_kept", "_law_row", "_law_number", "_law_length"] (aV PJ):=fN
theorem aiC(B:dZ mg)(h:HasFn K mg "_law_counted_ok" PJ)(sL:ZC P w K mg base)(AA:Lw P w K mg base)(nZ:LR P w K mg base):Lv P w K mg base:=by
 refine fX.of h OW (fun _ _ _ _ _ _ us hl=>Ca us hl (fun _ _ _ _ _=>rfl)) (fun _ _ _ _ _ _ _ hr=>?_);exact(bI (fZ (i:=5) OW.nd rfl dM (uO cH (bR.cons AA hr.m bR.nil) (vv 0) (aL (vv 3) bC)))
  (bI (fE (VW.vt (nK (nM (nL (gA EN rfl B.isinstance KU (aL (vv 5) (aL (AX rfl B.tuple PyProof.Rows.boot_tuple) bC))))) (nK (dR (pM hr.units) (gA qD rfl B.len PySem.boot_len (aL (vv 5) bC)) aP (dS _)) (nK (nM (nL (iB cH sL hr.m rfl (aL (jN (vv 5) aP eX) bC)))) (AW (nM (nL (iB cH sL hr.m rfl (aL (jN (vv 5) aP eX) bC)))))))))
   (bH (cV mQ))
   fL)
  (bI (fZ (i:=6) OW.nd rfl dM (xP (bN.pI hr) (vv 1) (vv 3) aP ⟨rfl,rfl,rfl,rfl⟩))
  (bI (fE (dR (pM hr.units) (vv 5) (AY (aL (vv 6) (aL (gA (KP rfl) rfl B.min boot_min (aL (vv 4) (aL (bA (fG false) (vv 6) (lH cH (bR.cons nZ hr.m bR.nil) (vv 0))) bC))) bC))) (dS _))
   (bH (cV mQ))
   fL)
  (bH (cV (Oo Fn Fn (jN (vv 5) aP eX) (xP (bN.pI hr) (vv 2) (vv 3) aP ⟨rfl,rfl,rfl,rfl⟩) (jN (vv 5) aP eX))))))))
theorem Ea:cU ["self", "keep"] ["self", "keep"] (aV uT):=fN
theorem Lb(B:dZ mg)(xD:qL P w K mg base "Pouch" "__init__" 1 2 xI)(kL:cM K ["Often"] "lost")(gG:cM K ["Often"] "tally")(f:Addr)(aR:Value)(A:Around)(outer:List Env)(s:Shared)(H:Hp)(E:XK)(hr:bN 2 (A.deeper (envOfC "Often.__init__" (aV uT) s.heap.objs.size f aR))) :
  jW (nE P w K mg base ["self", "keep"] "Often.__init__" (aV uT) f aR A outer s H E) (fun _=>E) (dW uT) LO:=by
 exact(bI (qS (Oq cH xD rfl hr.m (aL (vv 0) (aL (vv 1) bC))))
  (bI (Bm (qR (vv 0) Bp gG))
  (bH (qR (vv 0) aP kL))))
theorem ahT(B:dZ mg)(xD:qL P w K mg base "Pouch" "__init__" 1 2 xI)(kL:cM K ["Often"] "lost")(gG:cM K ["Often"] "tally"){cls:Str}(h:MK K mg cls "Often.__init__" uT):uB P w K mg base cls 3 2 AI:=uB.of h Ea (fun _ _ _ _ _ _ us hl=>nN us hl eX) (Lb B xD kL gG)
theorem anP(B:dZ mg)(xD:qL P w K mg base "Pouch" "__init__" 1 2 xI)(kL:cM K ["Often"] "lost")(gG:cM K ["Often"] "tally"){rk:Str}(h:FI K mg rk "__init__" "Often.__init__" uT):qL P w K mg base rk "__init__" 3 2 AI:=qL.of h Ea (fun _ _ _ _ _ _ us hl=>nN us hl eX) (Lb B xD kL gG)
theorem Wu:cU ["self", "number", "times"] ["self", "number", "times"] (aV PR):=fN
theorem aiK(B:dZ mg)(ZY:bU P w K mg base "Often" "count_in" 1 3 [] MQ)(ZX:bU P w K mg base "Often" "cut_down" 2 1 [] MP){cls:Str}(h:lE K mg cls "take" "Often.take" PR):bU P w K mg base cls "take" 3 3 [] MN:=by
 refine bU.of h Wu (fun _ _ _ _ _ _ us hl=>GQ us hl (fun _ _ _=>rfl)) (fun _ _ _ _ _ _ _ hr=>?_);exact(bI (qS (uO cH (bR.cons ZY hr.m bR.nil) (vv 0) (aL (vv 1) (aL (vv 2) bC))))
  (bH (qS (lH cH (bR.cons ZX hr.m bR.nil) (vv 0)))))
theorem Wv:cU ["self", "least"] ["self", "least"] (aV HJ):=fN
theorem aiL(B:dZ mg)(AA:Lw P w K mg base)(sD:YY P w K mg base){cls:Str}(h:lE K mg cls "often" "Often.often" HJ):bU P w K mg base cls "often" 3 2 [] MO:=by
 refine bU.of h Wv (fun _ _ _ _ _ _ us hl=>nN us hl eX) (fun _ _ _ _ _ _ _ hr=>?_);exact(bH (cV (AZ false ["number"] [0,1] rfl (yM (aV HJ) ["self", "least"]) (qT (lH cH (bR.cons sD hr.m bR.nil) (vv 0))) (fun cl C s H fp=>⟨(lY (i:=0) (show(["number", "self", "least"]:List Str).Nodup by decide +kernel) rfl dM),(NB (dR QU (jN (Ob (bR.cons AA hr.m bR.nil) (vv 1) (aL (vv 0) bC)) aP eX) (vv 2) (dS _))),(vv 0)⟩))))
theorem BQ:cU ["_law_pouch", "_law_keep", "_law_length", "_law_counts", "_law_one", "_law_numbers", "_law_off"] ["_law_pouch", "_law_keep", "_law_length"] (aV BS):=fN
theorem aiB(B:dZ mg)(h:HasFn K mg "_law_counts_ok" BS)(sL:ZC P w K mg base)(zZ:Lu P w K mg base)(ZW:bU P w K mg base "Often" "held" 2 1 [] FR)(ZV:bU P w K mg base "Often" "length" 1 1 [] FQ)(sD:YY P w K mg base)(nZ:LR P w K mg base):Mc P w K mg base:=by
 refine fX.of h BQ (fun _ _ _ _ _ _ us hl=>GQ us hl (fun _ _ _=>rfl)) (fun _ _ _ _ _ _ _ hr=>?_);exact(bI (fZ (i:=3) BQ.nd rfl dM (lH cH (bR.cons zZ hr.m bR.nil) (vv 0)))
  (bI (fE (VW.vt (nK (nM (nL (gA EN rfl B.isinstance KU (aL (vv 3) (aL (AX rfl B.list LV) bC))))) (nK (dR (pM hr.units) (vv 3) (gA (Kr false) rfl B.sorted EO (aL (vv 3) bC)) (dS _)) (AW (dR tG (gA qD rfl B.len PySem.boot_len (aL (vv 3) bC)) (vv 1) (dS _))))))
   (bH (cV uN))
   fL)
  (bI (GI cH.passes rfl (qT (vv 3)) (lY (i:=4) BQ.nd rfl dM)
   (bI (fE (VW.vt (nK (nM (nL (gA EN rfl B.isinstance KU (aL (vv 4) (aL (AX rfl B.tuple PyProof.Rows.boot_tuple) bC))))) (nK (dR (pM hr.units) (gA qD rfl B.len PySem.boot_len (aL (vv 4) bC)) aP (dS _)) (nK (nM (nL (iB cH sL hr.m rfl (aL (jN (vv 4) aP eX) bC)))) (AW (nM (nL (iB cH sL hr.m rfl (aL (jN (vv 4) aP eX) bC)))))))))
    (bH (cV uN))
    fL)
   (bH (fE (dR HZ (jN (vv 4) aP eX) aP (dS _))
    (bH (cV uN))
    fL))))
  (bI (Nt (i:=5) false ["_law_number", "_law_count"] [] BQ.nd rfl dM rfl (yM (aV BS) ["_law_pouch", "_law_keep", "_law_length", "_law_counts", "_law_one", "_law_numbers", "_law_off"]) (qT (vv 3)) (fun cl C s H fp=>⟨(NF rfl (xO (lY (i:=0) (show(["_law_number", "_law_count"]:List Str).Nodup by decide +kernel) rfl dM) (xO (lY (i:=1) (show(["_law_number", "_law_count"]:List Str).Nodup by decide +kernel) rfl dM) ND))),NC,(vv 0)⟩))
  (bI (fZ (i:=6) BQ.nd rfl dM (lH cH (bR.cons nZ hr.m bR.nil) (vv 0)))
  (bI (fE (VW.vt (nK (dR (pM hr.units) (Oe rfl rfl B.len rfl B.set (vv 5)) (gA qD rfl B.len PySem.boot_len (aL (vv 5) bC)) (dS _)) (nK (nM (nL (iB cH sL hr.m rfl (aL (vv 6) bC)))) (AW (dR HZ (vv 6) aP (dS _))))))
   (bH (cV uN))
   fL)
  (bI (fE (dR tG (bA (fG false) (bA rC (vv 6) (bA (fG false) (vv 1) aP)) (gA (Kq rfl) rfl B.sum boot_sum (aL (AZ false ["_law_number", "_law_count"] [] rfl (yM (aV BS) ["_law_pouch", "_law_keep", "_law_length", "_law_counts", "_law_one", "_law_numbers", "_law_off"]) (qT (vv 3)) (fun cl C s H fp=>⟨(NF rfl (xO (lY (i:=0) (show(["_law_number", "_law_count"]:List Str).Nodup by decide +kernel) rfl dM) (xO (lY (i:=1) (show(["_law_number", "_law_count"]:List Str).Nodup by decide +kernel) rfl dM) ND))),NC,(vv 1)⟩)) bC))) (vv 2) (dS _))
   (bH (cV uN))
   fL)
  (bI (fE (VW.vt (nK (dR (pM hr.units) (lH cH (bR.cons ZW hr.m bR.nil) (vv 0)) (gA qD rfl B.len PySem.boot_len (aL (vv 3) bC)) (dS _)) (nK (dR (pM hr.units) (lH cH (bR.cons sD hr.m bR.nil) (vv 0)) (vv 5) (dS _)) (AW (dR (pM hr.units) (lH cH (bR.cons ZV hr.m bR.nil) (vv 0)) (vv 2) (dS _))))))
   (bH (cV uN))
   fL)
  (bH (cV (NG (Ks rfl) rfl B.dict PyProof.Rows.boot_dict (aL (vv 3) bC))))))))))))
theorem Dw:cU ["self", "number", "times"] ["self", "number", "times"] (aV uR):=fN
theorem Kz(B:dZ mg)(iA:cM K ["Often"] "many")(jL:cM K ["Often"] "taken")(uD:ZA P w K mg base)(uC:YZ P w K mg base)(f:Addr)(aR:Value)(A:Around)(outer:List Env)(s:Shared)(H:Hp)(E:XK)(hr:bN 3 (A.deeper (envOfC "Pouch.put" (aV uR) s.heap.objs.size f aR))) :
  jW (nE P w K mg base ["self", "number", "times"] "Pouch.put" (aV uR) f aR A outer s H E) (fun _=>E) (dW uR) LI:=by
 exact(bI (fE (dR HZ (vv 2) aP (dS _))
   (bH Bk)
   fL)
  (bI (qS (uO cH (bR.cons uD hr.m bR.nil) (vv 0) (aL (vv 2) bC)))
  (bI (qS (uO cH (bR.cons uC hr.m bR.nil) (vv 0) (aL (vv 1) (aL (vv 2) bC))))
  (bI (qR (vv 0) (bA (fG false) (mP (vv 0) iA) (vv 2)) iA)
  (bH (qR (vv 0) (bA (fG false) (mP (vv 0) jL) aP) jL))))))
theorem aiF(B:dZ mg)(iA:cM K ["Often"] "many")(jL:cM K ["Often"] "taken")(uD:ZA P w K mg base)(uC:YZ P w K mg base){cls:Str}{tk:Tok}(h:MJ K mg cls "put" "Pouch.put" uR #[.int 1 tk]):bU P w K mg base cls "put" 4 3 [] qM:=bU.ofD (ds:=[]) (dvs:=[]) h .nil (fun _ _ => .nil) Dw (fun _ _ _ _ _ _ _ us hl=>match us,hl with | [_,_,_],_=>⟨_,rfl,rfl⟩) (Kz B iA jL uD uC)
theorem ahP(B:dZ mg)(iA:cM K ["Often"] "many")(jL:cM K ["Often"] "taken")(uD:ZA P w K mg base)(uC:YZ P w K mg base){cls:Str}{tk:Tok}(h:MJ K mg cls "put" "Pouch.put" uR #[.int 1 tk]):bU P w K mg base cls "put" 4 3 [.int 1] qM:=bU.ofD (ds:=[.int 1 tk]) (dvs:=[.int 1]) h (.cons ⟨_,rfl⟩ .nil) (fun _ _ => .cons (by simp only [V2.Den]) .nil) Dw (fun _ _ _ _ _ _ _ us hl=>match us,hl with | [_,_],_=>⟨_,rfl,rfl⟩) (Kz B iA jL uD uC)
theorem BP:cU ["_law_pouch", "_law_kept", "_law_row", "_law_least", "_law_length", "_law_found", "_law_off", "_law_number", "_law_times_here"] ["_law_pouch", "_law_kept", "_law_row", "_law_least", "_law_length"] (aV HI):=fN
theorem ah8(B:dZ mg)(h:HasFn K mg "_law_often_ok" HI)(nZ:LR P w K mg base)(ZU:bU P w K mg base "Often" "often" 3 2 [] MO):Mb P w K mg base:=by
 refine fX.of h BP (fun _ _ _ _ _ _ us hl=>Ca us hl (fun _ _ _ _ _=>rfl)) (fun _ _ _ _ _ _ _ hr=>?_);exact(bI (fZ (i:=5) BP.nd rfl dM (uO cH (bR.cons ZU hr.m bR.nil) (vv 0) (aL (vv 3) bC)))
  (bI (fZ (i:=6) BP.nd rfl (Or.inr rfl) (lH cH (bR.cons nZ hr.m bR.nil) (vv 0)))
  (bI (fE (dR (pM hr.units) (vv 5) (AZ false ["_law_number"] [1,3,4,6] rfl (yM (aV HI) ["_law_pouch", "_law_kept", "_law_row", "_law_least", "_law_length", "_law_found", "_law_off", "_law_number", "_law_times_here"]) (qT (gA (ajW false) rfl B.sorted EO (aL (Bo false rfl rfl B.list (vv 1)) bC))) (fun cl C s H fp=>⟨(lY (i:=0) (show(["_law_number", "_law_kept", "_law_least", "_law_length", "_law_off"]:List Str).Nodup by decide +kernel) rfl dM),(NB (dR QU (gA (KP rfl) rfl B.min boot_min (aL (vv 3) (aL (bA (fG false) (Ol (bN.pI hr) (vv 1) (vv 0) eX) (vv 4)) bC))) (vv 2) (dS _))),(vv 0)⟩)) (dS _))
   (bH (cV mQ))
   fL)
  (bI (Nv cH.passes rfl (vv 2) (NF rfl (xO (lY (i:=7) BP.nd rfl dM) (xO (lY (i:=8) BP.nd rfl dM) ND)))
   (bH (fE (VW.vt (GH (dR QU (vv 8) (vv 3) (dS _)) (GH (dR tG (vv 8) (vv 6) (dS _)) (NA (dR (abQ hr.units) (vv 7) (vv 5) rfl)))))
    (bH (cV mQ))
    fL)))
  (bH (cV mQ))))))
theorem BO:cU ["_law_pouch", "_law_keep", "_law_row", "_law_cell_here", "_law_length", "_law_kept", "_law_number", "_law_least"] ["_law_pouch", "_law_keep", "_law_row", "_law_cell_here"] (aV PB):=fN
theorem ah6(B:dZ mg)(h:HasFn K mg "_law_truly" PB)(Av:Lv P w K mg base)(Au:Mc P w K mg base)(Ar:Mb P w K mg base)(nZ:LR P w K mg base):Ma P w K mg base:=by
 refine fX.of h BO (fun _ _ _ _ _ _ us hl=>Cb us hl (fun _ _ _ _=>rfl)) (fun _ _ _ _ _ _ _ hr=>?_);exact(bI (fZ (i:=4) BO.nd rfl dM (gA (Kq rfl) rfl B.sum boot_sum (aL (Od false rfl rfl B.list (vv 2)) bC)))
  (bI (fZ (i:=5) BO.nd rfl dM (iB cH Au hr.m rfl (aL (vv 0) (aL (vv 1) (aL (vv 4) bC)))))
  (bI (fE (dR abR (vv 5) uN (dS _))
   (bH (cV mQ))
   fL)
  (bI (GI cH.passes rfl (qT (bA (fG false) (Bo false rfl rfl B.list (vv 2)) (GK false (aL (bA CF (bA gZ (vv 3) aP) aP) bC)))) (lY (i:=6) BO.nd rfl dM)
   (bI (fE (nM (nL (iB cH Av hr.m rfl (aL (vv 0) (aL (vv 5) (aL (vv 2) (aL (vv 6) (aL (vv 4) bC))))))))
    (bH (cV mQ))
    fL)
   (bH (fE (VW.vt (GH (dR tG (bA rC (xP (bN.pI hr) (vv 2) (vv 6) aP ⟨rfl,rfl,rfl,rfl⟩) (bA (fG false) (vv 1) aP)) (vv 4) (dS _)) (NA (Nr (bN.pI hr) (vv 6) (vv 5)))))
    (bH (cV mQ))
    fL))))
  (bI (GI cH.passes rfl (qT (GK false (aL aP (aL (bA (fG false) aP (bA gZ (vv 3) aP)) (aL (bA (fG false) (lH cH (bR.cons nZ hr.m bR.nil) (vv 0)) aP) (aL (bA (fG false) aP (bA oN (vv 4) (bA (fG false) (vv 1) aP))) bC)))))) (lY (i:=7) BO.nd rfl dM)
   (bH (fE (nM (nL (iB cH Ar hr.m rfl (aL (vv 0) (aL (vv 5) (aL (vv 2) (aL (vv 7) (aL (vv 4) bC))))))))
    (bH (cV mQ))
    fL)))
  (bH (cV mQ)))))))
theorem nP:cU ["_law_script", "_law_cell_here", "_law_keep", "_law_pouch", "_law_way", "_law_row", "_law_k", "_law_step", "_law_number", "_law_times_here"] ["_law_script"] (aV qZ):=fN
theorem ah1{f:Addr}{fd:FuncData}(B:dZ mg)(F:mL K "law" "law" qZ f fd)(FV:Lx P w K mg base)(As:Ly P w K mg base)(uI:ZD P w K mg base)(Aq:Lz P w K mg base)(FU:Ma P w K mg base)(Ah:uB P w K mg base "Often" 3 2 AI)(zZ:Lu P w K mg base)(sD:YY P w K mg base)(ZT:bU P w K mg base "Often" "put" 4 3 [] qM)(ZS:bU P w K mg base "Often" "puts" 1 1 [] FP)(ZN:bU P w K mg base "Often" "put" 4 3 [.int 1] qM):fQ P w K mg base (kJ P w) 6 f fd ["_law_script"] (pJ K 1 My):=by
 refine Jc F nP (fun _ _ _ _ _ _ _ hr=>?_);exact(bI (fZ (i:=1) nP.nd rfl dM (iB cH FV hr.m rfl (aL (vv 0) (aL aP bC))))
  (bI (fZ (i:=2) nP.nd rfl dM (bA (fG false) aP (bA gZ (vv 1) aP)))
  (bI (fE (dR (tH hr.units) (bA gZ (bA oN (vv 1) aP) aP) aP (dS _))
   (bH (fZ (i:=2) nP.nd rfl dM aP))
   fL)
  (bI (fE (dR (tH hr.units) (bA gZ (bA oN (vv 1) aP) aP) aP (dS _))
   (bH (fZ (i:=2) nP.nd rfl dM (bA (fG false) aP (bA gZ (bA oN (vv 1) aP) aP))))
   fL)
  (bI (fZ (i:=3) nP.nd rfl dM (Oc Ah hr.m rfl (aL (vv 2) bC)))
  (bI (fZ (i:=4) nP.nd rfl dM (bA gZ (bA oN (vv 1) aP) aP))
  (bI (fZ (i:=5) nP.nd rfl dM Bp)
  (bI (fE (nM (nL (iB cH FU hr.m rfl (aL (vv 3) (aL (vv 2) (aL (vv 5) (aL (vv 1) bC)))))))
   (bH (cV mQ))
   fL)
  (bI (GI cH.passes rfl (Nw rfl B.range (aL aP (aL (gA (KP rfl) rfl B.min boot_min (aL (gA qD rfl B.len PySem.boot_len (aL (vv 0) bC)) (aL aP bC))) bC))) (lY (i:=6) nP.nd rfl dM)
   (bI (fZ (i:=7) nP.nd rfl dM (iB cH uI hr.m rfl (aL (iB cH FV hr.m rfl (aL (vv 0) (aL (vv 6) bC))) (aL (vv 6) bC))))
   (bI (fZ (i:=8) nP.nd rfl dM (iB cH As hr.m rfl (aL (iB cH uI hr.m rfl (aL (vv 7) (aL aP bC))) (aL (vv 4) bC))))
   (bI (fZ (i:=9) nP.nd rfl dM (iB cH Aq hr.m rfl (aL (iB cH uI hr.m rfl (aL (vv 7) (aL aP bC))) bC)))
   (bI (fE (dR (tH hr.units) (vv 9) aP (dS _))
    (bH (qS (uO cH (bR.cons ZN hr.m bR.nil) (vv 3) (aL (vv 8) bC))))
    (bH (qS (uO cH (bR.cons ZT hr.m bR.nil) (vv 3) (aL (vv 8) (aL (vv 9) bC))))))
   (bI (Bn (bN.pI hr) (vv 5) (vv 8) (bA (fG false) (xP (bN.pI hr) (vv 5) (vv 8) aP ⟨rfl,rfl,rfl,rfl⟩) (vv 9)))
   (bH (fE (VW.vt (GH (dR (tH hr.units) (bA gZ (vv 6) aP) aP (dS _)) (NA (nM (nL (iB cH FU hr.m rfl (aL (vv 3) (aL (vv 2) (aL (vv 5) (aL (vv 7) bC))))))))))
    (bH (cV mQ))
    fL))))))))
  (bI (fE (dR (pM hr.units) (lH cH (bR.cons ZS hr.m bR.nil) (vv 3)) (gA (ajX rfl) rfl B.max boot_max (aL aP (aL (bA CF (gA (KP rfl) rfl B.min boot_min (aL (gA qD rfl B.len PySem.boot_len (aL (vv 0) bC)) (aL aP bC))) aP) bC))) (dS _))
   (bH (cV mQ))
   fL)
  (bI (qS (Bq PySem.F.plainAttrs_list PySem.F.slot_list_append PySem.F.type_list_append Fw Fz (lH cH (bR.cons zZ hr.m bR.nil) (vv 3)) (aL (AY (aL aP (aL aP bC))) bC)))
  (bI (qS (Bq PySem.F.plainAttrs_list PySem.F.slot_list_append PySem.F.type_list_append Fw Fz (lH cH (bR.cons sD hr.m bR.nil) (vv 3)) (aL aP bC)))
  (bH (cV (iB cH FU hr.m rfl (aL (vv 3) (aL (vv 2) (aL (vv 5) (aL (iB cH FV hr.m rfl (aL (vv 0) (aL aP bC))) bC)))))))))))))))))))
end
theorem all_mk{l:OpenLaw}{w:World}{K:Frag}{h:Heap}{mg:Str→Option Value}{fa fl:Addr}{od an:Option Addr}{sl:Array (Option Value)}{oc kV dc pm cd ct:Value}(X:K.In h)(G:h.Ns mainGlobals mg)(hfa:mg "law" = some (.ref fa))
  (al:nsIn K mainGlobals "law" = some (some (.ref fl))) (ll:K.lookup fl=some ⟨oc,od,.func (fnOf "law" "law" (iR qZ) (dW qZ) (aV qZ) .none kV dc pm an cd ct),sl⟩) (lc:codeIn K cd "law" = true) (lk:keepIn K (.ref fl)=true)
  (B:dZ mg)
  (af2:HasFn K mg "cut" BR)
  (af7:HasFn K mg "_law_mix" PF)
  (agB:HasFn K mg "_law_cell" PK)
  (af3:HasFn K mg "_law_whole" OZ)
  (af5:HasFn K mg "_law_times" PD)
  (af8:HasFn K mg "_law_many" PH)
  (af9:HasFn K mg "_law_counts_ok" BS)
  (agA:HasFn K mg "_law_counted_ok" PJ)
  (af6:HasFn K mg "_law_often_ok" HI)
  (af4:HasFn K mg "_law_truly" PB)
  (US:∃t,mg "LONGEST" = some (.int 1000000000 t))
  {hW:Addr} (iG:nsIn K mainGlobals "Often" = some (some (.ref hW))) (iS:kI K hW)
  (acG:findIn K (.ref hW) "keep" = some none)
  (acF:findIn K (.ref hW) "lost" = some none)
  (acE:findIn K (.ref hW) "many" = some none)
  (acD:findIn K (.ref hW) "taken" = some none)
  (acC:findIn K (.ref hW) "tally" = some none)
  {Pr:Tok} (Er:LX K hW "put" "Pouch.put" uR #[.int 1 Pr])
  (Xy:lD K hW "look_room" "Pouch.look_room" PN)
  (Xz:lD K hW "length" "Pouch.length" PO)
  (Xu:lD K hW "puts" "Pouch.puts" PL)
  (Yc:lD K hW "held" "Pouch.held" PQ)
  (Xx:lD K hW "numbers" "Pouch.numbers" PM)
  (Yi:MG K hW "Often.__init__" uT)
  (Xs:lD K hW "take" "Often.take" PR)
  (Yh:lD K hW "count_in" "Often.count_in" QA)
  (Yd:lD K hW "cut_down" "Often.cut_down" PX)
  (Ye:lD K hW "counts" "Often.counts" PY)
  (Yb:lD K hW "kept" "Often.kept" PV)
  (Xw:lD K hW "off" "Often.off" PU)
  (Yg:lD K hW "counted" "Often.counted" PZ)
  (Xv:lD K hW "often" "Often.often" HJ)
  (afZ:FI K mg "Pouch" "__init__" "Pouch.__init__" uS)
  : ∃fd:FuncData,(∀(s:Shared) (v:Value),BindsTo s fd ⟨[v],[]⟩ [("_law_script",v)])∧∀base:Heap,K.In base→base.Ns mainGlobals mg→fQ l.prog w K mg base qO 6 fa fd ["_law_script"] (HB K):=by
 have e:=hfa.symm.trans (mg_of X G al);cases e;have pD:cM K ["Often"] "keep":=EK iG iS acG (EJ);have kL:cM K ["Often"] "lost":=EK iG iS acF (EJ);have iA:cM K ["Often"] "many":=EK iG iS acE (EJ);have jL:cM K ["Often"] "taken":=EK iG iS acD (EJ);have gG:cM K ["Often"] "tally":=EK iG iS acC (EJ);have FL:=DZ (st:=qZ) ll lc lk;refine⟨fnOf "law" "law" (iR qZ) (dW qZ) (aV qZ) .none kV dc pm an cd ct,fun s v => .of_eq rfl,fun base _ _=>?_⟩;have Ap:=@ah4 l.prog w K mg base B af2;have uI:=@ah9 l.prog w K mg base B af7;have sL:=@ah5 l.prog w K mg base B af3;have Aq:=@ah7 l.prog w K mg base B af5;have As:=@aiA l.prog w K mg base B af8;have xD:=@ahV l.prog w K mg base B pD iA jL _ afZ;have uD:=@aiH l.prog w K mg base B US iA _ (Xy.has X G iG iS);have ZV:=@aiI l.prog w K mg base B iA _ (Xz.has X G iG iS);have ZS:=@aiE l.prog w K mg base B jL _ (Xu.has X G iG iS);have ZY:=@aiR l.prog w K mg base B gG _ (Yh.has X G iG iS);have zZ:=@aiP l.prog w K mg base B gG _ (Ye.has X G iG iS);have zY:=@aiN l.prog w K mg base B gG _ (Yb.has X G iG iS);have nZ:=@aiM l.prog w K mg base B kL _ (Xw.has X G iG iS);have AA:=@aiQ l.prog w K mg base B kL gG _ (Yg.has X G iG iS);have FV:=@aiD l.prog w K mg base B agB uI;have Av:=@aiC l.prog w K mg base B agA sL AA nZ;have ZW:=@aiJ l.prog w K mg base B zY _ (Yc.has X G iG iS);have sD:=@aiG l.prog w K mg base B zY _ (Xx.has X G iG iS);have ZX:=@aiO l.prog w K mg base B Ap pD kL gG _ (Yd.has X G iG iS);have Au:=@aiB l.prog w K mg base B af9 sL zZ ZW ZV sD nZ;have Ah:=@ahT l.prog w K mg base B xD kL gG _ (Yi.has X G iG);have uC:=@aiK l.prog w K mg base B ZY ZX _ (Xs.has X G iG iS);have ZU:=@aiL l.prog w K mg base B AA sD _ (Xv.has X G iG iS);have Ar:=@ah8 l.prog w K mg base B af6 nZ ZU;have ZT:=@aiF l.prog w K mg base B iA jL uD uC _ _ (Er.has X G iG iS);have ZN:=@ahP l.prog w K mg base B iA jL uD uC _ _ (Er.has X G iG iS);have FU:=@ah6 l.prog w K mg base B af4 Av Au Ar nZ;exact ac5 (ah1 B FL FV As uI Aq FU Ah zZ sD ZT ZS ZN) M.ac7
theorem walk{l:OpenLaw}{q:Program}{loose:List Str}{XP:(Str→Option Value)→Heap→Prop}{YP:World→Heap→Prop}{d:DefRec}{K:Params→Frag}(hn:l.most=some 63)(DL:d.params.defaults=[])
  (hY:∀(w:World) (h:Heap),YP w h→(K w.params).In h)
  (F:∀(w:World) (mg:Str→Option Value) (fa:Addr) (h:Heap),(K w.params).In h→h.Ns mainGlobals mg→mg d.name=some (.ref fa) →
   ∃fd:FuncData,(∀(s:Shared) (u:Value),BindsTo s fd ⟨[u],[]⟩ [("_law_script",u)])∧∀base:Heap,(K w.params).In base→base.Ns mainGlobals mg→fQ l.prog w (K w.params) mg base qO 6 fa fd ["_law_script"] (HB (K w.params))) :
  PySem.W.WalkO q loose XP YP l.row.toRowW d [] (fun f vs=>PySem.call f vs) :=
 L2.Np (n:=63) (k:=6) (x := "_law_script") (CX:=fun _=>qO) (sp:=fun w=>HB (K w.params)) hn (by decide) DL ⟨rfl,by decide,by decide⟩ hY F (fun _ _ a ns hl _ hS=>⟨a,ns,rfl,hS,hl,fun _=>rfl⟩) fun _ _ _ _ _ z=>z
end Ai
open PySem PySem.W PyProof.Rows
namespace HD
open PySem PySem.W PyProof.Rows
def HK(B:String→Option Builtin)(p:Program)(w:World)(lo:Nat)(an:Option Value):Nat→SharedT→Thread→Option SharedT
 | 0,_,_=>none
 | m+1,x,th=>bif through th then some x else bif stepOk lo an th then(stepT (denote B) p w x th).bind (fun y=>HK B p w lo an m y.1 y.2)else none
theorem Xe{B:String→Option Builtin}{p:Program}{w:World}{lo:Nat}{an:Option Value}(m:Nat) :
  ∀(x y:SharedT) (th:Thread),HK B p w lo an m x th=some y→topRun B p w lo an m x.abs th=some y.abs:=by
 induction m with
 | zero=>intro x y th z;cases z
 | succ m ih =>
  intro x y th z;unfold HK at z;unfold topRun;cases a:through th <;> rw [a]at z
  ·cases b:stepOk lo an th <;> rw [b]at z
   ·cases z
   ·obtain⟨u,hu,z'⟩:=qI.mp (show(stepT (denote B) p w x th).bind _=some y from z);dsimp only;rw [stepT_spec (s':=u.1) (t':=u.2) hu];exact ih _ _ _ z'
  ·cases z;rfl
def grow:List Obj→BT→Nat→BT
 | [],T,_=>T
 | o::l,T,n=>grow l (T.ins n o) (n+1)
noncomputable def boot(w:World)(os:OsState):SharedT:=⟨grow (boot_heap w.params).objs.toList .nil 0,11,(boot_heap w.params).life,#[],boot_drawn,boot_toks,os⟩
noncomputable def ends(p:Program)(N:Nat)(w:World)(os:OsState):Option SharedT:=HK treeTable p w 11 (some (.ref 6)) N (boot w os) (topStub p)
theorem aj1(w:World):((boot_heap w.params).isNs mainGlobals&&(#[]:Array GenState).size == 0,(boot_heap w.params).objs.size,(boot_heap w.params).nsMap mainGlobals "__annotations__")=(true,11,some (Value.ref 6)):=by kernel_rfl
theorem boot_abs(w:World)(os:OsState):(boot w os).abs=⟨boot_heap w.params,#[],boot_drawn,boot_toks,os⟩:=by kernel_rfl
def fits(p:Program)(h:Heap)(y:SharedT):Bool:=staticsOk (importedModules p.main.body) h y.abs.heap&&namesBound p y.abs.heap&&gensDone y.abs&&laidKept h y.abs.heap
theorem left{p q:Program}{loose:List Str}{Xt:Shared→Bool}{α:Type}{Yf:Shared→α}{Ya:World→α}{N:Nat}{g0:Bool}
  (plain:opening p=plainProg p.main.scope.names) (hN:Nat.ble 600 N=true) (fence:∀s,fenceModules? p s=some s)
  (tests:∀(w:World) (os:OsState),(ends p N w os).map (fits p (boot_heap w.params))=some true)
  (RB:∀(w:World) (os:OsState),(ends p N w os).map (fun y=>openSeen q loose (importedModules p.main.body) Xt g0 y.abs)=some (openGood q loose))
  (hook:∀(w:World) (os:OsState),(ends p N w os).map (fun y=>Yf y.abs)=some (Ya w)) :
  LeftO p q loose Xt Yf Ya N g0:=by
 intro w;obtain⟨⟨hp,ge,dr,tk,os⟩,ho,hq⟩:=sA.mp (boot_open plain hN fence w);simp only [ZE]at hq;obtain⟨rfl,rfl,rfl,rfl⟩:=hq;have bs:=aj1 w;simp only [ZE]at bs;obtain⟨y,hy,a1⟩:=sA.mp (tests w os);have a2:=RB w os;have a3:=hook w os;rw [hy]at a2 a3;have rr:=Xe _ _ _ _ hy;rw [boot_abs]at rr;have tt:topFrom treeTable p w N ⟨boot_heap w.params,#[],boot_drawn,boot_toks,os⟩=some y.abs:=by
  unfold topFrom;dsimp only;rw [bs.1,bs.2.1,bs.2.2,rr];show(match fits p (boot_heap w.params) y with | true=>some y.abs | false=>none)=some y.abs;rw [a1]
 show((fencedOpening treeTable p w N).bind (topFrom treeTable p w N)).map _=_;rw [ho,ZG,tt,EV,gW,ZE];exact⟨lR a2,lR a3⟩
set_option maxRecDepth 100000
set_option maxHeartbeats 0
noncomputable def adK(ds:List Nat)(l:List Stmt):List Stmt:=@List.rec Stmt (fun _=>Nat→List Stmt) (fun _=>[]) (fun s _ f i=>@Bool.rec (fun _=>List Stmt) (s::f (Nat.succ i)) (f (Nat.succ i)) (ds.any (Nat.beq i))) l 0
noncomputable def kept:Program:={ PySem.Challenge.pw_rankpouch_k62_often_bounds with main:={ PySem.Challenge.pw_rankpouch_k62_often_bounds.main with body:=adK [1,5,7,10] PySem.Challenge.pw_rankpouch_k62_often_bounds.main.body } }
noncomputable def seenX(s:Shared):Bool:=xlAt kept [] s&&recOk (RowW.records (OpenRow.toRowW (OpenLaw.row PySem.Challenge.rw_rankpouch_k62_often_bounds))) s
theorem said:OpenLaw.wellSaid PySem.Challenge.rw_rankpouch_k62_often_bounds=true:=by kernel_rfl
theorem plain:opening PySem.Challenge.pw_rankpouch_k62_often_bounds=plainProg PySem.Challenge.pw_rankpouch_k62_often_bounds.main.scope.names:=by kernel_rfl
theorem fence(s:Shared):fenceModules? PySem.Challenge.pw_rankpouch_k62_often_bounds s=some s:=by kernel_rfl
theorem tests(w:World)(os:OsState):(ends PySem.Challenge.pw_rankpouch_k62_often_bounds 4146 w os).map (fits PySem.Challenge.pw_rankpouch_k62_often_bounds (boot_heap w.params))=some true:=by kernel_rfl
theorem RB(w:World)(os:OsState):(ends PySem.Challenge.pw_rankpouch_k62_often_bounds 4146 w os).map (fun y=>openSeen kept [] (importedModules PySem.Challenge.pw_rankpouch_k62_often_bounds.main.body) seenX true y.abs)=some (openGood kept []):=by kernel_rfl
end HD
open PySem PySem.W PyProof.Rows
local macro_rules
 | `(tactic| o_head $H) => `(tactic| refine holds_open (q := HD.kept) (loose := []) (N := 4146) (Xt := HD.seenX)
   (XP := XL HD.kept []) (Yf := Hook.obs $H) (Ya := Hook.val $H) (YP := Hook.says $H)
   ?_ (Hook.of $H) (Hook.keeps $H) (fun s e => xl_of s (Bool.and_eq_true_iff.mp e).1) XL.keeps
   (by rfl) (by rfl) (by rfl) (fun s e => recFacts_of (Bool.and_eq_true_iff.mp e).2)
   (by rfl) (by assumption) (by decide +kernel) ⟨rfl, rfl, rfl, rfl, rfl, by decide +kernel⟩ ?_ ?_)
set_option maxRecDepth 100000 in
set_option maxHeartbeats 0 in
theorem PySem.Challenge.cw_rankpouch_k62_often_bounds_holds : PySem.Challenge.rw_rankpouch_k62_often_bounds.Holds := by
 w_on
 refine holds_law HD.said fun said=>?_
 k_head
 ·clear said
  refine HD.left HD.plain (by kernel_rfl) HD.fence HD.tests HD.RB ?_
  intro w os
  kernel_rfl
 ·clear said
  w_witness2
 clear said
 k_fill
 refine Ai.walk (l:=PySem.Challenge.rw_rankpouch_k62_often_bounds) rfl rfl (fun w h Y=>PySem.W.kIn_of Y) ?F
 case F =>
  intro w mg fa h KX G DA
  refine' Ai.all_mk KX G DA ?t1 ?t2 ?t3 ?t4 ⟨nQ KX G ?t5,nQ KX G ?t6,nQ KX G ?t7,nQ KX G ?t8,nQ KX G ?t9,nQ KX G ?Vn,nQ KX G ?Vf,nQ KX G ?Uy,nQ KX G ?Ur,nQ KX G ?Ui,nQ KX G ?Uc,nQ KX G ?Tz,nQ KX G ?Tx⟩ (L2.pX KX G ?Tw ?Tv ?Tu ?Tt) (L2.pX KX G ?Ts ?Tr ?Tq ?Tp) (L2.pX KX G ?To ?Tn ?Tj ?Ti) (L2.pX KX G ?Th ?Tg ?Tf ?Te) (L2.pX KX G ?Td ?Tc ?Tb ?Ta) (L2.pX KX G ?Sz ?Sy ?Sx ?Sw) (L2.pX KX G ?Sv ?Su ?Ss ?Sr) (L2.pX KX G ?Sq ?So ?Sn ?Sm) (L2.pX KX G ?Sl ?Sk ?Sj ?Si) (L2.pX KX G ?Sh ?Sg ?Sf ?Se) (V2.ai0 KX G ?Sd) ?Sb ⟨?t60,?Sa,?Rz,?t63⟩ ?Ry ?Rx ?Rw ?Rv ?Ru (V2.acH ?Rt ?Rr ?Rq ?Rp ?t73 ?t74) (V2.mW ?Ro ?Rm ?Rk ?Rj ?t79) (V2.mW ?t80 ?Ri ?Rh ?Rg ?t84) (V2.mW ?t85 ?Rf ?Rc ?Rb ?t89) (V2.mW ?t90 ?Ra ?Qz ?Qy ?t94) (V2.mW ?t95 ?Qx ?Qw ?Qv ?t99) (V2.ad7 ?t100 ?Vm ?Vl ?Vk ?t104 ?Vj ?t106) (V2.mW ?Vi ?Vh ?Vg ?Ve ?t111) (V2.mW ?t112 ?Vd ?Vc ?Vb ?t116) (V2.mW ?t117 ?Va ?Uz ?Ux ?t121) (V2.mW ?t122 ?Uw ?Uv ?Uu ?t126) (V2.mW ?t127 ?Ut ?Us ?Uq ?t131) (V2.mW ?t132 ?Uo ?Um ?Ul ?t136) (V2.mW ?t137 ?Uk ?Uj ?Uh ?t141) (V2.mW ?t142 ?Ug ?Ue ?Ud ?t146) (V2.aj4 KX G ?t147 ?t148 ?t149 ?t150 ?t151 ?Ub ?Ua)
  case t1 | t2 | t3 | t4 | t5 | t6 | t7 | t8 | t9 | Vn | Vf | Uy | Ur | Ui | Uc | Tz | Tx | Tw | Tv | Tu | Tt | Ts | Tr | Tq | Tp | To | Tn | Tj | Ti | Th | Tg | Tf | Te | Td | Tc | Tb | Ta | Sz | Sy | Sx | Sw | Sv | Su | Ss | Sr | Sq | So | Sn | Sm | Sl | Sk | Sj | Si | Sh | Sg | Sf | Se | Sd | Sb=>k_is
  case t60 | Sa | Rz=>kernel_rfl
  case t63 | Ry | Rx | Rw | Rv | Ru | Rt | Rr | Rq | Rp=>k_is
  case t73=>kernel_rfl
  case t74 | Ro | Rm | Rk | Rj=>k_is
  case t79=>kernel_rfl
  case t80 | Ri | Rh | Rg=>k_is
  case t84=>kernel_rfl
  case t85 | Rf | Rc | Rb=>k_is
  case t89=>kernel_rfl
  case t90 | Ra | Qz | Qy=>k_is
  case t94=>kernel_rfl
  case t95 | Qx | Qw | Qv=>k_is
  case t99=>kernel_rfl
  case t100 | Vm | Vl | Vk=>k_is
  case t104 | Vj=>kernel_rfl
  case t106 | Vi | Vh | Vg | Ve=>k_is
  case t111=>kernel_rfl
  case t112 | Vd | Vc | Vb=>k_is
  case t116=>kernel_rfl
  case t117 | Va | Uz | Ux=>k_is
  case t121=>kernel_rfl
  case t122 | Uw | Uv | Uu=>k_is
  case t126=>kernel_rfl
  case t127 | Ut | Us | Uq=>k_is
  case t131=>kernel_rfl
  case t132 | Uo | Um | Ul=>k_is
  case t136=>kernel_rfl
  case t137 | Uk | Uj | Uh=>k_is
  case t141=>kernel_rfl
  case t142 | Ug | Ue | Ud=>k_is
  case t146=>kernel_rfl
  case t147=>k_is
  case t148=>kernel_rfl
  case t149=>k_is
  case t150=>kernel_rfl
  case t151 | Ub | Ua=>k_is
