import PyProof.Rows.All
import KE.KDictList
import KE.KItemsList
import KE.KRevIter
import KE.KSortTup
import KE.KUnpack
import PyProof.DefCall
import PyProof.Draws
import PyProof.ExcClass3
import PyProof.ExcInit
import PyProof.InstStoreFacts
import PyProof.MaxThree
import PyProof.P3In
import PyProof.Rows.FStr
import PyProof.Rows.RuleN_abs
import PyProof.ZipIter
import Wide.All
import OpenK.AllK
import Wide.FinOn
import Lean
import PyProof.EqAt
import PyProof.EqKinds
import PyProof.TupleCall
import PySem.Challenge.RW_rankpouch_k86_whole_window
set_option Elab.async false
set_option linter.all false
set_option maxRecDepth 100000
abbrev aZ:=@PySem.wpAny_bind
abbrev cQ:=@Ne.symm
abbrev dA:=@PySem.Heap.lt_size
abbrev dH:=@List.map_cons
abbrev dI:=@List.getElem?_eq_some_iff
abbrev dM:=@PySem.wpAny_pure
abbrev dN:=@List.mem_cons
abbrev dZ:=@List.getElem?_set_ne
abbrev eL:=@PySem.Heap.get?_push_of_some
abbrev eT:=@List.getElem?_set_self
abbrev eX:=@List.getElem?_eq_getElem
abbrev fW:=@if_true
abbrev gO:=@List.length_cons
abbrev iE:=@Nat.ne_of_lt
abbrev iM:=@List.size_toArray
abbrev jJ:=@Option.some.inj
abbrev jK:=@List.mem_cons_of_mem
abbrev jL:=@List.getElem?_append_left
abbrev jN:=@if_false
abbrev jR:=@Int.le_refl
abbrev kD:=@Option.some.injEq
abbrev kE:=@Nat.lt_of_lt_of_le
abbrev kF:=@List.length_append
abbrev kG:=@List.getElem?_map
abbrev kH:=@PySem.Heap.get?_push_size
abbrev kJ:=@PySem.wpAny_mono
abbrev kQ:=@List.length_map
abbrev mG:=@PySem.sizeLine_eq
abbrev mM:=@List.mem_map
abbrev mO:=@List.mem_append_right
abbrev nH:=@List.mem_of_getElem?
abbrev nK:=@Bool.and_eq_true
abbrev oB:=@PySem.wpAny_of_eq
abbrev oZ:=@List.mem_append
abbrev qE:=@Nat.le_trans
abbrev qK:=@PySem.wpAny_field
abbrev qR:=@or_false
abbrev qU:=@PySem.W.mg_none_of
abbrev rC:=@Nat.le_refl
abbrev rD:=@List.sum_cons
abbrev rE:=@List.not_mem_nil
abbrev rM:=@PySem.wpAny_ite_false
abbrev sI:=@decide_eq_false
abbrev sL:=@List.getElem?_append_right
abbrev sN:=@List.cons.injEq
abbrev sO:=@Bool.false_eq_true
abbrev tT:=@List.mem_singleton
abbrev tV:=@PySem.Heap.size_push
abbrev uQ:=@beq_eq_false_iff_ne
abbrev uT:=@List.map_map
abbrev vF:=@PySem.wpAny_truthy_bool
abbrev vG:=@PySem.wpAny_newObj_type
abbrev vH:=@PySem.wpAny_Call_Name_kw
abbrev wY:=@Nat.zero_add
abbrev wZ:=@List.pairwise_cons
abbrev xA:=@List.nil_append
abbrev xB:=@List.mem_append_left
abbrev xC:=@List.length_nil
abbrev xE:=@Int.emod_lt_of_pos
abbrev xK:=@PySem.wpAny_holding
abbrev xM:=@PySem.wpAny_call
abbrev yX:=@PySem.codeAny_mono
abbrev zF:=@Option.map_eq_some_iff
abbrev zH:=@List.set_set
abbrev zI:=@List.nodup_cons
abbrev zJ:=@List.append_nil
abbrev zL:=@Int.emod_nonneg
abbrev zM:=@Int.add_mul
abbrev CQ:=@beq_iff_eq
abbrev CW:=@Nat.zero_le
abbrev CY:=@Nat.ne_of_gt
abbrev DA:=@List.find?_cons
abbrev DE:=@Int.le_trans
abbrev DF:=@PySem.Heap.get?_update_other
abbrev DO:=@PySem.wpAny_passesOwn
abbrev GZ:=@List.map_nil
abbrev HA:=@List.map_append
abbrev HB:=@List.lookup_cons
abbrev HC:=@List.length_set
abbrev HF:=@Int.eq_ofNat_of_zero_le
abbrev HM:=@Classical.choose_spec
abbrev MB:=@decide_eq_true
abbrev MX:=@Prod.mk.injEq
abbrev NA:=@Nat.le_succ
abbrev NF:=@List.take_of_length_le
abbrev NG:=@List.map_congr_left
abbrev NH:=@List.getElem_mem
abbrev NI:=@List.getElem?_take
abbrev NJ:=@List.flatten_cons
abbrev NK:=@List.filter_cons
abbrev NV:=@PySem.wpAny_setField_rec
abbrev NW:=@PySem.wpAny_ite_true
abbrev NX:=@PySem.wpAny_call_entry
abbrev UE:=@Option.map_some
abbrev UG:=@Nat.lt_or_ge
abbrev UL:=@List.of_mem_zip
abbrev UM:=@List.nodup_append
abbrev UN:=@List.filterMap_cons
abbrev UO:=@List.ext_getElem?
abbrev UP:=@List.any_cons
abbrev UQ:=@List.all_eq_true
abbrev UW:=@Int.zero_add
abbrev UX:=@Int.mul_le_mul_of_nonneg_right
abbrev UY:=@Int.ediv_nonneg
abbrev VR:=@PySem.wpAny_pyIter_list
abbrev VU:=@PySem.wpAny_pyIter_enum
abbrev VV:=@PySem.wpAny_execs_nil
abbrev VX:=@PySem.wpAny_callSpecial?_slot
abbrev Hg:=@beq_self_eq_true
abbrev Iu:=@PyProof.Rows.callWith_type1
abbrev Iz:=@Nat.lt_succ_self
abbrev Ja:=@Nat.lt_succ_of_lt
abbrev Jb:=@Nat.le_of_not_lt
abbrev Jh:=@List.take_append_drop
abbrev Ji:=@List.mem_of_mem_take
abbrev Jj:=@List.mem_of_mem_drop
abbrev Jk:=@List.mem_map_of_mem
abbrev Jl:=@List.map_drop
abbrev Jm:=@List.cons_append
abbrev Jn:=@List.all_cons
abbrev Jv:=@Int.le_of_eq
abbrev Jw:=@Int.add_comm
abbrev Ke:=@PySem.F.slot_enumerate_next
abbrev Ks:=@PySem.Calls.spliced_cons
abbrev Kt:=@Bool.false_ne_true
abbrev Ku:=@Array.length_toList
abbrev Lc:=@PySem.wpAny_newFunctionEnv_cells
abbrev Ld:=@PySem.wpAny_newFunctionEnv
abbrev Wj:=@decide_eq_true_eq
abbrev Wx:=@PySem.codeAny_call_function
abbrev Zc:=@PyProof.Rows.slot_tuple_getitem
abbrev Zo:=@List.length_range
abbrev Zp:=@List.length_pos_iff
abbrev Zq:=@List.length_filter_le
abbrev Zr:=@List.getElem_of_mem
abbrev Zs:=@List.getElem?_cons_succ
abbrev Zt:=@List.eq_nil_of_length_eq_zero
abbrev Zu:=@List.drop_of_length_le
abbrev Zx:=@Int.lt_mul_ediv_self_add
abbrev Zy:=@PySem.Heap.get?_update_self
abbrev aaC:=@PySem.F.args_list_append_2
abbrev aaG:=@PySem.Calls.evalArgs_plain
abbrev aaH:=@PySem.Calls.callWith_builtin
theorem bF{α:Sort _}{a:α}{q:Prop}:a=a∨q:=Or.inl rfl
theorem bI{α β γ:Sort _}{f:α→β→γ}:∀x y,f x y=f x y:=fun _ _=>rfl
theorem cJ{n:Nat}:n≤n:=rC n
theorem wH{n:Int}:n≤n:=jR n
theorem nP{α:Type _}{a:α}{l:List α}:a∈a::l:=List.mem_cons_self ..
theorem nZl{n:Nat}:0≤n:=CW n
open PySem.W (Frag OpenLaw callWith_K cellsFrom_some clsIn codeHdIn codeIn codeRec_of emptyDict envX excIn findIn fnOf hasDictIn instObj isFn isNs_of_in keepIn kia_one kitOne kla_fn kla_obj lookIn makesIn methodObj mg_of mroIn noTabs nsIn plainGet plainGet_of specialIn subIn tabIn tabObj takerIn typeIn)
namespace L2
open PySem PySem.Spec PyProof.Rows
abbrev Key:=Sum Int Str
def FD:Key→Value→Bool
 | .inl k,v=>Value.isInt k v
 | .inr x,v=>Value.isStrOf x v
def ao3(w:World):Key→Int
 | .inl k=>hashInt k
 | .inr x=>hashStr w x
theorem sZ:∀{k:Key} {v:Value},FD k v=true→(∃i t,k=Sum.inl i∧v=Value.int i t)∨(∃x t,k=Sum.inr x∧v=Value.str x t)
 | .inl i,v,h=>by
  obtain⟨t,e⟩:=Value.isInt_shape (k:=i) (v:=v) h;exact .inl ⟨i,t,rfl,e⟩
 | .inr x,v,h=>by
  obtain⟨t,e⟩:=Value.isStrOf_shape (x:=x) (v:=v) h;exact .inr ⟨x,t,rfl,e⟩
theorem ao2(i:Int)(t:Tok):FD (.inl i) (.int i t)=true:=by simp [FD,Value.isInt]
theorem ao1(x:Str)(t:Tok):FD (.inr x) (.str x t)=true:=by simp [FD,Value.isStrOf]
theorem ao0(a b:Int):decide ((Sum.inl a:Key)=Sum.inl b)=(a == b):=by
 by_cases e:a=b
 ·subst e;simp
 ·have h:¬(Sum.inl a:Key)=Sum.inl b:=fun q=>e (Sum.inl.inj q);rw [sI h];exact(uQ.mpr e).symm
theorem aoX(a b:Str):decide ((Sum.inr a:Key)=Sum.inr b)=decide (a=b):=by
 by_cases e:a=b
 ·subst e;simp
 ·have h:¬(Sum.inr a:Key)=Sum.inr b:=fun q=>e (Sum.inr.inj q);rw [sI h,sI e]
theorem aoZ(a:Int)(b:Str):decide ((Sum.inl a:Key)=Sum.inr b)=false:=sI (fun q=>nomatch q)
theorem aoY(a:Str)(b:Int):decide ((Sum.inr a:Key)=Sum.inl b)=false:=sI (fun q=>nomatch q)
def lO(prog:Program)(w:World):PySem.KeyKind prog w Key where
 is:=FD
 hash:=ao3 w
 inj:=fun v a b ha hb=>by
  rcases sZ ha with⟨i,t,rfl,rfl⟩ | ⟨x,t,rfl,rfl⟩
  ·rcases sZ hb with⟨j,u,rfl,e⟩ | ⟨y,u,rfl,e⟩
   ·injection e with e1 _;rw [e1]
   ·exact nomatch e
  ·rcases sZ hb with⟨j,u,rfl,e⟩ | ⟨y,u,rfl,e⟩
   ·exact nomatch e
   ·injection e with e1 _;rw [e1]
 byValue:=fun k v h=>by
  rcases sZ h with⟨i,t,rfl,rfl⟩ | ⟨x,t,rfl,rfl⟩ <;> rfl
 pyHash:=fun hv h=>by
  rcases sZ hv with⟨i,t,rfl,rfl⟩ | ⟨x,t,rfl,rfl⟩
  ·exact wpAny_pyHash_int h
  ·exact wpAny_pyHash_str h
 eqBool:=fun hu hv h=>by
  rcases sZ hu with⟨i,t,rfl,rfl⟩ | ⟨x,t,rfl,rfl⟩
  ·rcases sZ hv with⟨j,u,rfl,rfl⟩ | ⟨y,u,rfl,rfl⟩
   ·rw [ao0]at h;exact wpAny_eqBool_int h
   ·rw [aoZ]at h;exact SeqAt.EqAt.int_str i t y u _ _ _ _ h
  ·rcases sZ hv with⟨j,u,rfl,rfl⟩ | ⟨y,u,rfl,rfl⟩
   ·rw [aoY]at h;exact SeqAt.EqAt.str_int x t j u _ _ _ _ h
   ·rw [aoX]at h;exact wpAny_eqBool_str h
 «strs»:=fun k x t v h=>by
  rcases sZ h with⟨i,u,rfl,e⟩ | ⟨y,u,rfl,e⟩
  ·exact nomatch e
  ·injection e with e1 _;subst e1;cases v <;> rfl
theorem anY(prog:Program)(w:World)(i:Int)(t:Tok):(lO prog w).is (.inl i) (.int i t)=true:=ao2 i t
theorem anW(prog:Program)(w:World)(x:Str)(t:Tok):(lO prog w).is (.inr x) (.str x t)=true:=ao1 x t
inductive V where
 | bR | bl (b:Bool) | int (i:Int) | str (x:Str) | SG (b:Array UInt8) | CI (b:UInt64) | ref (a:Addr) | ty (n:String)
 deriving DecidableEq
def RelV:V→Value→Prop
 | .bR,u=>u=Value.none
 | .bl b,u=>u=Value.bool b
 | .int i,u=>∃t,u=Value.int i t
 | .str x,u=>∃t,u=Value.str x t
 | .SG b,u=>∃t,u=Value.bytes b t
 | .CI b,u=>∃t,u=Value.float b t
 | .ref a,u=>u=Value.ref a
 | .ty n,u=>u=Value.type n
abbrev Vals:List V→List Value→Prop:=Paired RelV
theorem Vals.length{xs:List V}{us:List Value}(r:Vals xs us):xs.length=us.length:=Paired.length r
theorem Vals.get:∀{xs:List V} {us:List Value} {i:Nat} {x:V},Vals xs us→xs[i]? = some x→∃u,us[i]? = some u∧RelV x u
 | _,_,_,_,.nil,e=>by simp at e
 | _,_,0,_,.cons r _,e=>by simp at e;subst e;exact⟨_,rfl,r⟩
 | _,_,i+1,x,.cons _ t,e=>by
  obtain⟨u,h1,h2⟩:=Vals.get (i:=i) (x:=x) t (by simpa using e);exact⟨u,by simpa using h1,h2⟩
theorem Vals.set{x:V}{u:Value}(r:RelV x u):∀{xs:List V} {us:List Value} (i:Nat),Vals xs us→Vals (xs.set i x) (us.set i u)
 | _,_,_,.nil => .nil
 | _,_,0,.cons _ t => .cons r t
 | _,_,i+1,.cons q t => .cons q (Vals.set r i t)
theorem Vals.append:∀{xs ys:List V} {us ws:List Value},Vals xs us→Vals ys ws→Vals (xs++ys) (us++ws)
 | _,_,_,_,.nil,s=>s
 | _,_,_,_,.cons r t,s => .cons r (Vals.append t s)
theorem Vals.take:∀{xs:List V} {us:List Value} (n:Nat),Vals xs us→Vals (xs.take n) (us.take n)
 | _,_,0,_ => .nil
 | _,_,_+1,.nil => .nil
 | _,_,n+1,.cons r t => .cons r (Vals.take n t)
theorem Vals.drop:∀{xs:List V} {us:List Value} (n:Nat),Vals xs us→Vals (xs.drop n) (us.drop n)
 | _,_,0,r=>r
 | _,_,_+1,.nil => .nil
 | _,_,n+1,.cons _ t=>Vals.drop n t
def nG:Option V→Option Value→Prop
 | some v,some u=>RelV v u
 | none,none=>True
 | _,_=>False
def KV{κ:Type}:List (κ×V)→List (κ×Value)→Prop:=Paired fun(p:κ×V) (q:κ×Value)=>p.1=q.1∧RelV p.2 q.2
def kV:Key→V
 | .inl i => .int i
 | .inr x => .str x
inductive HO where
 | lst (xs:List V)
 | tup (xs:List V)
 | dK (kvs:List (Key×V)) | dT (kvs:List (List Key×V))
 | set (S:Int→Bool) (n:Nat)
 | ins (C dx:Addr) (fs:List (Str×V))
 | own (x:Addr)
 | xd (fs:List (Str×V))
 | met (f x:Addr)
 | QC (lo hi:Int)
 | dU (o:Obj) (u:HO)
 | iQ (ps:Array Value)
 | ext (φ:Heap→Prop)
abbrev Hp:=Addr→Option HO
def upd(H:Hp)(a:Addr)(o:HO):Hp:=fun b=>if b=a then some o else H b
theorem eA{H:Hp}{a:Addr}{o:HO}:upd H a o a=some o:=by unfold upd;rw [if_pos rfl]
theorem bP{H:Hp}{a b:Addr}{o:HO}(h:b≠a):upd H a o b=H b:=by unfold upd;rw [if_neg h]
theorem AV{H:Hp}{a b:Addr}{o u:HO}(h:H a=some o)(h':H b=some u)(d:o≠u):a≠b:=by
 intro e;subst e;rw [h]at h';exact d (jJ h')
theorem gT{H:Hp}{a b:Addr}{o:HO}(h:H a=some o)(h':H b=none):a≠b:=by
 intro e;subst e;rw [h]at h';cases h'
section
variable(P:Program)(w:World)
def gY(H:Hp)(h:Heap)(a:Addr):HO→Prop
 | .lst xs=>xs.length≤sizeLine∧∃(aQ:List Value) (n:Nat),Vals xs aQ∧h.get? a=some { cls := .type "list",data := .seq aQ.toArray n }
 | .tup xs=>xs.length≤sizeLine∧∃aQ:List Value,Vals xs aQ∧IsTup h a aQ.toArray
 | .dK kvs=>kvs.length≤sizeLine∧(a == sysModules)=false∧∃vs,KV kvs vs∧h.DictOf (lO P w) a vs
 | .dT kvs=>kvs.length≤sizeLine∧(a == sysModules)=false∧∃xs:List (List Key×Addr×Value),
   Paired (fun(p:List Key×V) (q:List Key×Addr×Value)=>p.1=q.1∧H q.2.1=some (.tup (p.1.map kV))∧RelV p.2 q.2.2) kvs xs ∧
   ∃o es ep,h.get? a=some o∧o.ExactDict∧o.data = .dict es ep∧es.toList=xs.map (entryOfKey (tupleKind (lO P w)))∧(xs.map (·.1)).Nodup
 | .set S n=>h.SetOf (intKind P w) a S n
 | .ins C dx fs=>H dx=some (.own a)∧fs.length≤1000∧dx≠a∧h.get? a=some (instObj C dx) ∧
   ∃mA,h.Ns1 dx mA∧(∀f,nG (fs.lookup f) (mA f))∧PySem.Within mA (fs.map (·.1))
 | .own _=>∃o,h.get? a=some o
 | .xd fs=>∃mA,h.Ns1 a mA∧∀f,nG (fs.lookup f) (mA f)
 | .QC lo hi=>∃t u v,h.get? a=some { cls := .type "range",data := .fields #[.int lo t,.int hi u,.int 1 v] }
 | .dU o u=>h.get? a=some o∧gY H h a u
 | .iQ ps=>h.get? a=some { cls := .none,data := .fields ps }
 | .met f x=>h.get? a=some (methodObj (.ref f) (.ref x))
 | .ext φ=>φ h∧(∃o,h.get? a=some o)∧∀h1 h2:Heap,φ h1→(∀o,h1.get? a=some o→h2.get? a=some o)→φ h2
def eY(H:Hp)(h:Heap):Prop:=∀a o,H a=some o→gY P w H h a o
end
section
variable{P:Program}{w:World}{H H':Hp}{h h':Heap}{a:Addr}{o:HO}
theorem gY.lt(x:gY P w H h a o):a<h.objs.size:=by
 cases o with
 | lst xs=>obtain⟨_,_,_,_,e⟩:=x;exact dA e
 | tup xs=>obtain⟨_,_,_,p⟩:=x;exact p.lt
 | dK kvs=>obtain⟨_,_,_,_,o,_,_,e,_⟩:=x;exact dA e
 | dT kvs=>obtain⟨_,_,_,_,o,_,_,e,_⟩:=x;exact dA e
 | set S n=>obtain⟨o,_,_,_,e,_⟩:=x;exact dA e
 | ins C dx fs=>obtain⟨_,_,_,e,_⟩:=x;exact dA e
 | own y=>obtain⟨_,e⟩:=x;exact dA e
 | xd fs=>obtain⟨_,⟨_,_,_,e,_⟩,_⟩:=x;exact dA e
 | QC lo hi=>obtain⟨_,_,_,e⟩:=x;exact dA e
 | dU ob u=>obtain⟨e,_⟩:=x;exact dA e
 | iQ ps=>exact dA (show h.get? a=some _ from x)
 | met f y=>exact dA (show h.get? a=some _ from x)
 | ext φ=>obtain⟨_,⟨_,e⟩,_⟩:=x;exact dA e
theorem Paired.AY{α β:Type}{F G:α→β→Prop}:∀{l₁:List α} {l₂:List β},Paired F l₁ l₂→(∀a b,F a b→G a b)→Paired G l₁ l₂
 | _,_,.nil,_ => .nil
 | _,_,.cons r t,f => .cons (f _ _ r) (Paired.AY t f)
theorem gY.mD(x:gY P w H h a o)(k:∀b u,(b=a∨H b=some (.own a))→h.get? b=some u→h'.get? b=some u)
  (ho:∀b,H b=some (.own a)→H' b=some (.own a)) (ht:∀b xs,H b=some (.tup xs)→H' b=some (.tup xs)):gY P w H' h' a o:=by
 induction o with
 | lst xs=>obtain⟨z,aQ,n,r,e⟩:=x;exact⟨z,aQ,n,r,k _ _ (.inl rfl) e⟩
 | tup xs=>obtain⟨z,aQ,r,ob,e,c⟩:=x;exact⟨z,aQ,r,ob,k _ _ (.inl rfl) e,c⟩
 | dK kvs=>obtain⟨z,y,vs,r,ob,es,ep,e,c⟩:=x;exact⟨z,y,vs,r,ob,es,ep,k _ _ (.inl rfl) e,c⟩
 | dT kvs =>
  obtain⟨z,y,xs,r,ob,es,ep,e,c⟩:=x;exact⟨z,y,xs,Paired.AY r fun p q z=>⟨z.1,ht _ _ z.2.1,z.2.2⟩,ob,es,ep,k _ _ (.inl rfl) e,c⟩
 | set S n=>obtain⟨ob,es,ep,t,e,c⟩:=x;exact⟨ob,es,ep,t,k _ _ (.inl rfl) e,c⟩
 | ins C dx fs =>
  obtain⟨d,z,ne,e,mA,⟨od,es,ep,e2,c⟩,r⟩:=x;exact⟨ho _ d,z,ne,k _ _ (.inl rfl) e,mA,⟨od,es,ep,k _ _ (.inr d) e2,c⟩,r⟩
 | own y=>obtain⟨ob,e⟩:=x;exact⟨ob,k _ _ (.inl rfl) e⟩
 | xd fs=>obtain⟨mA,⟨od,es,ep,e,c⟩,r⟩:=x;exact⟨mA,⟨od,es,ep,k _ _ (.inl rfl) e,c⟩,r⟩
 | QC lo hi=>obtain⟨t,u,v,e⟩:=x;exact⟨t,u,v,k _ _ (.inl rfl) e⟩
 | dU ob u ih=>obtain⟨e,q⟩:=x;exact⟨k _ _ (.inl rfl) e,ih q⟩
 | iQ ps =>
  have e:h.get? a=some { cls := .none,data := .fields ps }:=x;show h'.get? a=some { cls := .none,data := .fields ps };exact k a _ (.inl rfl) e
 | met f y =>
  have e:h.get? a=some (methodObj (.ref f) (.ref y)):=x;show h'.get? a=some (methodObj (.ref f) (.ref y));exact k a _ (.inl rfl) e
 | ext φ=>obtain⟨p,⟨o,e⟩,st⟩:=x;exact⟨st _ _ p fun o q=>k _ _ (.inl rfl) q,⟨o,k _ _ (.inl rfl) e⟩,st⟩
theorem eY.lt(x:eY P w H h)(e:H a=some o):a<h.objs.size:=(x a o e).lt
theorem eY.fresh(x:eY P w H h)(e:h.objs.size≤a):H a=none:=by
 cases q:H a with
 | none=>rfl
 | some u=>exact absurd (kE (x.lt q) e) (Nat.lt_irrefl _)
theorem eY.kept(x:eY P w H h)(k:∀b u,h.get? b=some u→h'.get? b=some u):eY P w H h':=fun a o e =>
 (x a o e).mD (fun b u _ q=>k b u q) (fun _ q=>q) fun _ _ q=>q
theorem eY.laid(x:eY P w H h)(k:∀b u,h.get? b=some u→h'.get? b=some u)(hp:h.objs.size≤a)(new:gY P w (upd H a o) h' a o):eY P w (upd H a o) h':=fun b u e=>by
 have hn:=x.fresh hp
 by_cases hb:b=a
 ·subst hb;rw [eA]at e;cases e;exact new
 ·rw [bP hb]at e;exact(x b u e).mD (fun c v _ q=>k c v q) (fun c q=>by rw [bP (gT q hn)];exact q) fun c xs q=>by rw [bP (gT q hn)];exact q
end
def Rd(H:Hp)(a:Addr)(u:HO):Prop:=H a=some u∨∃o,H a=some (.dU o u)
theorem Rd.of{H:Hp}{a:Addr}{u:HO}(h:H a=some u):Rd H a u := .inl h
theorem Rd.ok{P:Program}{w:World}{H:Hp}{h:Heap}{a:Addr}{u:HO}(r:Rd H a u)(x:eY P w H h):gY P w H h a u:=by
 rcases r with r | ⟨o,r⟩
 ·exact x a u r
 ·obtain⟨_,q⟩:=x a _ r;exact q
def NB:Option HO→Prop
 | some (.lst _)=>True
 | some (.dK _)=>True
 | some (.dT _)=>True
 | some (.set _ _)=>True
 | some (.ins _ _ _)=>True
 | some (.ext _)=>True
 | _=>False
section
variable{P:Program}{w:World}{H:Hp}{h h':Heap}{x e:Addr}{o':HO}
theorem eY.write(ok:eY P w H h)(mu:NB (H x))(he:e=x∨H e=some (.own x))(k:∀b u,b≠e→h.get? b=some u→h'.get? b=some u)(FK:∃u,h'.get? e=some u)
  (new:gY P w (upd H x o') h' x o'):eY P w (upd H x o') h':=fun b u q=>by
 have Qm:∀c y,H c=some (.own y)→c≠x:=fun c y r z=>by subst z;rw [r]at mu;exact mu
 have am4:∀c xs,H c=some (.tup xs)→c≠x:=fun c xs r z=>by subst z;rw [r]at mu;exact mu
 by_cases hb:b=x
 ·subst hb;rw [eA]at q;cases q;exact new
 ·rw [bP hb]at q
  by_cases BY:b=e
  ·have q':H b=some (.own x):=by
    rcases he with z | z
    ·exact absurd (BY.trans z) hb
    ·rw [BY];exact z
   rw [q]at q';cases q';obtain⟨v,hv⟩:=FK;exact⟨v,by rw [BY];exact hv⟩
  ·refine(ok b u q).mD (fun c v hc r=>k c v ?_ r) (fun c r=>by rw [bP (Qm c b r)];exact r) fun c xs r=>by rw [bP (am4 c xs r)];exact r
   rcases hc with rfl | hc
   ·exact BY
   ·rintro rfl
    rcases he with z | z
    ·exact Qm c b hc z
    ·rw [hc]at z;cases z;exact hb rfl
end
structure Un(fs ex:List Addr)(H H':Hp)(h h':Heap):Prop where
 keep:∀b o,h.get? b=some o→H b=none→b∉fs→b∉ex→h'.get? b=some o
 slot:∀b o,h.get? b=some o→H b=none→b∈fs→b∉ex→∃sl,h'.get? b=some { o with slots:=sl }
 free:∀b o,h.get? b=some o→H b=none→b∉ex→H' b=none
 there:∀b o,h.get? b=some o→b∉ex→∃o',h'.get? b=some o'
 mT:∀b xs,H b=some (.tup xs)→H' b=some (.tup xs)
 lD:∀b o u,H b=some (.dU o u)→H' b=some (.dU o u)
 mB:∀b ps,H b=some (.iQ ps)→∃more,H' b=some (.iQ (ps++more))
section
variable{fs iB ex Vw:List Addr}{H H1 H2:Hp}{h h1 h2 h':Heap}{a x e:Addr}{o:HO}
theorem Un.any(u:Un fs ex H H1 h h1){b:Addr}{ob:Obj}(q:h.get? b=some ob)(n:H b=none)(hx:b∉ex):∃sl,h1.get? b=some { ob with slots:=sl }:=by
 by_cases hb:b∈fs
 ·exact u.slot b ob q n hb hx
 ·exact⟨ob.slots,u.keep b ob q n hb hx⟩
theorem Un.trans(a:Un fs ex H H1 h h1)(b:Un fs ex H1 H2 h1 h2):Un fs ex H H2 h h2 where
 keep:=fun c ob q n hc hx=>b.keep c ob (a.keep c ob q n hc hx) (a.free c ob q n hx) hc hx
 slot:=fun c ob q n hc hx=>by
  obtain⟨sl,e1⟩:=a.slot c ob q n hc hx;obtain⟨IH,e2⟩:=b.slot c _ e1 (a.free c ob q n hx) hc hx;exact⟨IH,e2⟩
 free:=fun c ob q n hx=>by
  obtain⟨o',e1⟩:=a.there c ob q hx;exact b.free c o' e1 (a.free c ob q n hx) hx
 there:=fun c ob q hx=>by
  obtain⟨o',e1⟩:=a.there c ob q hx;exact b.there c o' e1 hx
 mT:=fun c xs q=>b.mT c xs (a.mT c xs q)
 lD:=fun c ob xs q=>b.lD c ob xs (a.lD c ob xs q)
 mB:=fun c ps q=>by
  obtain⟨m1,e1⟩:=a.mB c ps q;obtain⟨m2,e2⟩:=b.mB c _ e1;exact⟨m1++m2,by rw [e2,Array.append_assoc]⟩
theorem Un.kept(k:∀b u,h.get? b=some u→h'.get? b=some u):Un fs ex H H h h' :=
 ⟨fun b ob q _ _ _=>k b ob q,fun b ob q _ _ _=>⟨ob.slots,k b ob q⟩,fun _ _ _ n _=>n,fun b ob q _=>⟨ob,k b ob q⟩,fun _ _ q=>q,fun _ _ _ q=>q,fun _ ps q=>⟨#[],by rw [q];simp⟩⟩
theorem Un.refl:Un fs ex H H h h:=Un.kept fun _ _ q=>q
theorem Un.laid(k:∀b u,h.get? b=some u→h'.get? b=some u)(hp:h.objs.size≤a)(hn:H a=none):Un fs ex H (upd H a o) h h' where
 keep:=fun b u q _ _ _=>k b u q
 slot:=fun b u q _ _ _=>⟨u.slots,k b u q⟩
 free:=fun b u q n _=>by rw [bP (iE (kE (dA q) hp))];exact n
 there:=fun b u q _=>⟨u,k b u q⟩
 mT:=fun b xs q=>by rw [bP (gT q hn)];exact q
 lD:=fun b u xs q=>by rw [bP (gT q hn)];exact q
 mB:=fun b ps q=>⟨#[],by rw [bP (gT q hn),q];simp⟩
theorem Un.write(mu:NB (H x))(he:e=x∨H e=some (.own x))(k:∀b u,b≠e→h.get? b=some u→h'.get? b=some u)(FK:∃u,h'.get? e=some u):Un fs ex H (upd H x o) h h':=by
 have hx:∀b,H b=none→b≠x:=fun b n z=>by subst z;rw [n]at mu;exact mu
 have hb:∀b,H b=none→b≠e:=fun b n z=>by
  subst z
  rcases he with r | r
  ·exact hx b n r
  ·rw [n]at r;cases r
 have hm:∀b u,H b=some u→¬NB (some u)→b≠x:=fun b u q nm z=>by subst z;rw [q]at mu;exact nm mu
 refine⟨fun b u q n _ _=>k b u (hb b n) q,fun b u q n _ _=>⟨u.slots,k b u (hb b n) q⟩,fun b u q n _=>by rw [bP (hx b n)];exact n,fun b u q _=>?_,
  fun b xs q=>by rw [bP (hm b _ q fun z=>z)];exact q,fun b u xs q=>by rw [bP (hm b _ q fun z=>z)];exact q,fun b ps q=>⟨#[],by rw [bP (hm b _ q fun z=>z),q];simp⟩⟩
 by_cases BY:b=e
 ·subst BY;exact FK
 ·exact⟨u,k b u BY q⟩
theorem Un.mono(u:Un fs ex H H1 h h1)(hs:∀b∈fs,b∈iB)(hx:∀b∈ex,b∈Vw):Un iB Vw H H1 h h1 :=
 ⟨fun b ob q n hb he=>u.keep b ob q n (fun z=>hb (hs b z)) fun z=>he (hx b z),fun _ _ q n _ he=>u.any q n fun z=>he (hx _ z),fun b ob q n he=>u.free b ob q n fun z=>he (hx b z),fun b ob q he=>u.there b ob q fun z=>he (hx b z),u.mT,u.lD,u.mB⟩
end
def OM(h:Heap)(H:Hp):List Addr:=(List.range h.objs.size).filter fun a=>(H a).isSome
def uJ(h:Heap)(H:Hp):Heap:=PySem.W.hideAll h (OM h H)
theorem aq5(h:Heap)(H:Hp):(uJ h H).objs.size=h.objs.size:=PySem.W.hideAll_size _ _
theorem aq6{h:Heap}{H:Hp}{b:Addr}{o:Obj}(e:h.get? b=some o)(n:H b=none):(uJ h H).get? b=some o :=
 PySem.W.hideAll_get _ e fun hm=>by
  have q:(H b).isSome=true:=(List.mem_filter.mp hm).2;rw [n]at q;simp at q
theorem amO{h:Heap}{H:Hp}{b:Addr}{o:Obj}(e:(uJ h H).get? b=some o):h.get? b=some o∧H b=none:=by
 have e':h.get? b=some o:=PySem.W.of_hideAll (OM h H) e;refine⟨e',?_⟩;cases q:H b with
 | none=>rfl
 | some x =>
  have hm:b∈OM h H:=List.mem_filter.mpr ⟨List.mem_range.mpr (dA e'),by simp [q]⟩;have z:(uJ h H).get? b=none:=PySem.W.hideAll_none (OM h H) hm;rw [z]at e;cases e
def awY(g h:Heap)(L:Addr):List (Addr×Obj):=(List.range h.objs.size).filterMap fun a=>if a=L∨(g.get? a).isSome=true then none else(h.get? a).map fun o=>(a,o)
def rest(g h:Heap)(L d:Addr):List (Addr×Obj):=(awY g h L).filter fun p=>decide (p.1≠d)
structure Mod(K:Frag)(mg:Str→Option Value)(base:Heap):Prop where
 qX:K.In base
 glob:base.Ns mainGlobals mg
 blt:∃mb,base.Ns builtinsNs mb∧∀x:Str,x ≠ "__name__"→mb x=bootBuiltins x
 nolimit:base.NoLimit
structure Cx where
 prog:Program
 w:World
 K:Frag
 mg:Str→Option Value
 base:Heap
 A:Around
 N:List Str
 s₀:Shared
 H₀:Hp
 env:Env
 outer:List Env
 stack:List Env
 ex:List Addr
 fn:Str→Bool
 calm:Bool
 pn:List (Addr×Obj)
 xe:Value→Shared→Prop
def gJ(l:List Env):List Addr:=l.filterMap (·.frame)
abbrev Cx.fs(X:Cx):List Addr:=gJ X.outer
def MU(sc:Scope)(x:Str):Prop:=sc.names.lookup x=some .local∨sc.names.lookup x=some .cell∨sc.names.lookup x=some .free
def Loc(sc:Scope)(x:Str):Prop:=sc.names.lookup x=some .local∨sc.names.lookup x=some .cell
def Look(env:Env)(h:Heap)(m:Str→Option Value)(x:Str)(u:Value):Prop :=
 (env.kindOf x=some .local∧m x=some u)∨((env.kindOf x=some .cell∨env.kindOf x=some .free)∧∃c,env.cells.lookup x=some c∧h.IsCell c (some u))
structure Cx.Ok(X:Cx):Prop where
 mod:Mod X.K X.mg X.base
 kind:X.env.scope.kind = .function
 glob:X.env.globals=mainGlobals
 blt:X.env.builtins=builtinsNs
 above:X.s₀.heap.objs.size≤X.env.locals
 inj:∀x y c,X.env.cells.lookup x=some c→X.env.cells.lookup y=some c→x=y
 has:∀x,(X.env.kindOf x=some .cell∨X.env.kindOf x=some .free)→∃c,X.env.cells.lookup x=some c
 CP:∀x c,X.fn x=true→X.env.cells.lookup x=some c→X.s₀.heap.objs.size≤c
 hd:X.calm=true→X.A.handled=none
 frames:X.A.frames=some X.stack
 rS:X.stack=X.outer∨(X.stack=X.env::X.outer∧X.env.frame=some X.env.locals)
 CJ:∀b∈X.ex,b≠X.env.locals∧∀x c,X.env.cells.lookup x=some c→c≠b
 bs:∀b o,X.base.get? b=some o→X.s₀.heap.get? b=some o∧X.H₀ b=none
 pN:X.base.objs.size≤X.s₀.heap.objs.size
 uB:∀b o,X.base.get? b=some o→b∉X.ex
 yU:∀b∈X.ex,b∉X.fs
 nT:X.s₀.heap.FunFrames X.base X.outer
 sG:∀b∈X.fs,X.H₀ b=none
structure Inv(X:Cx)(pins:List (Addr×Obj))(σ:List (Option V))(H:Hp)(s:Shared):Prop where
 ok:X.Ok
 os:s.os=X.s₀.os
 bare:AllBare s.gens
 base:Un X.fs X.ex X.H₀ H X.s₀.heap s.heap
 loc:∃m,s.heap.Ns X.env.locals m∧∀(i:Nat) (x:Str) (v:V),X.N[i]? = some x→σ[i]? = some (some v)→MU X.env.scope x→∃u,RelV v u∧Look X.env s.heap m x u
 cell:∀x c,X.env.cells.lookup x=some c→∃v,s.heap.IsCell c v
 free:H X.env.locals=none
 mJ:∀x c,X.env.cells.lookup x=some c→H c=none
 pin:∀p∈X.pn++pins,s.heap.get? p.1=some p.2∧H p.1=none∧p.1≠X.env.locals∧p.1∉X.fs∧∀v,p.2.data ≠ .cell v
 aH:eY X.prog X.w H s.heap
 len:σ.length=X.N.length
section
variable{X:Cx}{pins:List (Addr×Obj)}{σ:List (Option V)}{H H':Hp}{s:Shared}{h':Heap}
theorem Cx.Ok.anB(ok:X.Ok){b:Addr}{o:Obj}(e:X.base.get? b=some o):b∉X.fs:=fun hb=>by
 have:=(ok.nT.mem hb).1;rw [e]at this;cases this
theorem Inv.bs(I:Inv X pins σ H s):∀b o,X.base.get? b=some o→s.heap.get? b=some o∧H b=none:=fun b o e =>
 ⟨I.base.keep b o (I.ok.bs b o e).1 (I.ok.bs b o e).2 (I.ok.anB e) (I.ok.uB b o e),I.base.free b o (I.ok.bs b o e).1 (I.ok.bs b o e).2 (I.ok.uB b o e)⟩
theorem Inv.bk(I:Inv X pins σ H s):∀b o,X.base.get? b=some o→s.heap.get? b=some o:=fun b o e=>(I.bs b o e).1
theorem Inv.mod(I:Inv X pins σ H s):Mod X.K X.mg X.base:=I.ok.mod
theorem Inv.gU(I:Inv X pins σ H s):X.K.In s.heap:=I.ok.mod.qX.keeps I.bk
theorem Inv.nolimit(I:Inv X pins σ H s):s.heap.NoLimit:=I.ok.mod.nolimit.keeps I.bk
theorem Inv.lt(I:Inv X pins σ H s):X.env.locals<s.heap.objs.size:=let ⟨_,hn,_⟩:=I.loc;hn.lt
theorem Inv.sz(I:Inv X pins σ H s):X.s₀.heap.objs.size≤s.heap.objs.size:=qE I.ok.above (Nat.le_of_lt I.lt)
theorem Inv.am9(I:Inv X pins σ H s){a:Addr}(h:s.heap.objs.size≤a):a∉X.fs:=fun hb=>by
 obtain⟨_,o,ho,_⟩:=I.ok.nT.mem hb;exact absurd (kE (dA ho) (qE I.sz h)) (Nat.lt_irrefl _)
theorem Inv.CL(I:Inv X pins σ H s):∀x c,X.env.cells.lookup x=some c→c≠X.env.locals:=fun x c e z=>by
 obtain⟨v,o,ho,hd⟩:=I.cell x c e;obtain⟨m,⟨o',es,ep,iZ,BV,_⟩,_⟩:=I.loc;rw [z,iZ]at ho;cases ho;rw [BV]at hd;cases hd
theorem Inv.nT(I:Inv X pins σ H s):s.heap.FunFrames X.base X.outer:=by
 have all:∀(l:List Env),(∀b∈gJ l,b∈X.fs)→X.s₀.heap.FunFrames X.base l→s.heap.FunFrames X.base l:=by
  intro l
  induction l with
  | nil=>intro _ _;trivial
  | cons env r ih =>
   intro hs hl;obtain⟨hk,⟨L,o,hf,hn,ho,hd⟩,hr⟩:=hl;have hL:L∈X.fs:=hs L (by unfold gJ;rw [List.filterMap_cons,hf];exact List.mem_cons_self);obtain⟨sl,e⟩:=I.base.slot L o ho (I.ok.sG L hL) hL fun z=>I.ok.yU L z hL;exact⟨hk,⟨L,_,hf,hn,e,hd⟩,ih (fun b hb=>hs b (by unfold gJ;rw [List.filterMap_cons,hf];exact List.mem_cons_of_mem _ hb)) hr⟩
 exact all X.outer (fun _ hb=>hb) I.ok.nT
theorem Inv.stack(I:Inv X pins σ H s):s.heap.FunFrames X.base X.stack:=by
 rcases I.ok.rS with e | ⟨e,hf⟩
 ·rw [e];exact I.nT
 ·rw [e];obtain⟨m,hn,_⟩:=I.loc;refine .cons (by rw [I.ok.kind];decide) hf hn ?_ I.nT;exact Heap.get?_none_of_le (qE I.ok.pN I.ok.above)
theorem Inv.xV(I:Inv X pins σ H s):∀b∈gJ X.stack,b∈X.env.locals::X.fs:=fun b hb=>by
 rcases I.ok.rS with e | ⟨e,hf⟩
 ·rw [e]at hb;exact jK _ hb
 ·rw [e]at hb;unfold gJ at hb;rw [UN,hf]at hb;exact hb
theorem Inv.OW(I:Inv X pins σ H s):∀b∈gJ X.stack,H b=none:=fun b hb=>by
 rcases dN.mp (I.xV b hb)with e | hb
 ·rw [e];exact I.free
 ·obtain⟨_,o,ho,_⟩:=I.ok.nT.mem hb;exact I.base.free b o ho (I.ok.sG b hb) fun z=>I.ok.yU b z hb
theorem Inv.step{g':Array GenState}{t':Nat}{d':Drawn}{ch:List Addr}(I:Inv X pins σ H s)
  (pL:∀b∈ch,(b∈X.ex∨X.s₀.heap.objs.size≤b)∧b≠X.env.locals∧(∀x c,X.env.cells.lookup x=some c→c≠b)∧∀p∈X.pn++pins,p.1≠b)
  (keep:∀b o,b≠X.env.locals→b∉X.fs→b∉ch→s.heap.get? b=some o→H b=none→h'.get? b=some o)
  (slot:∀b o,b≠X.env.locals→b∈X.fs→b∉ch→s.heap.get? b=some o→H b=none→∃sl,h'.get? b=some { o with slots:=sl }) (free:∀b o,b∉ch→s.heap.get? b=some o→H b=none→H' b=none)
  (there:∀b o,b∉ch→s.heap.get? b=some o→∃o',h'.get? b=some o')
  (mT:∀b xs,H b=some (.tup xs)→H' b=some (.tup xs)) (lD:∀b o u,H b=some (.dU o u)→H' b=some (.dU o u)) (mB:∀b ps,H b=some (.iQ ps)→∃more,H' b=some (.iQ (ps++more)))
  (ns:∀m,s.heap.Ns X.env.locals m→h'.Ns X.env.locals m) (aH:eY X.prog X.w H' h') (hg:AllBare g') :
  Inv X pins σ H' { s with heap:=h',gens:=g',drawn:=d',toks:=t' }:=by
 have Qs:∀b o,X.s₀.heap.get? b=some o→b≠X.env.locals:=fun b o e=>iE (kE (dA e) I.ok.above);have yG:∀b o,X.s₀.heap.get? b=some o→b∉X.ex→b∉ch:=fun b o e hx hb=>by
  rcases(pL b hb).1 with z | z
  ·exact hx z
  ·exact absurd (kE (dA e) z) (Nat.lt_irrefl _)
 have cellK:∀x c,X.env.cells.lookup x=some c→∀v,s.heap.IsCell c v→h'.IsCell c v:=fun x c e v ⟨o,ho,hd⟩=>by
  have JE:c∉ch:=fun z=>(pL c z).2.2.1 x c e rfl
  by_cases hc:c∈X.fs
  ·obtain⟨sl,q⟩:=slot c o (I.CL x c e) hc JE ho (I.mJ x c e);exact⟨_,q,hd⟩
  ·exact⟨o,keep c o (I.CL x c e) hc JE ho (I.mJ x c e),hd⟩
 refine⟨I.ok,I.os,hg,⟨fun b o e n hb hx=>?_,fun b o e n hb hx=>?_,fun b o e n hx=>?_,fun b o e hx=>?_,fun b xs e=>mT b xs (I.base.mT b xs e),fun b o xs e=>lD b o xs (I.base.lD b o xs e),fun b ps e=>?_⟩,?_,fun x c e=>?_,?_,fun x c e=>?_,fun p hp=>?_,aH,I.len⟩
 ·exact keep b o (Qs b o e) hb (yG b o e hx) (I.base.keep b o e n hb hx) (I.base.free b o e n hx)
 ·obtain⟨sl,e1⟩:=I.base.slot b o e n hb hx;obtain⟨IH,e2⟩:=slot b _ (Qs b o e) hb (yG b o e hx) e1 (I.base.free b o e n hx);exact⟨IH,e2⟩
 ·obtain⟨o',e1⟩:=I.base.there b o e hx;exact free b o' (yG b o e hx) e1 (I.base.free b o e n hx)
 ·obtain⟨o',e1⟩:=I.base.there b o e hx;exact there b o' (yG b o e hx) e1
 ·obtain⟨m1,e1⟩:=I.base.mB b ps e;obtain⟨m2,e2⟩:=mB b _ e1;exact⟨m1++m2,by rw [e2,Array.append_assoc]⟩
 ·obtain⟨m,hn,hl⟩:=I.loc;refine⟨m,ns m hn,fun i x v e1 e2 e3=>?_⟩;obtain⟨u,r,l⟩:=hl i x v e1 e2 e3;refine⟨u,r,?_⟩
  rcases l with l | ⟨k,c,e,z⟩
  ·exact .inl l
  ·exact .inr ⟨k,c,e,cellK x c e _ z⟩
 ·obtain⟨v,z⟩:=I.cell x c e;exact⟨v,cellK x c e v z⟩
 ·obtain⟨m,⟨o,_,_,ho,_⟩,_⟩:=I.loc;exact free _ o (fun z=>(pL _ z).2.1 rfl) ho I.free
 ·obtain⟨v,o,ho,hd⟩:=I.cell x c e;exact free c o (fun z=>(pL c z).2.2.1 x c e rfl) ho (I.mJ x c e)
 ·obtain⟨e,n,ne,nf,d⟩:=I.pin p hp;have JE:p.1∉ch:=fun z=>(pL p.1 z).2.2.2 p hp rfl;exact⟨keep p.1 p.2 ne nf JE e n,free p.1 p.2 JE e n,ne,nf,d⟩
theorem Inv.un{t':Nat}(I:Inv X pins σ H s)(u:Un X.fs [] H H' s.heap h')(aH:eY X.prog X.w H' h'):Inv X pins σ H' { s with heap:=h',toks:=t' }:=by
 obtain⟨m,⟨o,es,ep,ho,r⟩,_⟩:=id I.loc;obtain⟨sl,hL⟩:=u.any ho I.free (by simp);exact I.step (g':=s.gens) (d':=s.drawn) (ch:=[]) (fun _ z=>nomatch z) (fun b o _ hb _ e n=>u.keep b o e n hb (by simp)) (fun b o _ hb _ e n=>u.slot b o e n hb (by simp)) (fun b o _ e n=>u.free b o e n (by simp)) (fun b o _ e=>u.there b o e (by simp)) u.mT u.lD u.mB (fun m' hm=>by
  obtain⟨o',oV,RU,iZ,r'⟩:=hm;rw [ho]at iZ;cases iZ;exact⟨_,oV,RU,hL,r'⟩) aH I.bare
theorem Inv.call{g':Array GenState}{t':Nat}{d':Drawn}{ch:List Addr}(I:Inv X pins σ H s)(u:Un (gJ X.stack) ch H H' s.heap h')(aH:eY X.prog X.w H' h')(hg:AllBare g')
  (pL:∀b∈ch,(b∈X.ex∨X.s₀.heap.objs.size≤b)∧b≠X.env.locals∧(∀x c,X.env.cells.lookup x=some c→c≠b)∧∀p∈X.pn++pins,p.1≠b) :
  Inv X pins σ H' { s with heap:=h',gens:=g',drawn:=d',toks:=t' }:=by
 obtain⟨m,⟨o,es,ep,ho,r⟩,_⟩:=id I.loc;obtain⟨sl,hL⟩:=u.any ho I.free fun z=>(pL _ z).2.1 rfl;exact I.step (ch:=ch) pL (fun b o hL hb hc e n=>u.keep b o e n (fun z=>(dN.mp (I.xV b z)).elim hL hb) hc) (fun b o _ _ hc e n=>u.any e n hc) (fun b o hc e n=>u.free b o e n hc) (fun b o hc e=>u.there b o e hc) u.mT u.lD u.mB (fun m' hm=>by
  obtain⟨o',oV,RU,iZ,r'⟩:=hm;rw [ho]at iZ;cases iZ;exact⟨_,oV,RU,hL,r'⟩) aH hg
theorem Inv.turned{t':Nat}{it:Addr}(I:Inv X pins σ H s)(k:∀b o,b≠it→s.heap.get? b=some o→h'.get? b=some o)(hn:H it=none)(hL:it≠X.env.locals)
  (h1:it∈X.ex∨X.s₀.heap.objs.size≤it) (h2:∀x c,X.env.cells.lookup x=some c→c≠it) (h3:∀p∈X.pn++pins,p.1≠it):Inv X pins σ H { s with heap:=h',toks:=t' }:=by
 have JD:∀b u,H b=some u→b≠it:=fun b u e z=>by rw [z,hn]at e;cases e
 refine I.step (g':=s.gens) (d':=s.drawn) (ch:=[it]) (fun b hb=>?_) (fun b o _ _ hc e _=>k b o (fun z=>hc (by simp [z])) e) (fun b o _ _ hc e _=>⟨o.slots,k b o (fun z=>hc (by simp [z])) e⟩) (fun _ _ _ _ n=>n)
  (fun b o hc e=>⟨o,k b o (fun z=>hc (by simp [z])) e⟩) (fun _ _ e=>e) (fun _ _ _ e=>e) (fun b ps e=>⟨#[],by rw [e];simp⟩) (fun m hm=>?_) (fun b u e=>?_) I.bare
 ·have e:b=it:=by simpa using hb
  subst e;exact⟨h1,hL,h2,h3⟩
 ·obtain⟨o,es,ep,ho,r⟩:=hm;exact⟨o,es,ep,k _ o (cQ hL) ho,r⟩
 ·refine(I.aH b u e).mD (fun c v hc q=>k c v ?_ q) (fun _ q=>q) fun _ _ q=>q
  rcases hc with z | z
  ·rw [z];exact JD b u e
  ·exact JD c _ z
theorem Inv.tok(I:Inv X pins σ H s)(t:Nat):Inv X pins σ H { s with toks:=t }:=I.un (h':=s.heap) (t':=t) Un.refl I.aH
theorem Inv.kept{t':Nat}(I:Inv X pins σ H s)(k:∀b u,s.heap.get? b=some u→h'.get? b=some u):Inv X pins σ H { s with heap:=h',toks:=t' }:=I.un (Un.kept k) (I.aH.kept k)
theorem Inv.laid{a:Addr}{o:HO}{t':Nat}(I:Inv X pins σ H s)(k:∀b u,s.heap.get? b=some u→h'.get? b=some u)(hp:s.heap.objs.size≤a)(new:gY X.prog X.w (upd H a o) h' a o) :
  Inv X pins σ (upd H a o) { s with heap:=h',toks:=t' }:=I.un (Un.laid k hp (I.aH.fresh hp)) (I.aH.laid k hp new)
theorem Inv.write{x e:Addr}{o:HO}{t':Nat}(I:Inv X pins σ H s)(mu:NB (H x))(he:e=x∨H e=some (.own x))(k:∀b u,b≠e→s.heap.get? b=some u→h'.get? b=some u)(FK:∃u,h'.get? e=some u)
  (new:gY X.prog X.w (upd H x o) h' x o):Inv X pins σ (upd H x o) { s with heap:=h',toks:=t' }:=I.un (Un.write mu he k FK) (I.aH.write mu he k FK new)
theorem Inv.ZY{Pu:List (Addr×Obj)}(I:Inv X pins σ H s)(h:∀p∈Pu,s.heap.get? p.1=some p.2∧H p.1=none∧p.1≠X.env.locals∧p.1∉X.fs∧∀v,p.2.data ≠ .cell v):Inv X Pu σ H s :=
 ⟨I.ok,I.os,I.bare,I.base,I.loc,I.cell,I.free,I.mJ,fun p hp=>(oZ.mp hp).elim (fun z=>I.pin p (xB _ z)) (h p),I.aH,I.len⟩
theorem Qp{N:List Str}(hN:N.Nodup){i j:Nat}{x:Str}(a:N[i]? = some x)(b:N[j]? = some x):i=j:=by
 obtain⟨h1,e1⟩:=dI.mp a;obtain⟨h2,e2⟩:=dI.mp b;exact(List.getElem_inj hN).mp (e1.trans e2.symm)
theorem ahP{M:Model}{A:Around}{E:Value→Shared→Prop}{i:Nat}{x:Str}{v:V}{u:Value}{Q:Unit→Shared→Prop}(I:Inv X pins σ H s)(hN:X.N.Nodup)(hi:X.N[i]? = some x)(hx:Loc X.env.scope x)(r:RelV v u)
  (h:∀s',Inv X pins (σ.set i (some v)) H s'→(∃a,Heap.SameBut a s.heap s'.heap∧(a=X.env.locals∨X.env.cells.lookup x=some a))→Q () s') (hf:X.fn x=true∨X.env.scope.names.lookup x=some .local:=by first | exact .inl rfl | exact .inr rfl | assumption):wpAny M A (storeName X.env x u) Q E s:=by
 obtain⟨m,hn,hl⟩:=id I.loc;have arM:(X.env.scope.kind == .class||(X.env.scope.kind == .module&&X.env.locals != X.env.globals))=false:=by rw [I.ok.kind];rfl
 have To:i<σ.length:=by rw [I.len];exact(dI.mp hi).1
 have CL:=I.CL;have tracked:∀{a:Addr} {h':Heap},(∃o,s.heap.get? a=some o∧H a=none)→Heap.SameBut a s.heap h'→eY X.prog X.w H h':=fun{a h'} ha hs b ob e=>by
  obtain⟨_,_,tJ⟩:=ha;refine(I.aH b ob e).mD (fun c w' hc q=>(hs.2 c ?_).trans q) (fun _ q=>q) fun _ _ q=>q;rintro rfl
  rcases hc with rfl | hc
  ·rw [tJ]at e;cases e
  ·rw [tJ]at hc;cases hc
 rcases hx with hk | hk
 ·refine wpAny_storeName_local hk hn (fun h' JY hs=>?_) arM;obtain⟨oL,_,_,JV,_⟩:=id hn;refine h _ ⟨I.ok,I.os,I.bare,⟨fun b o e n hb hx=>?_,fun b o e n hb hx=>?_,I.base.free,fun b o e hx=>?_,I.base.mT,I.base.lD,I.base.mB⟩,⟨_,JY,fun j y v' e1 e2 e3=>?_⟩,fun y c e=>?_,I.free,I.mJ,fun p hp=>?_,tracked ⟨oL,JV,I.free⟩ hs,by simpa using I.len⟩ ⟨_,hs,.inl rfl⟩
  ·exact(hs.2 b (iE (kE (dA e) I.ok.above))).trans (I.base.keep b o e n hb hx)
  ·obtain⟨sl,e1⟩:=I.base.slot b o e n hb hx;exact⟨sl,(hs.2 b (iE (kE (dA e) I.ok.above))).trans e1⟩
  ·obtain⟨o',e1⟩:=I.base.there b o e hx;exact⟨o',(hs.2 b (iE (kE (dA e) I.ok.above))).trans e1⟩
  ·by_cases hj:j=i
   ·subst hj;rw [hi]at e1;cases e1;rw [eT To]at e2;cases e2;exact⟨u,r,.inl ⟨hk,by simp⟩⟩
   ·rw [dZ (cQ hj)]at e2;obtain⟨u',r',q⟩:=hl j y v' e1 e2 e3;refine⟨u',r',?_⟩
    rcases q with⟨k,e⟩ | ⟨k,c,e,z⟩
    ·refine .inl ⟨k,?_⟩;have:y≠x:=fun e=>hj (Qp hN e1 (e ▸ hi));simp [this,e]
    ·exact .inr ⟨k,c,e,z.sameBut hs (CL y c e)⟩
  ·obtain⟨w',z⟩:=I.cell y c e;exact⟨w',z.sameBut hs (CL y c e)⟩
  ·obtain⟨e,n,ne,nf,d⟩:=I.pin p hp;exact⟨(hs.2 p.1 ne).trans e,n,ne,nf,d⟩
 ·have Dm:X.fn x=true:=by
   rcases hf with z | z
   ·exact z
   ·rw [z]at hk;cases hk
  obtain⟨c,hc⟩:=I.ok.has x (.inl hk);obtain⟨w',z⟩:=I.cell x c hc;refine wpAny_storeName_cell I.ok.kind hk hc z (fun h' oR hs=>?_);obtain⟨oc,JU,aqL⟩:=id z;refine h { s with heap:=h' } ⟨I.ok,I.os,I.bare,⟨fun b o e n hb hx=>?_,fun b o e n hb hx=>?_,I.base.free,fun b o e hx=>?_,I.base.mT,I.base.lD,I.base.mB⟩,⟨m,hn.sameBut hs (cQ (CL x c hc)),fun j y v' e1 e2 e3=>?_⟩,fun y c' e=>?_,I.free,I.mJ,fun p hp=>?_,tracked ⟨oc,JU,I.mJ x c hc⟩ hs,by simpa using I.len⟩ ⟨c,hs,.inr hc⟩
  ·exact(hs.2 b (iE (kE (dA e) (I.ok.CP x c Dm hc)))).trans (I.base.keep b o e n hb hx)
  ·obtain⟨sl,e1⟩:=I.base.slot b o e n hb hx;exact⟨sl,(hs.2 b (iE (kE (dA e) (I.ok.CP x c Dm hc)))).trans e1⟩
  ·obtain⟨o',e1⟩:=I.base.there b o e hx;exact⟨o',(hs.2 b (iE (kE (dA e) (I.ok.CP x c Dm hc)))).trans e1⟩
  ·by_cases hj:j=i
   ·subst hj;rw [hi]at e1;cases e1;rw [eT To]at e2;cases e2;exact⟨u,r,.inr ⟨.inl hk,c,hc,oR⟩⟩
   ·rw [dZ (cQ hj)]at e2;obtain⟨u',r',q⟩:=hl j y v' e1 e2 e3;refine⟨u',r',?_⟩
    rcases q with q | ⟨k,c',e,z'⟩
    ·exact .inl q
    ·refine .inr ⟨k,c',e,z'.sameBut hs ?_⟩;rintro rfl;exact hj (Qp hN e1 (I.ok.inj _ _ _ e hc ▸ hi))
  ·by_cases Ud:c'=c
   ·subst Ud;exact⟨_,oR⟩
   ·obtain⟨w2,z2⟩:=I.cell y c' e;exact⟨w2,z2.sameBut hs Ud⟩
  ·obtain⟨e,n,ne,nf,d⟩:=I.pin p hp;refine⟨(hs.2 p.1 ?_).trans e,n,ne,nf,d⟩;intro q;rw [q,JU]at e;have q':oc=p.2:=jJ e;exact d w' (by rw [← q'];exact aqL)
theorem Nd{M:Model}{A:Around}{E:Value→Shared→Prop}{i:Nat}{x:Str}{v:V}{u:Value}{Q:Unit→Shared→Prop}(I:Inv X pins σ H s)(hN:X.N.Nodup)(hi:X.N[i]? = some x)(hx:Loc X.env.scope x)(r:RelV v u)
  (h:∀s',Inv X pins (σ.set i (some v)) H s'→Q () s') (hf:X.fn x=true∨X.env.scope.names.lookup x=some .local:=by first | exact .inl rfl | exact .inr rfl | assumption):wpAny M A (storeName X.env x u) Q E s :=
 ahP I hN hi hx r (fun s' I' _=>h s' I') hf
theorem Inv.GI{s':Shared}{ch:List Addr}(I:Inv X pins σ H s)(ho:s'.os=s.os)(u:Un (gJ X.stack) ch H H' s.heap s'.heap)(aH:eY X.prog X.w H' s'.heap)(hg:AllBare s'.gens)
  (pL:∀b∈ch,(b∈X.ex∨X.s₀.heap.objs.size≤b)∧b≠X.env.locals∧(∀x c,X.env.cells.lookup x=some c→c≠b)∧∀p∈X.pn++pins,p.1≠b):Inv X pins σ H' s':=by
 obtain⟨h',g',d',t',o'⟩:=s';have e:o'=s.os:=ho;subst e;exact I.call (g':=g') (t':=t') (d':=d') u aH hg pL
end
abbrev XK:=Value→Option Addr→Hp→Prop
abbrev St:=List (Option V)
abbrev VK:=V→Hp→Prop
abbrev TE:=St→Hp→VK→Prop
abbrev TT:=St→Hp→(Bool→Hp→Prop)→Prop
abbrev TA:=St→Hp→(List V→Hp→Prop)→Prop
structure Ends where
 nx:St→Hp→Prop
 rt:VK
 bk:St→Hp→Prop:=fun _ _=>False
 ct:St→Hp→Prop:=fun _ _=>False
abbrev TS:=Ends→St→Hp→Prop
def EP(X:Cx)(pins:List (Addr×Obj))(σ:St)(Q:VK)(u:Value)(s':Shared):Prop:=∃v H',Inv X pins σ H' s'∧RelV v u∧Q v H'
def TP(X:Cx)(pins:List (Addr×Obj))(σ:St)(Q:Bool→Hp→Prop)(b:Bool)(s':Shared):Prop:=∃H',Inv X pins σ H' s'∧Q b H'
def AP(X:Cx)(pins:List (Addr×Obj))(σ:St)(Q:List V→Hp→Prop)(us:List Value)(s':Shared):Prop:=∃vs H',Inv X pins σ H' s'∧Vals vs us∧Q vs H'
def SP(X:Cx)(pins:List (Addr×Obj))(D:Ends)(f:Flow)(s':Shared):Prop :=
 match f with
 | .next=>∃σ' H',Inv X pins σ' H' s'∧D.nx σ' H'
 | .brk=>∃σ' H',Inv X pins σ' H' s'∧D.bk σ' H'
 | .cont=>∃σ' H',Inv X pins σ' H' s'∧D.ct σ' H'
 | .ret u=>∃v σ' H',Inv X pins σ' H' s'∧RelV v u∧D.rt v H'
def PE(X:Cx)(e:Expr)(t:TE):Prop :=
 ∀(pins:List (Addr×Obj)) (s:Shared) (σ:St) (H:Hp) (Q:VK),Inv X pins σ H s→t σ H Q→wpAny (model X.prog X.w) X.A (eval e X.env) (EP X pins σ Q) X.xe s
def PT(X:Cx)(e:Expr)(t:TT):Prop :=
 ∀(pins:List (Addr×Obj)) (s:Shared) (σ:St) (H:Hp) (Q:Bool→Hp→Prop),Inv X pins σ H s→t σ H Q→wpAny (model X.prog X.w) X.A (isTrue e X.env (eval e X.env)) (TP X pins σ Q) X.xe s
def PW(X:Cx)(e:Expr)(t:TT):Prop :=
 ∀(whole:Sem Value) (pins:List (Addr×Obj)) (s:Shared) (σ:St) (H:Hp) (Q:Bool→Hp→Prop),Inv X pins σ H s→t σ H Q→wpAny (model X.prog X.w) X.A (isTrue e X.env whole) (TP X pins σ Q) X.xe s
theorem PW.pt{X:Cx}{e:Expr}{t:TT}(h:PW X e t):PT X e t:=h _
def PA(X:Cx)(es:List Expr)(t:TA):Prop :=
 ∀(pos:Pos) (pins:List (Addr×Obj)) (s:Shared) (σ:St) (H:Hp) (Q:List V→Hp→Prop),Inv X pins σ H s→t σ H Q→wpAny (model X.prog X.w) X.A (spliced (backTo pos (starEach es X.env))) (AP X pins σ Q) X.xe s
def PS(X:Cx)(st:Stmt)(t:TS):Prop :=
 ∀(pins:List (Addr×Obj)) (s:Shared) (σ:St) (H:Hp) (D:Ends),Inv X pins σ H s→t D σ H→wpAny (model X.prog X.w) X.A (exec st X.env) (SP X pins D) X.xe s
def lT(X:Cx)(st:List Stmt)(t:TS):Prop :=
 ∀(pins:List (Addr×Obj)) (s:Shared) (σ:St) (H:Hp) (D:Ends),Inv X pins σ H s→t D σ H→wpAny (model X.prog X.w) X.A (execs st X.env) (SP X pins D) X.xe s
theorem bG{α:Type}{t:Sem α}{Q Q':α→Shared→Prop}{M:Model}{A:Around}{E:Value→Shared→Prop}{s:Shared}(h:wpAny M A t Q E s)(hQ:∀a s,Q a s→Q' a s):wpAny M A t Q' E s:=kJ h hQ fun _ _ x=>x
section
variable{X:Cx}
def XT(i:Nat):TE:=fun σ H Q=>∃v,σ[i]? = some (some v)∧Q v H
def tC(v:V):TE:=fun _ H Q=>Q v H
theorem Aa{i:Nat}{x:Str}{pos:Pos}(hN:X.N[i]? = some x)(hv:MU X.env.scope x)(hd:(x == ("__debug__" : Str))=false:=by decide)(fN:(x == ("__classdict__" : Str))=false:=by decide):PE X (.Name x pos) (XT i):=by
 intro pins s σ H Q I h;obtain⟨v,e,h⟩:=h;obtain⟨m,hn,hl⟩:=I.loc;obtain⟨u,r,l⟩:=hl i x v hN e hv;have fin:EP X pins σ Q u s:=⟨v,H,I,r,h⟩
 rcases l with⟨hk,hm⟩ | ⟨hk,c,hc,BW⟩
 ·exact wpAny_Name (wpAny_loadName_local I.ok.kind hk hn hm fin) hd
 ·rcases hk with hk | hk
  ·exact wpAny_Name (wpAny_loadName_cell I.ok.kind hk hc BW fin) hd
  ·exact wpAny_Name (wpAny_loadName_free I.ok.kind hk hc BW fin fN) hd
theorem alC{i j pos}:PE X (.Constant (.int i) j pos) (tC (.int i)):=fun _ _ _ H _ I h=>wpAny_Constant_int ⟨.int i,H,I.tok _,⟨_,rfl⟩,h⟩
theorem alS{b j pos}:PE X (.Constant (.bool b) j pos) (tC (.bl b)):=fun _ _ _ H _ I h=>Constant_bool ⟨.bl b,H,I,rfl,h⟩
theorem ak4{j pos}:PE X (.Constant .none j pos) (tC .bR):=fun _ _ _ H _ I h=>Constant_none ⟨.bR,H,I,rfl,h⟩
theorem akY{x j pos}:PE X (.Constant (.str x) j pos) (tC (.str x)):=fun _ _ _ H _ I h=>Calls.Constant_str ⟨.str x,H,I.tok _,⟨_,rfl⟩,h⟩
def Gl(X:Cx)(x:Str):Prop:=X.env.kindOf x=some .globalImplicit
theorem EZ{E:Value→Shared→Prop}{pins:List (Addr×Obj)}{s:Shared}{σ:St}{H:Hp}{x:Str}{u:Value}{pos:Pos}{Q:Value→Shared→Prop}(I:Inv X pins σ H s)(hg:Gl X x)(hm:X.mg x=some u)(h:Q u s)
  (hd:(x == ("__debug__" : Str))=false:=by decide):wpAny (model X.prog X.w) X.A (eval (.Name x pos) X.env) Q E s :=
 Calls.Name_function_global I.ok.kind hg (Calls.loadGlobal_global (by rw [I.ok.glob];exact I.mod.glob.keeps I.bk) hm h) hd
theorem BC{E:Value→Shared→Prop}{pins:List (Addr×Obj)}{s:Shared}{σ:St}{H:Hp}{x:Str}{u:Value}{pos:Pos}{Q:Value→Shared→Prop}(I:Inv X pins σ H s)(hg:Gl X x)(hm:X.mg x=none)(hv:bootBuiltins x=some u)(h:Q u s)
  (hn:x ≠ "__name__":=by decide) (hd:(x == ("__debug__" : Str))=false:=by decide):wpAny (model X.prog X.w) X.A (eval (.Name x pos) X.env) Q E s:=by
 obtain⟨mb,h1,h2⟩:=I.mod.blt;exact Calls.Name_function_global I.ok.kind hg (Calls.loadGlobal_builtin (by rw [I.ok.glob];exact I.mod.glob.keeps I.bk) hm (by rw [I.ok.blt];exact h1.keeps I.bk) ((h2 x hn).trans hv) h) hd
theorem alE{x:Str}{v:V}{u:Value}{pos:Pos}(hg:Gl X x)(hm:X.mg x=some u)(r:RelV v u)(hd:(x == ("__debug__" : Str))=false:=by decide):PE X (.Name x pos) (tC v) :=
 fun _ _ _ H _ I h=>EZ I hg hm ⟨v,H,I,r,h⟩ hd
theorem alR{x:Str}{v:V}{u:Value}{pos:Pos}(hg:Gl X x)(hm:X.mg x=none)(hv:bootBuiltins x=some u)(r:RelV v u)(hn:x ≠ "__name__":=by decide)(hd:(x == ("__debug__" : Str))=false:=by decide):PE X (.Name x pos) (tC v) :=
 fun _ _ _ H _ I h=>BC I hg hm hv ⟨v,H,I,r,h⟩ hn hd
variable{a b:Expr}{ta tb:TE}{pos:Pos}
def tB(t:TE):TT:=fun σ H Q=>t σ H fun x H1=>∃c,x = .bl c∧Q c H1
theorem ajL{e:Expr}{t:TE}(h:PE X e t)(he:∀whole,isTrue e X.env whole=(do let v ← whole;standAt e.pos;holding [v] (truthy v)):=by intro _;rfl):PT X e (tB t):=by
 intro pins s σ H Q I hw;refine isTrue_plain (bG (h pins s σ H _ I hw) fun v s1 ⟨x,H1,I1,r1,q1⟩=>?_) (he _);obtain⟨d,rfl,q⟩:=q1;cases r1;exact vF ⟨H1,I1,q⟩
variable{tA OT:TT}{rest:List Expr}
def adC(t u:TT):TT:=fun σ H Q=>t σ H fun c H1=>if c=true then u σ H1 Q else Q false H1
def tOr(t u:TT):TT:=fun σ H Q=>t σ H fun c H1=>if c=true then Q true H1 else u σ H1 Q
def acW(t:TT):TT:=fun σ H Q=>t σ H fun c H1=>Q (!c) H1
theorem pw_and1(ha:PT X a tA):PW X (.BoolOp .And [a] pos) tA:=by
 intro wh pins s σ H Q I h;refine isTrue_and (bG (ha pins s σ H Q I h) fun c s1 e=>?_);cases c with
 | true=>exact isTrue_and_nil e
 | false=>exact e
theorem pw_or1(ha:PT X a tA):PW X (.BoolOp .Or [a] pos) tA:=by
 intro wh pins s σ H Q I h;refine isTrue_or (bG (ha pins s σ H Q I h) fun c s1 e=>?_);cases c with
 | false=>exact isTrue_or_nil e
 | true=>exact e
theorem pw_and(ha:PT X a tA)(hb:PW X (.BoolOp .And (b::rest) pos) OT):PW X (.BoolOp .And (a::b::rest) pos) (adC tA OT):=by
 intro wh pins s σ H Q I h;refine isTrue_and (bG (ha pins s σ H _ I h) fun c s1 ⟨H1,I1,q1⟩=>?_);cases c with
 | true=>exact hb wh pins s1 σ H1 Q I1 q1
 | false=>exact⟨H1,I1,q1⟩
theorem pw_or(ha:PT X a tA)(hb:PW X (.BoolOp .Or (b::rest) pos) OT):PW X (.BoolOp .Or (a::b::rest) pos) (tOr tA OT):=by
 intro wh pins s σ H Q I h;refine isTrue_or (bG (ha pins s σ H _ I h) fun c s1 ⟨H1,I1,q1⟩=>?_);cases c with
 | true=>exact⟨H1,I1,q1⟩
 | false=>exact hb wh pins s1 σ H1 Q I1 q1
theorem ajM(ha:PT X a tA):PT X (.UnaryOp .Not a pos) (acW tA):=by
 intro pins s σ H Q I h;exact isTrue_not (ha pins s σ H (fun c H1=>Q (!c) H1) I h)
def adB(ta tb:TE):TE:=fun σ H Q=>ta σ H fun x H1=>∃c,x = .bl c∧if c=true then tb σ H1 Q else Q (.bl false) H1
def acT(ta tb:TE):TE:=fun σ H Q=>ta σ H fun x H1=>∃c,x = .bl c∧if c=true then Q (.bl true) H1 else tb σ H1 Q
def acV(ta:TE):TE:=fun σ H Q=>ta σ H fun x H1=>∃c,x = .bl c∧Q (.bl (!c)) H1
theorem ak2{op}{t:TE}(h:PE X a t):PE X (.BoolOp op [a] pos) t:=fun pins s σ H Q I hw=>BoolOp_one (h pins s σ H Q I hw)
theorem alT(ha:PE X a ta)(hb:PE X (.BoolOp .And (b::rest) pos) tb):PE X (.BoolOp .And (a::b::rest) pos) (adB ta tb):=by
 intro pins s σ H Q I h;refine BoolOp_and (bG (ha pins s σ H _ I h) fun v s1 ⟨x,H1,I1,r1,q1⟩=>?_);obtain⟨c,rfl,q1⟩:=q1;cases r1;refine vF ?_;cases c with
 | true=>exact hb pins s1 σ H1 Q I1 q1
 | false=>exact⟨.bl false,H1,I1,rfl,q1⟩
theorem ak0(ha:PE X a ta)(hb:PE X (.BoolOp .Or (b::rest) pos) tb):PE X (.BoolOp .Or (a::b::rest) pos) (acT ta tb):=by
 intro pins s σ H Q I h;refine BoolOp_or (bG (ha pins s σ H _ I h) fun v s1 ⟨x,H1,I1,r1,q1⟩=>?_);obtain⟨c,rfl,q1⟩:=q1;cases r1;refine vF ?_;cases c with
 | false=>exact hb pins s1 σ H1 Q I1 q1
 | true=>exact⟨.bl true,H1,I1,rfl,q1⟩
theorem ak3(ha:PE X a ta):PE X (.UnaryOp .Not a pos) (acV ta):=by
 intro pins s σ H Q I h;refine UnaryOp_ (bG (ha pins s σ H _ I h) fun v s1 ⟨x,H1,I1,r1,q1⟩=>?_);obtain⟨c,rfl,q1⟩:=q1;cases r1;exact not_of (vF ⟨.bl (!c),H1,I1,rfl,q1⟩)
def tIf(t:TT)(ta tb:TE):TE:=fun σ H Q=>t σ H fun c H1=>if c=true then ta σ H1 Q else tb σ H1 Q
theorem alD{c:Expr}(hc:PT X c tA)(ha:PE X a ta)(hb:PE X b tb):PE X (.IfExp c a b pos) (tIf tA ta tb):=by
 intro pins s σ H Q I h;refine wpAny_IfExp (bG (hc pins s σ H _ I h) fun d s1 ⟨H1,I1,q1⟩=>?_);cases d with
 | true=>exact ha pins s1 σ H1 Q I1 q1
 | false=>exact hb pins s1 σ H1 Q I1 q1
end
def dG(K:Frag)(H:Hp)(a:Addr)(xs:List V):Prop :=
 Rd H a (.lst xs) ∨
  ∃(o:Obj) (aQ:Array Value) (n:Nat),K.lookup a=some o∧o.cls = .type "list"∧o.dict=none∧o.data = .seq aQ n∧aQ.size≤sizeLine∧Vals xs aQ.toList
def gA(K:Frag)(H:Hp)(a:Addr)(xs:List V):Prop :=
 Rd H a (.tup xs) ∨
  ∃(o:Obj) (aQ:Array Value) (n:Nat),K.lookup a=some o∧o.cls = .type "tuple"∧o.data = .seq aQ n∧aQ.size≤sizeLine∧Vals xs aQ.toList
def aw2:Value→Option V
 | .none=>some .bR
 | .bool b=>some (.bl b)
 | .int i _=>some (.int i)
 | .str x _=>some (.str x)
 | .bytes b _=>some (.SG b)
 | .float b _=>some (.CI b)
 | .ref a=>some (.ref a)
 | .type n=>some (.ty n)
 | _=>none
theorem RelV.abs{x:V}{u:Value}(r:RelV x u):aw2 u=some x:=by
 cases x with
 | bR=>cases r;rfl
 | bl _=>cases r;rfl
 | int _=>obtain⟨t,rfl⟩:=r;rfl
 | str _=>obtain⟨t,rfl⟩:=r;rfl
 | SG _=>obtain⟨t,rfl⟩:=r;rfl
 | CI _=>obtain⟨t,rfl⟩:=r;rfl
 | ref _=>cases r;rfl
 | ty _=>cases r;rfl
theorem RelV.inj{x y:V}{u:Value}(r:RelV x u)(q:RelV y u):x=y:=jJ (r.abs.symm.trans q.abs)
theorem Vals.inj:∀{xs ys:List V} {us:List Value},Vals xs us→Vals ys us→xs=ys
 | _,_,_,.nil,.nil=>rfl
 | _,_,_,.cons r t,.cons r' t'=>by rw [r.inj r',Vals.inj t t']
section
variable{X:Cx}{pins:List (Addr×Obj)}{σ:St}{H:Hp}{s:Shared}{a:Addr}{xs ys:List V}
theorem dG.of{K:Frag}(h:H a=some (.lst xs)):dG K H a xs := .inl (.inl h)
theorem gA.of{K:Frag}(h:H a=some (.tup xs)):gA K H a xs := .inl (.inl h)
theorem Inv.list(I:Inv X pins σ H s)(h:dG X.K H a xs):∃aQ:List Value,Vals xs aQ∧PlainL s.heap a aQ.toArray∧xs.length≤sizeLine:=by
 rcases h with h | ⟨o,aQ,n,hk,hc,hd,hs,hz,r⟩
 ·obtain⟨z,aQ,n,r,e⟩:=h.ok I.aH;exact⟨aQ,r,⟨_,n,e,rfl,rfl,rfl⟩,z⟩
 ·refine⟨aQ.toList,r,⟨o,n,I.gU a o hk,hc,hd,by simpa using hs⟩,?_⟩;have e:=r.length;simp only [Ku]at e;omega
theorem Inv.tuple(I:Inv X pins σ H s)(h:gA X.K H a xs):∃aQ:List Value,Vals xs aQ∧IsTup s.heap a aQ.toArray∧xs.length≤sizeLine:=by
 rcases h with h | ⟨o,aQ,n,hk,hc,hs,hz,r⟩
 ·obtain⟨z,aQ,r,p⟩:=h.ok I.aH;exact⟨aQ,r,p,z⟩
 ·refine⟨aQ.toList,r,⟨o,I.gU a o hk,hc,n,by simpa using hs⟩,?_⟩;have e:=r.length;simp only [Ku]at e;omega
theorem Inv.JL(I:Inv X pins σ H s)(h:dG X.K H a xs)(h':dG X.K H a ys):xs=ys:=by
 obtain⟨aQ,r,⟨o,n,e,_,_,d⟩,_⟩:=I.list h;obtain⟨its',r',⟨o',n',e',_,_,d'⟩,_⟩:=I.list h';rw [e]at e';cases e';rw [d]at d';injection d' with d1 _;have:aQ=its':=by simpa using congrArg Array.toList d1
 subst this;exact r.inj r'
theorem Inv.ab2(I:Inv X pins σ H s)(h:gA X.K H a xs)(h':gA X.K H a ys):xs=ys:=by
 obtain⟨aQ,r,⟨o,e,_,n,d⟩,_⟩:=I.tuple h;obtain⟨its',r',⟨o',e',_,n',d'⟩,_⟩:=I.tuple h';rw [e]at e';cases e';rw [d]at d';injection d' with d1 _;have:aQ=its':=by simpa using congrArg Array.toList d1
 subst this;exact r.inj r'
end
abbrev Cx.oE(X:Cx)(E:Value→Shared→Prop):Cx:={ X with xe:=E }
abbrev Cx.qT(X:Cx):Cx:=X.oE fun _ _=>False
theorem Cx.Ok.oE{X:Cx}(ok:X.Ok)(E:Value→Shared→Prop):(X.oE E).Ok :=
 ⟨ok.mod,ok.kind,ok.glob,ok.blt,ok.above,ok.inj,ok.has,ok.CP,ok.hd,ok.frames,ok.rS,ok.CJ,ok.bs,ok.pN,ok.uB,ok.yU,ok.nT,ok.sG⟩
theorem Cx.Ok.qN{X:Cx}{E:Value→Shared→Prop}(ok:(X.oE E).Ok):X.Ok :=
 ⟨ok.mod,ok.kind,ok.glob,ok.blt,ok.above,ok.inj,ok.has,ok.CP,ok.hd,ok.frames,ok.rS,ok.CJ,ok.bs,ok.pN,ok.uB,ok.yU,ok.nT,ok.sG⟩
section
variable{X:Cx}{pins:List (Addr×Obj)}{σ:St}{H:Hp}{s:Shared}{E:Value→Shared→Prop}
theorem Inv.oE(I:Inv X pins σ H s)(E:Value→Shared→Prop):Inv (X.oE E) pins σ H s:=⟨I.ok.oE E,I.os,I.bare,I.base,I.loc,I.cell,I.free,I.mJ,I.pin,I.aH,I.len⟩
theorem Inv.qN(I:Inv (X.oE E) pins σ H s):Inv X pins σ H s:=⟨I.ok.qN,I.os,I.bare,I.base,I.loc,I.cell,I.free,I.mJ,I.pin,I.aH,I.len⟩
theorem SP.qN{D:Ends}{f:Flow}{s':Shared}(h:SP (X.oE E) pins D f s'):SP X pins D f s':=by
 cases f with
 | next=>obtain⟨σ',H',I,q⟩:=h;exact⟨σ',H',I.qN,q⟩
 | brk=>obtain⟨σ',H',I,q⟩:=h;exact⟨σ',H',I.qN,q⟩
 | cont=>obtain⟨σ',H',I,q⟩:=h;exact⟨σ',H',I.qN,q⟩
 | ret u=>obtain⟨v,σ',H',I,r,q⟩:=h;exact⟨v,σ',H',I.qN,r,q⟩
theorem PE.qT{e:Expr}{t:TE}(h:PE X.qT e t):PE X e t:=fun pins s σ H Q I hw =>
 kJ (h pins s σ H Q (I.oE _) hw) (fun _ _ ⟨v,H',I',r,q⟩=>⟨v,H',I'.qN,r,q⟩) fun _ _ z=>False.elim z
theorem PT.qT{e:Expr}{t:TT}(h:PT X.qT e t):PT X e t:=fun pins s σ H Q I hw =>
 kJ (h pins s σ H Q (I.oE _) hw) (fun _ _ ⟨H',I',q⟩=>⟨H',I'.qN,q⟩) fun _ _ z=>False.elim z
theorem lT.qT{st:List Stmt}{t:TS}(h:lT X.qT st t):lT X st t:=fun pins s σ H D I hw =>
 kJ (h pins s σ H D (I.oE _) hw) (fun _ _ q=>q.qN) fun _ _ z=>False.elim z
end
section
variable{X:Cx}{st:Stmt}{rest:List Stmt}{t u:TS}{e:Expr}{te:TE}{pos:Pos}
def acY:TS:=fun D σ H=>D.nx σ H
def Mt(t u:TS):TS:=fun D σ H=>t { D with nx:=u D } σ H
theorem ajQ:lT X [] acY:=fun _ _ σ H _ I h=>VV ⟨σ,H,I,h⟩
theorem ajR(h1:PS X st t)(h2:lT X rest u):lT X (st::rest) (Mt t u):=by
 intro pins s σ H D I h;refine wpAny_execs_cons (bG (h1 pins s σ H { D with nx:=u D } I h) fun f s1 q=>?_);cases f with
 | next =>
  obtain⟨σ',H',I',q⟩:=q;exact h2 pins s1 σ' H' D I' q
 | ret v=>exact q
 | brk=>exact q
 | cont=>exact q
theorem ajP(h1:PS X st t):lT X [st] t:=by
 intro pins s σ H D I h;refine wpAny_execs_cons (bG (h1 pins s σ H D I h) fun f s1 q=>?_);cases f with
 | next=>exact VV q
 | ret v=>exact q
 | brk=>exact q
 | cont=>exact q
theorem Inv.quiet{pins:List (Addr×Obj)}{σ:St}{H:Hp}{s:Shared}(I:Inv X pins σ H s):interactive X.env=false:=by simp [interactive,I.ok.kind]
def ac5(te:TE):TS:=fun D σ H=>te σ H fun _ H1=>D.nx σ H1
theorem aj1(he:PE X e te)(hs:swapsWith e none pos.line X.env=pure false:=by rfl):PS X (.Expr e pos) (ac5 te):=by
 intro pins s σ H D I h;exact wpAny_Expr_any (bG (he pins s σ H _ I h) fun v s1 ⟨x,H1,I1,r1,q1⟩=>⟨σ,H1,I1,q1⟩) I.quiet hs
def acQ(te:TE):TS:=fun D σ H=>te σ H D.rt
theorem ajV(he:PE X e te):PS X (.Return (some e) pos) (acQ te):=by
 intro pins s σ H D I h;exact wpAny_Return_some (bG (he pins s σ H _ I h) fun v s1 ⟨x,H1,I1,r1,q1⟩=>⟨x,σ,H1,I1,r1,q1⟩)
def ac2(c:TT)(t u:TS):TS:=fun D σ H=>c σ H fun b H1=>if b=true then t D σ H1 else u D σ H1
theorem ajY{c:Expr}{a b:List Stmt}{tc:TT}(hc:PT X c tc)(ha:lT X a t)(hb:lT X b u):PS X (.If c a b pos) (ac2 tc t u):=by
 intro pins s σ H D I h;refine wpAny_If (bG (hc pins s σ H _ I h) fun d s1 ⟨H1,I1,q1⟩=>?_);cases d with
 | true=>exact ha pins s1 σ H1 D I1 q1
 | false=>exact hb pins s1 σ H1 D I1 q1
def acZ:TS:=fun _ _ _=>False
theorem ajX:PS X st acZ:=fun _ _ _ _ _ _ h=>h.elim
end
abbrev TG:=V→St→Hp→(St→Hp→Prop)→Prop
abbrev zD:=List V→St→Hp→(St→Hp→Prop)→Prop
def PG(X:Cx)(target:Expr)(t:TG):Prop :=
 ∀(pins:List (Addr×Obj)) (s:Shared) (σ:St) (H:Hp) (v:V) (u:Value) (Q:St→Hp→Prop),Inv X pins σ H s→RelV v u→t v σ H Q →
  wpAny (model X.prog X.w) X.A (assign target X.env u) (fun _ s'=>∃σ' H',Inv X pins σ' H' s'∧Q σ' H') X.xe s
def MY(X:Cx)(ts:List Expr)(t:zD):Prop :=
 ∀(pins:List (Addr×Obj)) (s:Shared) (σ:St) (H:Hp) (vs:List V) (us:List Value) (Q:St→Hp→Prop),Inv X pins σ H s→Vals vs us→t vs σ H Q →
  wpAny (model X.prog X.w) X.A (assignInOrder ((assignEach ts X.env).map (·.2)) us) (fun _ s'=>∃σ' H',Inv X pins σ' H' s'∧Q σ' H') X.xe s
abbrev Ir:=V→V→V→Hp→(Hp→Prop)→Prop
def Zf(X:Cx)(t:Ir):Prop :=
 ∀(pins:List (Addr×Obj)) (s:Shared) (σ:St) (H:Hp) (o i v:V) (ov iv u:Value) (Q:Hp→Prop),Inv X pins σ H s→RelV o ov→RelV i iv→RelV v u→t o i v H Q →
  wpAny (model X.prog X.w) X.A (setItem ov iv u) (fun _ s'=>∃H',Inv X pins σ H' s'∧Q H') X.xe s
section
variable{X:Cx}{pos:Pos}
def Fn(i:Nat):TG:=fun v σ H Q=>Q (σ.set i (some v)) H
theorem Pw{i:Nat}{x:Str}(hN:X.N.Nodup)(hi:X.N[i]? = some x)(hx:Loc X.env.scope x)(hf:X.fn x=true∨X.env.scope.names.lookup x=some .local:=by first | exact .inl rfl | exact .inr rfl | assumption):PG X (.Name x pos) (Fn i):=by
 intro pins s σ H v u Q I r h;exact wpAny_assign_Name (Nd I hN hi hx r (fun s' I'=>⟨_,H,I',h⟩) hf)
def as3:zD:=fun vs σ H Q=>vs=[]∧Q σ H
def as6(t:TG)(u:zD):zD:=fun vs σ H Q=>∃v r,vs=v::r∧t v σ H fun σ' H'=>u r σ' H' Q
theorem akS:MY X [] as3:=by
 intro pins s σ H vs us Q I r h;obtain⟨e,h⟩:=h;subst e;cases r;exact assignInOrder_nil ⟨σ,H,I,h⟩
theorem akT{e:Expr}{es:List Expr}{t:TG}{u:zD}(h1:PG X e t)(h2:MY X es u)
  (hs:(assignEach (e::es) X.env).map (·.2)=assign e X.env::(assignEach es X.env).map (·.2):=by rfl):MY X (e::es) (as6 t u):=by
 intro pins s σ H vs us Q I r h;obtain⟨v,vr,e1,h⟩:=h;subst e1;cases r with
 | cons r rr =>
  rw [hs];refine assignInOrder_cons (bG (h1 pins s σ H _ _ _ I r h) fun _ s1 ⟨σ1,H1,I1,q1⟩=>?_);exact h2 pins s1 σ1 H1 _ _ Q I1 rr q1
def as2(K:Frag)(n:Nat)(t:zD):TG:=fun v σ H Q=>∃a xs,v = .ref a∧gA K H a xs∧xs.length=n∧t xs σ H Q
theorem akU{es:List Expr}{k:Nat}{t:zD}{n:Nat}(hc:X.calm=true)(h:MY X es t)
  (hn:(assignEach es X.env).length=n:=by rfl) (oQ:(assignEach es X.env).findIdx? (·.1)=none:=by rfl):PG X (.Tuple es k pos) (as2 X.K n t):=by
 intro pins s σ H v u Q I r hw;obtain⟨a,xs,e1,hq,hl,hw⟩:=hw;subst e1;cases r;obtain⟨aQ,rv,ht,hz⟩:=I.tuple hq;refine assign_Tuple_tuple (I.ok.hd hc) ht (by simp [hn,← hl,rv.length]) oQ fun h' hx=>?_;have I1:Inv X pins σ H { s with heap:=h' }:=I.kept (t':=s.toks) fun b o e=>hx b o (iE (dA e)) e;exact h pins _ σ H xs _ Q I1 (by simpa using rv) hw
def eO(to ti:TE)(t:Ir):TG:=fun v σ H Q=>to σ H fun o H1=>ti σ H1 fun i H2=>t o i v H2 fun H3=>Q σ H3
theorem akV{o i:Expr}{to ti:TE}{t:Ir}(ho:PE X o to)(hi:PE X i ti)(hs:Zf X t)
  (ha:∀v,assign (.Subscript o i pos) X.env v=(do
   let ov ← holding [v] (eval o X.env)
   let iv ← holding [v,ov] (eval i X.env)
   standAt pos
   holding [v,ov,iv] (setItem ov iv v)
   release [v,ov,iv] []):=by intro _;rfl):PG X (.Subscript o i pos) (eO to ti t):=by
 intro pins s σ H v u Q I r h;rw [ha];refine aZ (xK (bG (ho pins s σ H _ I h) fun ov s1 ⟨x,H1,I1,r1,q1⟩=>?_));refine aZ (xK (bG (hi pins s1 σ H1 _ I1 q1) fun iv s2 ⟨y,H2,I2,r2,q2⟩=>?_));refine aZ (wpAny_standAt (aZ (xK (bG (hs pins s2 σ H2 x y v ov iv u _ I2 r1 r2 r q2) fun _ s3 ⟨H3,I3,q3⟩=>?_))));exact wpAny_release ⟨σ,H3,I3,q3⟩
def OU(te:TE)(g:TG):TS:=fun D σ H=>te σ H fun x H1=>g x σ H1 D.nx
theorem aj5{tg e:Expr}{te:TE}{g:TG}(he:PE X e te)(hg:PG X tg g)(hs:swapsWithSole [tg] e pos.line X.env=pure false:=by rfl)(hw:swappedStores [tg] e X.env=pure none:=by rfl)
  (h1:(assignEach [tg] X.env).map (·.2)=[assign tg X.env]:=by rfl):PS X (.Assign [tg] e pos) (OU te g):=by
 intro pins s σ H D I h;refine wpAny_Assign_stores (bG (he pins s σ H _ I h) fun v s1 ⟨x,H1,I1,r1,q1⟩=>?_) hs hw;rw [h1];exact bG (hg pins s1 σ H1 x v _ I1 r1 q1) fun _ s2 q=>q
theorem ajU{i:Nat}{x:Str}{e:Expr}{te:TE}{pos':Pos}(hN:X.N.Nodup)(hi:X.N[i]? = some x)(hx:Loc X.env.scope x)(he:PE X e te)(hs:swapsWith e (some (.Name x pos')) pos.line X.env=pure false:=by rfl)(hf:X.fn x=true∨X.env.scope.names.lookup x=some .local:=by first | exact .inl rfl | exact .inr rfl | assumption) :
  PS X (.Assign [.Name x pos'] e pos) (OU te (Fn i)):=by
 intro pins s σ H D I h;refine wpAny_Assign_Name (bG (he pins s σ H _ I h) fun v s1 ⟨y,H1,I1,r1,q1⟩=>?_) hs;exact Nd I1 hN hi hx r1 (fun s2 I2=>⟨_,H1,I2,q1⟩) hf
def Ms(c:TT)(tb:TS):TS:=fun D σ H=>∃W:Nat→St→Hp→Prop,(∃m,W m σ H)∧∀m σ H,W m σ H →
 c σ H fun b H1=>if b=true then ∃N:St→Hp→Prop,(∀σ' H',N σ' H'→∃m',m'<m∧W m' σ' H')∧tb { D with nx:=N,ct:=N,bk:=D.nx } σ H1 else D.nx σ H1
theorem ajS{c:Expr}{body:List Stmt}{tc:TT}{tb:TS}(hp:PassesOwn (model X.prog X.w) X.A X.env X.xe)(hc:PT X c tc)(hb:lT X body tb):PS X (.While c body [] pos) (Ms tc tb):=by
 intro pins s σ H D I h;obtain⟨W,⟨m0,w0⟩,turn⟩:=h;refine wpAny_While (codeAny_whileLoop (fun n s'=>∃σ' H',Inv X pins σ' H' s'∧W n σ' H') ?_ m0 ⟨σ,H,I,w0⟩);rintro n s1 ⟨σ1,H1,I1,w1⟩;refine DO hp (bG (hc pins s1 σ1 H1 _ I1 (turn n σ1 H1 w1)) fun b s2 ⟨H2,I2,q2⟩=>?_);cases b with
 | true =>
  obtain⟨N,hN,q2⟩:=q2;rw [if_pos rfl];refine DO hp (bG (hb pins s2 σ1 H2 _ I2 q2) fun f s3 q3=>?_);cases f with
  | next =>
   obtain⟨σ3,H3,I3,n3⟩:=q3;obtain⟨m',hm,w3⟩:=hN σ3 H3 n3;exact⟨m',hm,σ3,H3,I3,w3⟩
  | cont =>
   obtain⟨σ3,H3,I3,n3⟩:=q3;obtain⟨m',hm,w3⟩:=hN σ3 H3 n3;exact⟨m',hm,σ3,H3,I3,w3⟩
  | brk=>exact q3
  | ret v=>exact q3
 | false =>
  rw [if_neg Kt];exact VV ⟨σ1,H2,I2,q2⟩
end
structure It where
 go:Nat→Hp→Prop
 xJ:Nat→Hp→V→Hp→Prop
 stop:Nat→Hp→Prop
def mP(X:Cx)(pins:List (Addr×Obj))(H:Hp)(b:Addr):Prop :=
 H b=none∧b≠X.env.locals∧b∉X.fs∧(b∈X.ex∨X.s₀.heap.objs.size≤b)∧(∀x c,X.env.cells.lookup x=some c→c≠b)∧∀p∈X.pn++pins,p.1≠b
theorem Inv.pX{X:Cx}{pins:List (Addr×Obj)}{σ:St}{H H':Hp}{s:Shared}{b:Addr}(I:Inv X pins σ H s)(hb:s.heap.objs.size≤b)(hn:H' b=none):mP X pins H' b:=by
 refine⟨hn,CY (kE I.lt hb),I.am9 hb,.inr (qE I.sz hb),fun x c e z=>?_,fun p hp z=>?_⟩
 ·obtain⟨v,q⟩:=I.cell x c e;exact absurd (kE q.lt (by rw [z];exact hb)) (Nat.lt_irrefl _)
 ·exact absurd (kE (dA (I.pin p hp).1) (by rw [z];exact hb)) (Nat.lt_irrefl _)
structure Turn(P:Program)(w:World)(K:Frag)(tg:Expr)(J:It)(fp:List Addr)(it:Addr)(tn:Nat→Heap→Prop):Prop where
 mem:it∈fp
 obj:∀i h,tn i h→∀b∈fp,∃o,h.get? b=some o∧∀v,o.data ≠ .cell v
 keep:∀i h h',tn i h→(∀b∈fp,∀o,h.get? b=some o→h'.get? b=some o)→tn i h'
 item:∀(X:Cx),X.prog=P→X.w=w→X.K=K→X.calm=true→∀(i:Nat) (pins:List (Addr×Obj)) (s:Shared) (σ:St) (H:Hp) (E:Value→Shared→Prop),Inv X pins σ H s→(∀b∈fp,mP X pins H b)→tn i s.heap→J.go i H →
  wpAny (model P w) X.A (pyNext (.ref it)) (fun r s1=>∃u,r=some u ∧
   wpAny (model P w) X.A (letOwnedTupleGo tg (.ref it) u) (fun _ s2=>∃x H',Inv X pins σ H' s2∧RelV x u∧J.xJ i H x H'∧tn (i+1) s2.heap∧∀b∈fp,H' b=none) E s1) E s
 done:∀(X:Cx),X.prog=P→X.w=w→X.K=K→X.calm=true→∀(i:Nat) (pins:List (Addr×Obj)) (s:Shared) (σ:St) (H:Hp) (E:Value→Shared→Prop),Inv X pins σ H s→(∀b∈fp,mP X pins H b)→tn i s.heap→J.stop i H →
  wpAny (model P w) X.A (pyNext (.ref it)) (fun r s1=>r=none∧Inv X pins σ H s1) E s
 self:∀(A:Around) (i:Nat) (s:Shared) (Q:Value→Shared→Prop) (E:Value→Shared→Prop),tn i s.heap→Q (.ref it) s→wpAny (model P w) A (pyIter (.ref it)) Q E s
abbrev TI:=St→Hp→(It→Hp→Prop)→Prop
def Zg(X:Cx)(pins:List (Addr×Obj))(σ:St)(tg:Expr)(R:It→Hp→Prop)(QU:Value)(s2:Shared):Prop :=
 ∃(it:Addr) (fp:List Addr) (tn:Nat→Heap→Prop) (J:It) (H':Hp),QU = .ref it∧Inv X pins σ H' s2∧Turn X.prog X.w X.K tg J fp it tn∧tn 0 s2.heap∧(∀b∈fp,mP X pins H' b)∧R J H'
def PI(X:Cx)(tg iter:Expr)(wi:TI):Prop :=
 ∀(pins:List (Addr×Obj)) (s:Shared) (σ:St) (H:Hp) (R:It→Hp→Prop),Inv X pins σ H s→wi σ H R →
  wpAny (model X.prog X.w) X.A (eval iter X.env) (fun v s1=>wpAny (model X.prog X.w) X.A (pyIter v) (Zg X pins σ tg R) X.xe s1) X.xe s
theorem Fi{M:Model}{A:Around}{E:Value→Shared→Prop}{s:Shared}{tg:Expr}{it:Addr}{u:Value}{o:Obj}{n:String}{vs:Array Value}{Q:Unit→Shared→Prop}(ho:s.heap.get? it=some o)(hc:o.cls = .type n)(hd:o.data = .fields vs)
  (hn:["enumerate", "zip", "dict_itemiterator", "dict_reverseitemiterator", "odict_iterator", "itertools.zip_longest", "itertools.pairwise"].contains n=false) (hQ:Q () s):wpAny M A (letOwnedTupleGo tg (.ref it) u) Q E s:=by
 unfold letOwnedTupleGo;cases tg <;> first
  | exact dM hQ
  | (cases u <;> first
    | exact dM hQ
    | (refine aZ (wpAny_load ho ?_)
       rw [hc,hd];show wpAny M A (if(["enumerate", "zip", "dict_itemiterator", "dict_reverseitemiterator", "odict_iterator", "itertools.zip_longest", "itertools.pairwise"].contains n&&vs[0]? == some (rawInt _))=true then _ else _) Q E s;rw [if_neg (by intro h;rw [hn,Bool.false_and]at h;cases h)];exact dM hQ))
def Jt(K:Frag)(a:Addr):It :=
 ⟨fun i H=>∃xs x,dG K H a xs∧xs[i]? = some x,fun i H x H'=>H'=H∧∀xs,dG K H a xs→xs[i]? = some x,fun i H=>∃xs,dG K H a xs∧xs.length≤i⟩
def Js(K:Frag)(a:Addr):It :=
 ⟨fun i H=>∃xs x,gA K H a xs∧xs[i]? = some x,fun i H x H'=>H'=H∧∀xs,gA K H a xs→xs[i]? = some x,fun i H=>∃xs,gA K H a xs∧xs.length≤i⟩
def US(lo:Int)(n:Nat):It:=⟨fun i _=>i<n,fun i H x H'=>H'=H∧x = .int (lo+i),fun i _=>n≤i⟩
theorem abY{P:Program}{w:World}{K:Frag}{tg:Expr}(a it:Addr):Turn P w K tg (Jt K a) [it] it (fun i h=>h.IsListIter it a i)where
 mem:=by simp
 obj:=fun i h st b hb=>by
  have e:b=it:=by simpa using hb
  subst e;obtain⟨o,e,c,d⟩:=st;exact⟨o,e,fun v z=>by rw [d]at z;cases z⟩
 keep:=fun i h h' st k=>st.at fun o e=>k it (by simp) o e
 item:=by
  intro X hP hw hK hc i pins s σ H E I hf st hg;subst hP hw hK;obtain⟨xs,x,hq,hx⟩:=hg;obtain⟨aQ,rv,p,hz⟩:=I.list hq;obtain⟨u,hu,ru⟩:=rv.get hx;obtain⟨f0,f1,f2,f3,f4,f5⟩:=hf it (by simp);refine wpAny_pyNext_list_item st p.isList (x:=u) (by simpa using hu) fun h' mF sb=>?_;have I1:Inv X pins σ H { s with heap:=h' }:=I.turned (t':=s.toks) (fun b o hb e=>(sb.2 b hb).trans e) f0 f1 f3 f4 f5;obtain⟨o,e,c,d⟩:=id mF;exact⟨u,rfl,Fi (s:={ s with heap:=h' }) e c d (by decide) ⟨x,H,I1,ru,⟨rfl,fun ys hy=>by rw [I.JL hy hq];exact hx⟩,mF,fun b hb=>(hf b hb).1⟩⟩
 done:=by
  intro X hP hw hK hc i pins s σ H E I hf st hg;subst hP hw hK;obtain⟨xs,hq,hx⟩:=hg;obtain⟨aQ,rv,p,hz⟩:=I.list hq;obtain⟨f0,f1,f2,f3,f4,f5⟩:=hf it (by simp);have hl:=rv.length;exact wpAny_pyNext_list_end (I.ok.hd hc) st p.isList (by simp;omega) fun h' eb=>⟨rfl,I.turned (t':=s.toks) (fun b o hb e=>eb b o hb e) f0 f1 f3 f4 f5⟩
 self:=fun _ _ _ _ _ st h=>wpAny_pyIter_listiter st h
theorem abW{P:Program}{w:World}{K:Frag}{tg:Expr}(a it:Addr):Turn P w K tg (Js K a) [it] it (fun i h=>h.IsTupleIter it a i)where
 mem:=by simp
 obj:=fun i h st b hb=>by
  have e:b=it:=by simpa using hb
  subst e;obtain⟨o,e,c,d⟩:=st;exact⟨o,e,fun v z=>by rw [d]at z;cases z⟩
 keep:=fun i h h' st k=>st.at fun o e=>k it (by simp) o e
 item:=by
  intro X hP hw hK hc i pins s σ H E I hf st hg;subst hP hw hK;obtain⟨xs,x,hq,hx⟩:=hg;obtain⟨aQ,rv,p,hz⟩:=I.tuple hq;obtain⟨u,hu,ru⟩:=rv.get hx;obtain⟨f0,f1,f2,f3,f4,f5⟩:=hf it (by simp);refine wpAny_pyNext_tuple_item st (show s.heap.IsTuple a aQ.toArray from p) (x:=u) (by simpa using hu) fun h' mF sb=>?_;have I1:Inv X pins σ H { s with heap:=h' }:=I.turned (t':=s.toks) (fun b o hb e=>(sb.2 b hb).trans e) f0 f1 f3 f4 f5;obtain⟨o,e,c,d⟩:=id mF;exact⟨u,rfl,Fi (s:={ s with heap:=h' }) e c d (by decide) ⟨x,H,I1,ru,⟨rfl,fun ys hy=>by rw [I.ab2 hy hq];exact hx⟩,mF,fun b hb=>(hf b hb).1⟩⟩
 done:=by
  intro X hP hw hK hc i pins s σ H E I hf st hg;subst hP hw hK;obtain⟨xs,hq,hx⟩:=hg;obtain⟨aQ,rv,p,hz⟩:=I.tuple hq;obtain⟨f0,f1,f2,f3,f4,f5⟩:=hf it (by simp);have hl:=rv.length;exact wpAny_pyNext_tuple_end (I.ok.hd hc) st (show s.heap.IsTuple a aQ.toArray from p) (by simp;omega) fun h' eb=>⟨rfl,I.turned (t':=s.toks) (fun b o hb e=>eb b o hb e) f0 f1 f3 f4 f5⟩
 self:=fun _ _ _ _ _ st h=>wpAny_pyIter_tupleiter st h
theorem abX{P:Program}{w:World}{K:Frag}{tg:Expr}(it:Addr)(lo:Int)(n:Nat):Turn P w K tg (US lo n) [it] it (fun i h=>IsRangeIter h it (lo+(i:Nat)*1) ((n:Int) - (i:Nat)) 1)where
 mem:=by simp
 obj:=fun i h st b hb=>by
  have e:b=it:=by simpa using hb
  subst e;exact⟨_,st,fun v z=>by
   have z':Data.fields _=Data.cell v:=z;cases z'⟩
 keep:=fun i h h' st k=>k it (by simp) _ st
 item:=by
  intro X hP hw hK hc i pins s σ H E I hf st hg;subst hP hw hK;obtain⟨f0,f1,f2,f3,f4,f5⟩:=hf it (by simp);have W:=Walks.range (prog:=X.prog) (w:=X.w) (I.ok.hd hc) it lo 1 n;refine W.item i s _ _ hg st fun v h' tk hv mF kk=>?_;obtain⟨t,rfl⟩:=hv;have I1:Inv X pins σ H { s with heap:=h',toks:=tk }:=I.turned (fun b o hb e=>kk b o (by simpa using hb) e) f0 f1 f3 f4 f5;refine⟨_,rfl,Fi (s:={ s with heap:=h',toks:=tk }) (n := "range_iterator") mF rfl rfl (by decide) ⟨.int (lo+i),H,I1,⟨t,?_⟩,⟨rfl,rfl⟩,mF,fun b hb=>(hf b hb).1⟩⟩;rw [Int.mul_one]
 done:=by
  intro X hP hw hK hc i pins s σ H E I hf st hg;subst hP hw hK;obtain⟨f0,f1,f2,f3,f4,f5⟩:=hf it (by simp);exact wpAny_pyNext_range_end (I.ok.hd hc) st (by have:n≤i:=hg;omega) fun h' eb=>⟨rfl,I.turned (t':=s.toks) (fun b o hb e=>eb b o hb e) f0 f1 f3 f4 f5⟩
 self:=fun _ _ _ _ _ st h=>wpAny_pyIter_rangeiter st h
section
variable{X:Cx}{tg:Expr}
theorem ai2{pins:List (Addr×Obj)}{σ:St}{H:Hp}{s:Shared}{R:It→Hp→Prop}{E:Value→Shared→Prop}{lo hi:Int}{t u v:Tok}{tk:Nat}(I:Inv X pins σ H s)(h1 : -(2 ^ 62)≤lo)(h2:lo<2 ^ 62)(h3 : -(2 ^ 62)≤hi)(h4:hi<2 ^ 62)
  (q:R (US lo (hi - lo).toNat) H):wpAny (model X.prog X.w) X.A (pyIter (.ref s.heap.objs.size)) (Zg X pins σ tg R) E { s with heap:=s.heap.push { cls := .type "range",data := .fields #[.int lo t,.int hi u,.int 1 v] },toks:=tk }:=by
 refine wpAny_pyIter_range (IsRange.new ..) (small_one h1 h2 h3 h4) ?_;have I1:Inv X pins σ H { s with heap:=s.heap.push { cls := .type "range",data := .fields #[.int lo t,.int hi u,.int 1 v] },toks:=tk }:=I.kept fun b o e=>eL _ e;refine⟨(s.heap.push { cls := .type "range",data := .fields #[.int lo t,.int hi u,.int 1 v] }).objs.size,[(s.heap.push { cls := .type "range",data := .fields #[.int lo t,.int hi u,.int 1 v] }).objs.size],_,_,H,rfl,
  I1.kept (t':=tk) fun b o e=>eL _ e,abX _ lo (hi - lo).toNat,?_,fun b hb=>?_,q⟩
 ·have e1:lo+((0:Nat):Int)*1=lo:=by simp
  have e2:(((hi - lo).toNat:Nat):Int) - ((0:Nat):Int)=Builtin.Range.rangeSize lo hi 1:=by rw [rangeSize_one];split <;> omega
  show IsRangeIter _ _ (lo+((0:Nat):Int)*1) ((((hi - lo).toNat:Nat):Int) - ((0:Nat):Int)) 1;rw [e1,e2];exact kH _ rfl
 ·have e:b=(s.heap.push { cls := .type "range",data := .fields #[.int lo t,.int hi u,.int 1 v] }).objs.size:=by simpa using hb
  subst e;exact I1.pX cJ (I1.aH.fresh cJ)
def apX(ta:TA):TI:=fun σ H R=>ta σ H fun vs H1=>∃j:Int,vs=[.int j]∧-(2 ^ 62)≤j∧j<2 ^ 62∧R (US 0 j.toNat) H1
theorem akO{a:Expr}{ta:TA}{p pos:Pos}(hg:Gl X "range")(hm:X.mg "range" = none)(ha:PA X [a] ta)(hs:starEach [a] X.env=[(false,eval a X.env)]:=by rfl):PI X tg (.Call (.Name "range" p) [a] [] pos) (apX ta):=by
 intro pins s σ H R I h;refine Call_ (BC I hg hm boot_range (Iu (bG (ha pos pins s σ H _ I h) fun us s1 ⟨vs,H1,I1,r1,q1⟩=>?_) hs rfl));obtain⟨j,e,q1,q2,q⟩:=q1;subst e;cases r1 with
 | cons r rr =>
  cases rr;obtain⟨t,rfl⟩:=r;exact call_range_1 (ai2 I1 (by omega) (by omega) q1 q2 (by simpa using q))
def Mu(wi:TI)(g:TG)(tb:TS):TS:=fun D σ H=>wi σ H fun J H1=>∃W:Nat→Nat→St→Hp→Prop,(∃m,W 0 m σ H1)∧∀i m σ H,W i m σ H →
 (J.stop i H∧D.nx σ H)∨(J.go i H∧∃N:St→Hp→Prop,(∀σ' H',N σ' H'→∃m',m'<m∧W (i+1) m' σ' H')∧∀x H',J.xJ i H x H'→g x σ H' fun σ2 H2=>tb { D with nx:=N,ct:=N,bk:=D.nx } σ2 H2)
def EO(fp:List Addr)(h:Heap):List (Addr×Obj):=fp.filterMap fun b=>(h.get? b).map fun o=>(b,o)
theorem AX{fp:List Addr}{h:Heap}{b:Addr}{o:Obj}(hb:b∈fp)(e:h.get? b=some o):(b,o)∈EO fp h:=List.mem_filterMap.mpr ⟨b,hb,by rw [e];rfl⟩
theorem amN{fp:List Addr}{h:Heap}{p:Addr×Obj}(hp:p∈EO fp h):p.1∈fp∧h.get? p.1=some p.2:=by
 obtain⟨b,hb,e⟩:=List.mem_filterMap.mp hp;cases q:h.get? b with
 | none=>rw [q]at e;cases e
 | some o =>
  rw [q]at e;have e':(b,o)=p:=jJ e;subst e';exact⟨hb,q⟩
theorem Inv.pinned{pins:List (Addr×Obj)}{σ:St}{H:Hp}{s:Shared}{fp:List Addr}(I:Inv X pins σ H s)(hf:∀b∈fp,mP X pins H b)(ho:∀b∈fp,∃o,s.heap.get? b=some o∧∀v,o.data ≠ .cell v):Inv X (pins++EO fp s.heap) σ H s :=
 I.ZY fun p hp=>(oZ.mp hp).elim (fun z=>I.pin p (mO _ z)) fun z=>by
  obtain⟨hb,e⟩:=amN z;obtain⟨f0,f1,f2,_⟩:=hf p.1 hb;obtain⟨o,e',d⟩:=ho p.1 hb;rw [e]at e';cases e';exact⟨e,f0,f1,f2,d⟩
theorem Inv.DY{pins pl:List (Addr×Obj)}{σ:St}{H:Hp}{s:Shared}(I:Inv X (pins++pl) σ H s):Inv X pins σ H s:=I.ZY fun p hp=>I.pin p (mO _ (xB _ hp))
theorem ajZ{iter:Expr}{body:List Stmt}{wi:TI}{g:TG}{tb:TS}{pos:Pos}(hp:PassesOwn (model X.prog X.w) X.A X.env X.xe)(hc:X.calm=true)(hi:PI X tg iter wi)(hg:PG X tg g)(hb:lT X body tb)
  (hs:∀x,foldedSetIterable iter X.env x=pure x:=by intro _;rfl):PS X (.For tg iter body [] pos) (Mu wi g tb):=by
 intro pins s σ H D I h;refine wpAny_For (bG (hi pins s σ H _ I h) fun v s1 h1=>bG h1 fun QU s2 h2=>?_) hs;obtain⟨it,fp,tn,J,H2,e,I2,T,mE,f2,W,⟨m0,w0⟩,turn⟩:=h2;subst e;have YE:∀{H':Hp},(∀b∈fp,H' b=none)→∀b∈fp,mP X pins H' b:=fun hn b hb=>⟨hn b hb,(f2 b hb).2⟩
 refine codeAny_forLoop_any (fun n s'=>∃i σ' H',Inv X pins σ' H' s'∧tn i s'.heap∧(∀b∈fp,H' b=none)∧W i n σ' H') ?_ m0 ⟨0,σ,H2,I2,mE,fun b hb=>(f2 b hb).1,w0⟩;rintro n s3 ⟨i,σ3,H3,I3,Ni,Vj,w3⟩
 rcases turn i n σ3 H3 w3 with⟨stop,qn⟩ | ⟨go,N,hN,step⟩
 ·refine DO hp (bG (T.done X rfl rfl rfl hc i pins s3 σ3 H3 X.xe I3 (YE Vj) Ni stop) fun r s4 ⟨hr,I4⟩=>?_);subst hr;exact VV ⟨σ3,H3,I4,qn⟩
 ·refine DO hp (bG (T.item X rfl rfl rfl hc i pins s3 σ3 H3 X.xe I3 (YE Vj) Ni go) fun r s4 ⟨u,hr,h4⟩=>?_);subst hr;refine DO hp (bG h4 fun _ s5 ⟨x,H5,I5,r5,y5,vO,CG⟩=>?_);have I5':=I5.pinned (YE CG) (T.obj _ _ vO);refine DO hp (bG (hg _ s5 σ3 H5 x u _ I5' r5 (step x H5 y5)) fun _ s6 ⟨σ6,H6,I6,q6⟩=>?_);refine DO hp (bG (hb _ s6 σ6 H6 _ I6 q6) fun f s7 q7=>?_);have again:∀{σ7:St} {H7:Hp},Inv X (pins++EO fp s5.heap) σ7 H7 s7→N σ7 H7→∃m,m<n∧∃i σ' H',Inv X pins σ' H' s7∧tn i s7.heap∧(∀b∈fp,H' b=none)∧W i m σ' H':=fun{σ7 H7} I7 n7=>by
   obtain⟨m',hm,w7⟩:=hN σ7 H7 n7;refine⟨m',hm,i+1,σ7,H7,I7.DY,T.keep _ _ _ vO fun b hb o e=>(I7.pin (b,o) (mO _ (mO _ (AX hb e)))).1,fun b hb=>?_,w7⟩;obtain⟨o,e,d⟩:=T.obj _ _ vO b hb;exact(I7.pin (b,o) (mO _ (mO _ (AX hb e)))).2.1
  cases f with
  | next=>obtain⟨σ7,H7,I7,n7⟩:=q7;exact again I7 n7
  | cont=>obtain⟨σ7,H7,I7,n7⟩:=q7;exact again I7 n7
  | brk=>obtain⟨σ7,H7,I7,q7⟩:=q7;exact⟨σ7,H7,I7.DY,q7⟩
  | ret v=>obtain⟨x7,σ7,H7,I7,r7,q7⟩:=q7;exact⟨x7,σ7,H7,I7.DY,r7,q7⟩
end
abbrev R2:=V→V→Hp→VK→Prop
def fU(X:Cx)(f:Value→Value→Sem Value)(r:R2):Prop :=
 ∀(pins:List (Addr×Obj)) (s:Shared) (σ:St) (H:Hp) (x y:V) (v u:Value) (Q:VK),Inv X pins σ H s→RelV x v→RelV y u→r x y H Q →
  wpAny (model X.prog X.w) X.A (f v u) (EP X pins σ Q) X.xe s
def Ij(X:Cx)(f:Value→Sem Value)(r:V→Hp→VK→Prop):Prop :=
 ∀(pins:List (Addr×Obj)) (s:Shared) (σ:St) (H:Hp) (x:V) (v:Value) (Q:VK),Inv X pins σ H s→RelV x v→r x H Q →
  wpAny (model X.prog X.w) X.A (f v) (EP X pins σ Q) X.xe s
def nJ(X:Cx)(f:Value)(r:List V→Hp→VK→Prop):Prop :=
 ∀(pins:List (Addr×Obj)) (s:Shared) (σ:St) (H:Hp) (xs:List V) (us:List Value) (Q:VK),Inv X pins σ H s→Vals xs us→r xs H Q →
  wpAny (model X.prog X.w) X.A (call f us) (EP X pins σ Q) X.xe s
def IA(r:R2)(ta tb:TE):TE:=fun σ H Q=>ta σ H fun x H1=>tb σ H1 fun y H2=>r x y H2 Q
def tUn(r:V→Hp→VK→Prop)(ta:TE):TE:=fun σ H Q=>ta σ H fun x H1=>r x H1 Q
def rI(C:Int→Int→Prop)(g:Int→Int→V):R2:=fun x y H Q=>∃i j,x = .int i∧y = .int j∧C i j∧Q (g i j) H
def vT(g:Int→Int→V):R2:=fun x y H Q=>∃i j,x = .int i∧y = .int j∧Q (g i j) H
def rU(g:Int→V):V→Hp→VK→Prop:=fun x H Q=>∃i,x = .int i∧Q (g i) H
section
variable{X:Cx}{a b c:Expr}{ta tb tc:TE}{pos:Pos}
theorem Hf(ha:PE X a ta)(hb:PE X b tb){pins:List (Addr×Obj)}{s:Shared}{σ:St}{H:Hp}{R:V→V→Hp→Prop}(I:Inv X pins σ H s)
  (h:ta σ H fun x H1=>tb σ H1 fun y H2=>R x y H2) {Q:Value→Shared→Prop} {f:Value→Value→Sem Value}
  (hf:∀v u s2 x y H2,Inv X pins σ H2 s2→RelV x v→RelV y u→R x y H2→wpAny (model X.prog X.w) X.A (f v u) Q X.xe s2) :
  wpAny (model X.prog X.w) X.A (eval a X.env) (fun v s₁=>wpAny (model X.prog X.w) X.A (eval b X.env) (fun u s₂=>wpAny (model X.prog X.w) X.A (f v u) Q X.xe s₂) X.xe s₁) X.xe s:=by
 refine bG (ha pins s σ H _ I h) fun v s1 ⟨x,H1,I1,r1,q1⟩=>?_;refine bG (hb pins s1 σ H1 _ I1 q1) fun u s2 ⟨y,H2,I2,r2,q2⟩=>?_;exact hf v u s2 x y H2 I2 r1 r2 q2
theorem ak1{op:Operator}{r:R2}(ho:fU X (binaryOp op) r)(ha:PE X a ta)(hb:PE X b tb):PE X (.BinOp a op b pos) (IA r ta tb):=by
 intro pins s σ H Q I h;exact wpAny_BinOp (Hf ha hb I h fun v u s2 x y H2 I2 rx ry q=>ho pins s2 σ H2 x y v u Q I2 rx ry q)
theorem akW{op:UnaryOp}{r:V→Hp→VK→Prop}(ho:Ij X (unaryOp op) r)(ha:PE X a ta):PE X (.UnaryOp op a pos) (tUn r ta):=by
 intro pins s σ H Q I h;exact UnaryOp_ (bG (ha pins s σ H _ I h) fun v s1 ⟨x,H1,I1,r1,q1⟩=>ho pins s1 σ H1 x v Q I1 r1 q1)
theorem JA{f:Value→Value→Sem Value}{C:Int→Int→Prop}{g:Int→Int→Int}
  (rule:∀(i j:Int) (t u:Tok) (s:Shared) (Q:Value→Shared→Prop) (E:Value→Shared→Prop),C i j→Q (.int (g i j) s.toks) { s with toks:=s.toks+1 }→wpAny (model X.prog X.w) X.A (f (.int i t) (.int j u)) Q E s) :
  fU X f (rI C fun i j => .int (g i j)):=by
 intro pins s σ H x y v u Q I rx ry h;obtain⟨i,j,rfl,rfl,hc,q⟩:=h;obtain⟨t,rfl⟩:=rx;obtain⟨t',rfl⟩:=ry;exact rule i j t t' s _ _ hc ⟨.int (g i j),H,I.tok _,⟨_,rfl⟩,q⟩
theorem Qc{f:Value→Value→Sem Value}{g:Int→Int→Int}
  (rule:∀(i j:Int) (t u:Tok) (s:Shared) (Q:Value→Shared→Prop) (E:Value→Shared→Prop),Q (.int (g i j) s.toks) { s with toks:=s.toks+1 }→wpAny (model X.prog X.w) X.A (f (.int i t) (.int j u)) Q E s) :
  fU X f (vT fun i j => .int (g i j)):=by
 intro pins s σ H x y v u Q I rx ry h;obtain⟨i,j,rfl,rfl,q⟩:=h;obtain⟨t,rfl⟩:=rx;obtain⟨t',rfl⟩:=ry;exact rule i j t t' s _ _ ⟨.int (g i j),H,I.tok _,⟨_,rfl⟩,q⟩
theorem QJ{f:Value→Value→Sem Value}{g:Int→Int→Bool}
  (rule:∀(i j:Int) (t u:Tok) (s:Shared) (Q:Value→Shared→Prop) (E:Value→Shared→Prop),Q (.bool (g i j)) s→wpAny (model X.prog X.w) X.A (f (.int i t) (.int j u)) Q E s) :
  fU X f (vT fun i j => .bl (g i j)):=by
 intro pins s σ H x y v u Q I rx ry h;obtain⟨i,j,rfl,rfl,q⟩:=h;obtain⟨t,rfl⟩:=rx;obtain⟨t',rfl⟩:=ry;exact rule i j t t' s _ _ ⟨.bl (g i j),H,I,rfl,q⟩
def lH(i j:Int):Prop:=0<j∧j<1073741824
def DN(i j:Int):Prop:=0≤j∧j≤1000000∧i.natAbs<2 ^ 64
def kI(i j:Int):Prop:=(-(2 ^ 64)<i∧i<2 ^ 64)∨(-(2 ^ 64)<j∧j<2 ^ 64)
theorem kI.ok{i j:Int}(h:kI i j):IntMulOk i j:=by
 rcases h with⟨h1,h2⟩ | ⟨h1,h2⟩
 ·exact .of_left (intBits_le_64 h1 h2)
 ·exact .of_right (intBits_le_64 h1 h2)
theorem amK:fU X (binaryOp .Add) (vT fun i j => .int (i+j)):=Qc fun _ _ _ _ _ _ _ q=>add_int q
theorem al3:fU X (binaryOp .Sub) (vT fun i j => .int (i - j)):=Qc fun _ _ _ _ _ _ _ q=>sub_int q
theorem al8:fU X (binaryOp .Mult) (rI kI fun i j => .int (i*j)):=JA fun _ _ _ _ _ _ _ hc q=>mul_int q hc.ok
theorem amG:fU X (binaryOp .FloorDiv) (rI lH fun i j => .int (i/j)):=JA fun i j _ _ _ _ _ hc q=>by
 have h1:(0:Int)<j:=hc.1;have h2:j<1073741824:=hc.2;exact floordiv_int (by omega) (by rw [Int.fdiv_eq_ediv_of_nonneg i (by omega)];exact q) (.inl (PyProof.noPylong_small (by omega)))
theorem al9:fU X (binaryOp .Mod) (rI (fun _ j=>0<j) fun i j => .int (i%j)):=JA fun i j _ _ _ _ _ hc q=>by
 have h1:(0:Int)<j:=hc;exact mod_int' (by omega) (by rw [Int.fmod_eq_emod_of_nonneg i (by omega)];exact q)
theorem al4:fU X (binaryOp .Pow) (rI DN fun i j => .int (i ^ j.toNat)):=JA fun _ _ _ _ _ _ _ hc q=>pow_int_small hc.1 hc.2.1 hc.2.2 q
theorem unI{f:Value→Sem Value}{g:Int→Int}
  (rule:∀(i:Int) (t:Tok) (s:Shared) (Q:Value→Shared→Prop) (E:Value→Shared→Prop),Q (.int (g i) s.toks) { s with toks:=s.toks+1 }→wpAny (model X.prog X.w) X.A (f (.int i t)) Q E s) :
  Ij X f (rU fun i => .int (g i)):=by
 intro pins s σ H x v Q I rx h;obtain⟨i,rfl,q⟩:=h;obtain⟨t,rfl⟩:=rx;exact rule i t s _ _ ⟨.int (g i),H,I.tok _,⟨_,rfl⟩,q⟩
theorem abQ:Ij X (unaryOp .USub) (rU fun i => .int (-i)):=unI fun _ _ _ _ _ q=>neg_int q
theorem Vr{pins:List (Addr×Obj)}{σ:St}{H:Hp}{s:Shared}{Q:VK}{k k':Bool}(I:Inv X pins σ H s)(q:Q (.bl k) H)(e:k=k'):EP X pins σ Q (.bool k') s:=by
 subst e;exact⟨.bl k,H,I,rfl,q⟩
theorem amA:fU X (compareOp .Lt) (vT fun i j => .bl (decide (i<j))):=QJ fun _ _ _ _ _ _ _ q=>lt_int q
theorem amB:fU X (compareOp .LtE) (vT fun i j => .bl (decide (i≤j))):=QJ fun _ _ _ _ _ _ _ q=>le_int q
theorem amD:fU X (compareOp .Gt) (vT fun i j => .bl (decide (j<i))):=QJ fun _ _ _ _ _ _ _ q=>gt_int q
theorem amE:fU X (compareOp .GtE) (vT fun i j => .bl (decide (j≤i))):=QJ fun _ _ _ _ _ _ _ q=>ge_int q
theorem amC:fU X (compareOp .Is) (fun x y H Q=>y = .bR∧Q (.bl (decide (x = .bR))) H):=by
 intro pins s σ H x y v u Q I rx ry h;obtain⟨rfl,q⟩:=h;cases ry;refine is_none_gen (Vr I q ?_);cases x <;> first
  | (cases rx;rfl)
  | (obtain⟨t,rfl⟩:=rx;rfl)
theorem al5:fU X (compareOp .IsNot) (fun x y H Q=>y = .bR∧Q (.bl (!decide (x = .bR))) H):=by
 intro pins s σ H x y v u Q I rx ry h;obtain⟨rfl,q⟩:=h;cases ry;refine isnot_none_gen (Vr I q ?_);cases x <;> first
  | (cases rx;rfl)
  | (obtain⟨t,rfl⟩:=rx;rfl)
theorem fU.or{f:Value→Value→Sem Value}{r r':R2}(h:fU X f r)(h':fU X f r'):fU X f (fun x y H Q=>r x y H Q∨r' x y H Q):=by
 intro pins s σ H x y v u Q I rx ry q
 rcases q with q | q
 ·exact h pins s σ H x y v u Q I rx ry q
 ·exact h' pins s σ H x y v u Q I rx ry q
theorem eI(b:Expr){op:CmpOp}(h:op ≠ .In:=by decide)(h2:op ≠ .NotIn:=by decide):behindInMarks op b=false:=by
 have e1:(op == CmpOp.In)=false:=by cases op <;> first | rfl | exact absurd rfl h
 have e2:(op == CmpOp.NotIn)=false:=by cases op <;> first | rfl | exact absurd rfl h2
 cases b <;> simp [behindInMarks,e1,e2]
theorem alL{op:CmpOp}{r:R2}(ho:fU X (compareOp op) r)(ha:PE X a ta)(hb:PE X b tb)(hm:behindInMarks op b=false):PE X (.Compare a [op] [b] pos) (IA r ta tb):=by
 intro pins s σ H Q I h;exact wpAny_Compare1 (Hf ha hb I h fun v u s2 x y H2 I2 rx ry q=>ho pins s2 σ H2 x y v u Q I2 rx ry q) hm
def XU(t:TE):TT:=fun σ H Q=>t σ H fun x H'=>∃k,x = .bl k∧Q k H'
theorem ajN{op:CmpOp}{r:R2}(ho:fU X (compareOp op) r)(ha:PE X a ta)(hb:PE X b tb)(hm:behindInMarks op b=false):PT X (.Compare a [op] [b] pos) (XU (IA r ta tb)):=by
 intro pins s σ H Q I h;refine wpAny_isTrue_Compare1 (bG (ha pins s σ H _ I h) fun v s1 ⟨x,H1,I1,r1,q1⟩=>bG (hb pins s1 σ H1 _ I1 q1) fun u s2 ⟨y,H2,I2,r2,q2⟩ =>
  bG (ho pins s2 σ H2 x y v u _ I2 r1 r2 q2) fun c s3 ⟨z,H3,I3,r3,k,e,q3⟩=>?_) hm
 subst e;cases r3;exact vF ⟨H3,I3,q3⟩
def Mw(r r':R2)(ta tb tc:TE):TE:=fun σ H Q=>ta σ H fun x H1=>tb σ H1 fun y H2=>r x y H2 fun z H3=>∃k,z = .bl k ∧
 (if k=true then tc σ H3 fun w' H4=>r' y w' H4 Q else Q (.bl false) H3)
theorem ajO{op pF:CmpOp}{r r':R2}(ho:fU X (compareOp op) r)(iZ:fU X (compareOp pF) r')(ha:PE X a ta)(hb:PE X b tb)(hc:PE X c tc)
  (hm:lastMarks [op,pF] [b,c]=false:=by with_unfolding_all rfl):PT X (.Compare a [op,pF] [b,c] pos) (XU (Mw r r' ta tb tc)):=by
 intro pins s σ H Q I h;refine isTrue_chain (bG (ha pins s σ H _ I h) fun v s1 ⟨x,H1,I1,r1,q1⟩=>test_link (bG (hb pins s1 σ H1 _ I1 q1) fun u s2 ⟨y,H2,I2,r2,q2⟩ =>
  bG (ho pins s2 σ H2 x y v u _ I2 r1 r2 q2) fun d s3 ⟨z,H3,I3,r3,k,e,q3⟩=>?_)) hm
 subst e;cases r3;refine vF ?_;cases k with
 | false =>
  obtain⟨k',e',q'⟩:=q3;cases e';exact ite_ff ⟨H3,I3,q'⟩
 | true =>
  refine ite_tt (test_last (bG (hc pins s3 σ H3 _ I3 q3) fun w' s4 ⟨z',H4,I4,r4,q4⟩=>bG (iZ pins s4 σ H4 y z' u w' _ I4 r2 r4 q4) fun d' s5 ⟨z2,H5,I5,r5,k2,e2,q5⟩=>?_));subst e2;cases r5;exact vF ⟨H5,I5,q5⟩
theorem JM:(sizeLine:Nat)<2 ^ 63:=by rw [mG];decide
theorem vals1{x:V}{us:List Value}(r:Vals [x] us):∃u,us=[u]∧RelV x u:=by
 cases r with
 | cons r1 r2=>cases r2;exact⟨_,rfl,r1⟩
theorem vals2{x y:V}{us:List Value}(r:Vals [x,y] us):∃u w',us=[u,w']∧RelV x u∧RelV y w':=by
 cases r with
 | cons r1 r2 =>
  cases r2 with
  | cons r3 r4=>cases r4;exact⟨_,_,rfl,r1,r3⟩
theorem av2(hc:X.calm=true):nJ X (.builtin "max") (fun xs H Q=>∃i j,xs=[.int i,.int j]∧Q (.int (if j>i then j else i)) H):=by
 intro pins s σ H xs us Q I r h;obtain⟨i,j,rfl,q⟩:=h;obtain⟨u,w',rfl,⟨t,rfl⟩,⟨t',rfl⟩⟩:=vals2 r;refine max_two_ints (I.ok.hd hc) fun h' tk k=>⟨_,H,I.kept k,?_,q⟩
 by_cases hj:j>i
 ·rw [if_pos hj,if_pos hj];exact⟨_,rfl⟩
 ·rw [if_neg hj,if_neg hj];exact⟨_,rfl⟩
theorem av1(hc:X.calm=true):nJ X (.builtin "min") (fun xs H Q=>∃i j,xs=[.int i,.int j]∧Q (.int (if j<i then j else i)) H):=by
 intro pins s σ H xs us Q I r h;obtain⟨i,j,rfl,q⟩:=h;obtain⟨u,w',rfl,⟨t,rfl⟩,⟨t',rfl⟩⟩:=vals2 r;refine min_two_ints (I.ok.hd hc) fun h' tk k=>⟨_,H,I.kept k,?_,q⟩
 by_cases hj:j<i
 ·rw [if_pos hj,if_pos hj];exact⟨_,rfl⟩
 ·rw [if_neg hj,if_neg hj];exact⟨_,rfl⟩
theorem av6:nJ X (.type "int") (fun xs H Q=>(∃i,xs=[.int i]∧Q (.int i) H)∨∃k,xs=[.bl k]∧Q (.int (if k then 1 else 0)) H):=by
 intro pins s σ H xs us Q I r h
 rcases h with⟨i,rfl,q⟩ | ⟨k,rfl,q⟩
 ·obtain⟨u,rfl,t,rfl⟩:=vals1 r;exact call_int_int ⟨.int i,H,I,⟨_,rfl⟩,q⟩
 ·obtain⟨u,rfl,r1⟩:=vals1 r;cases r1;exact call_int_bool ⟨.int (if k then 1 else 0),H,I.tok _,⟨_,rfl⟩,q⟩
end
structure CU(h:Heap)(x dx C:Addr)(mA:Str→Option Value):Prop where
 obj:h.get? x=some (instObj C dx)
 ns:h.Ns1 dx mA
 ne:dx≠x
theorem aoD{h:Heap}{dx:Addr}{mA:Str→Option Value}(n:h.Ns1 dx mA):∃od,h.get? dx=some od∧∀name,lookIn name od=some (mA name):=by
 obtain⟨o,es,ep,ho,hd,hk,_,hm⟩:=n;refine⟨o,ho,fun name=>?_⟩;have e:=hm name;unfold nsFind findBy at e;rw [← Array.find?_toList]at e;unfold lookIn;rw [hd];dsimp only;split
 ·rename_i y q;rw [q]at e;exact congrArg some e
 ·rename_i q;rw [q]at e;have a:es.toList.any (·.refKey)=false:=by
   rw [List.any_eq_false];intro y hy;obtain⟨z,t,aqZ⟩:=hk y (Array.mem_toList_iff.mp hy);simp [DictEntry.refKey,aqZ]
  have a':¬es.toList.any (·.refKey)=true:=by rw [a];exact Kt
  rw [if_neg a'];exact congrArg some e
theorem CU.look{h:Heap}{x dx C:Addr}{mA:Str→Option Value}(I:CU h x dx C mA):∃od,PySem.W.InstAt h x (instObj C dx) C (some od)∧∀name,lookIn name od=some (mA name) :=
 let ⟨od,ho,hl⟩:=aoD I.ns
 ⟨od,⟨I.obj,rfl,rfl,ho⟩,hl⟩
section
variable{prog:Program}{w:World}{A:Around}{E:Value→Shared→Prop}{s:Shared}{K:Frag}{x dx C f:Addr}{mA:Str→Option Value}{name:Str}{v:Value}
theorem get_map{expr:Bool}{Q:Value→Shared→Prop}(X:K.In s.heap)(I:CU s.heap x dx C mA)(hg:plainGet K C name=true)(hh:hasDictIn K C=true)
  (ha:findIn K (.ref C) name=some none) (hv:mA name=some v) (FF:PySem.W.handedIn v=true) (h:Q v { s with toks:=s.toks+1 }) :
  wpAny (model prog w) A (getAttr (.ref x) name expr) Q E s:=by
 obtain⟨od,J,hl⟩:=I.look;exact PySem.W.get_value X J (plainGet_of hg).1 (PySem.W.findObj_own hh ha rfl (by rw [hl,hv])) FF h
theorem as0{pl:Sem Bool}{Q:Value×List Value→Shared→Prop}(X:K.In s.heap)(I:CU s.heap x dx C mA)(hg:plainGet K C name=true)
  (hf:findIn K (.ref C) name=some (some (.ref f))) (ht:isFn K (.ref f)=true) (hv:mA name=none) (h:Q (.ref f,[.ref x]) s) :
  wpAny (model prog w) A (getMethod (.ref x) name pl) Q E s:=by
 obtain⟨od,J,hl⟩:=I.look;exact PySem.W.method_fn X J (plainGet_of hg).1 (plainGet_of hg).2 hf (CQ.mp ht) (by show(lookIn name od).map (·.isSome)=some false;rw [hl,hv];rfl) h
theorem ah9{ns:List Str}{Q:Unit→Shared→Prop}(X:K.In s.heap)(I:CU s.heap x dx C mA)
  (hs:findIn K (.ref C) "__setattr__" = some (some (.builtin "object.__setattr__"))) (hp:PySem.W.plainOver K C=true) (ht:takerIn K C name=some none) (hh:hasDictIn K C=true)
  (hw:PySem.Within mA ns) (hsz:ns.length≤sizeLine)
  (h:∀h',CU h' x dx C (fun y=>if y=name then some v else mA y)→Heap.SameBut dx s.heap h'→Q () { s with heap:=h',toks:=s.toks+2 }) :
  wpAny (model prog w) A (setAttr (.ref x) name v) Q E s:=by
 obtain⟨od,J,hl⟩:=I.look;refine PySem.W.set_plain X J hs (PySem.W.osa_open (s:={ s with toks:=s.toks+1 }) (r:=none) X J hp ht fun b=>?_);obtain⟨cd,hc,BV⟩:=PySem.W.any_some hh;have hx:s.heap.get? x=some ⟨.ref C,some dx,.plain,#[]⟩:=I.obj;refine aZ (dM (aZ (aZ (wpAny_loadPart hx (aZ (PySem.W.Looks.here (s:={ s with toks:=s.toks+1 }) (PySem.W.looks_clsIn X hc) ?_))))));rw [BV];refine dM (a:=some dx) (aZ (dM (aZ ?_)));refine wpAny_nsSet1 (s:={ s with toks:=s.toks+1 }) I.ns fun h' wL tH=>?_;obtain⟨oD,esD,epD,hoD,hdD,hcD⟩:=wL.count (PySem.Within.cons name v hw);refine aZ (wpAny_lookBehind hoD (by rw [hdD];exact pastItsLine_dict (qE hcD (by rw [gO];omega))) ?_);exact dM (h _ ⟨(tH.2 _ (cQ I.ne)).trans I.obj,wL,I.ne⟩ tH)
theorem an5{R:Result→Shared→Prop}{vs:List Value}{kw:List (Str×Value)}(X:K.In s.heap)(hm:makesIn K C=true)
  (hi:findIn K (.ref C) "__init__" = some (some (.ref f))) (hf:typeIn K (.ref f)=some (.type "function"))
  (h:codeAny (model prog w) (A.under (.builtin "type.__call__" ⟨.ref C::vs,kw⟩)) (.call (.ref f) ⟨.ref (s.heap.objs.size+1)::vs,kw⟩) (PySem.W.InitBack (s.heap.objs.size+1) R)
   { s with heap:=(s.heap.push emptyDict).push (instObj C s.heap.objs.size) }) :
  codeAny (model prog w) A (.call (.ref C) ⟨vs,kw⟩) R s:=by
 obtain⟨hh,g,d,t,os⟩:=s;exact PySem.W.make_core (PySem.W.makes_of X hm) (PySem.W.looks_findIn X hi) (fun self=>PySem.W.bind_fn X self hf) (.inl rfl) h
end
def jE(f:Str)(v:V):List (Str×V)→List (Str×V)
 | []=>[(f,v)]
 | (g,x)::r=>if g=f then(g,v)::r else(g,x)::jE f v r
theorem Ri(f g:Str)(v:V):∀fs:List (Str×V),(jE f v fs).lookup g=if g=f then some v else fs.lookup g
 | []=>by
  show List.lookup g [(f,v)]=_
  by_cases h:g=f
  ·have hb:(g == f)=true:=CQ.mpr h;simp only [List.lookup,hb,if_pos h]
  ·have hb:(g == f)=false:=uQ.mpr h;simp only [List.lookup,hb,if_neg h]
 | (k,x)::r=>by
  have ih:=Ri f g v r;rw [show jE f v ((k,x)::r)=(if k=f then(k,v)::r else(k,x)::jE f v r)from rfl]
  by_cases hk:k=f
  ·rw [if_pos hk]
   by_cases h:g=k
   ·have hb:(g == k)=true:=CQ.mpr h;simp only [List.lookup,hb,if_pos (h.trans hk)]
   ·have hb:(g == k)=false:=uQ.mpr h;simp only [List.lookup,hb,if_neg (fun e:g=f=>h (e.trans hk.symm))]
  ·rw [if_neg hk]
   by_cases h:g=k
   ·have hb:(g == k)=true:=CQ.mpr h;simp only [List.lookup,hb,if_neg (fun e:g=f=>hk (h.symm.trans e))]
   ·have hb:(g == k)=false:=uQ.mpr h;simp only [List.lookup,hb];exact ih
theorem Ck(f:Str)(v:V):∀fs:List (Str×V),f∈(jE f v fs).map (·.1)∧∀g,g∈fs.map (·.1)→g∈(jE f v fs).map (·.1)
 | []=>⟨by simp [jE],fun g h=>by simp at h⟩
 | (k,x)::r=>by
  obtain⟨i1,i2⟩:=Ck f v r;rw [show jE f v ((k,x)::r)=(if k=f then(k,v)::r else(k,x)::jE f v r)from rfl]
  by_cases hk:k=f
  ·rw [if_pos hk];subst hk;exact⟨by simp,fun g h=>by simpa using h⟩
  ·rw [if_neg hk];refine⟨?_,fun g h=>?_⟩
   ·rw [dH];exact jK _ i1
   ·rw [dH]at h ⊢
    rcases dN.mp h with e | e
    ·exact dN.mpr (.inl e)
    ·exact jK _ (i2 g e)
theorem Rt(f:Str)(v:V):∀fs:List (Str×V),(jE f v fs).length≤fs.length+1
 | []=>by simp [jE]
 | (k,x)::r=>by
  have ih:=Rt f v r;rw [show jE f v ((k,x)::r)=(if k=f then(k,v)::r else(k,x)::jE f v r)from rfl]
  by_cases hk:k=f
  ·rw [if_pos hk,gO,gO];omega
  ·rw [if_neg hk,gO,gO];omega
theorem nG.some_of{v:V}{o:Option Value}(r:nG (some v) o):∃u,o=some u∧RelV v u:=by
 cases o with
 | none=>exact(show False from r).elim
 | some u=>exact⟨u,rfl,r⟩
theorem nG.none_of{o:Option Value}(r:nG none o):o=none:=by
 cases o with
 | none=>rfl
 | some u=>exact(show False from r).elim
theorem arU{v:V}{u:Value}(r:RelV v u):PySem.W.handedIn u=true:=by
 cases v with
 | bR=>cases(show u=Value.none from r);rfl
 | bl b=>cases(show u=Value.bool b from r);rfl
 | int i=>obtain⟨t,e⟩:=(show ∃t,u=Value.int i t from r);cases e;rfl
 | str x=>obtain⟨t,e⟩:=(show ∃t,u=Value.str x t from r);cases e;rfl
 | SG b=>obtain⟨t,e⟩:=(show ∃t,u=Value.bytes b t from r);cases e;rfl
 | CI b=>obtain⟨t,e⟩:=(show ∃t,u=Value.float b t from r);cases e;rfl
 | ref a=>cases(show u=Value.ref a from r);rfl
 | ty n=>cases(show u=Value.type n from r);rfl
section
variable{P:Program}{w:World}{H H':Hp}{h h':Heap}{a C dx:Addr}{fs iB:List (Str×V)}
theorem QV(aH:eY P w H h)(e:H a=some (.ins C dx fs)):∃mA,CU h a dx C mA∧(∀f,nG (fs.lookup f) (mA f))∧PySem.Within mA (fs.map (·.1))∧fs.length≤1000∧H dx=some (.own a):=by
 obtain⟨d,z,ne,ob,mA,n,r,q⟩:=(show gY P w H h a (.ins C dx fs)from aH a _ e);exact⟨mA,⟨ob,n,ne⟩,r,q,z,d⟩
end
structure nY(K:Frag)(C:Addr):Prop where
 pg:plainGet K C Str.empty=true
 hd:hasDictIn K C=true
 po:PySem.W.plainOver K C=true
 sa:findIn K (.ref C) "__setattr__" = some (some (.builtin "object.__setattr__"))
theorem nY.get{K:Frag}{C:Addr}(c:nY K C)(f:Str):plainGet K C f=true:=c.pg
def CV(K:Frag)(C:Addr)(f:Str):Prop:=findIn K (.ref C) f=some none
theorem CV.acI{K:Frag}{C:Addr}{f:Str}(n:CV K C f):takerIn K C f=some none:=by
 unfold takerIn;rw [show findIn K (.ref C) f=some none from n];rfl
structure Con(K:Frag)(C:Addr)(f:Str)(v:V)(u:Value):Prop where
 at_:findIn K (.ref C) f=some (some u)
 rel:RelV v u
 get:specialIn K u "__get__" = some none
 cp:PySem.W.copiedNames.contains f=false
structure Meth(K:Frag)(C:Addr)(m:Str)(f:Addr):Prop where
 at_:findIn K (.ref C) m=some (some (.ref f))
 fn:isFn K (.ref f)=true
 kp:keepIn K (.ref f)=true
section
variable{X:Cx}{pins:List (Addr×Obj)}{σ:St}{H:Hp}{s:Shared}{a C dx:Addr}{fs:List (Str×V)}{f:Str}{v:V}{A:Around}{E:Value→Shared→Prop}
theorem asZ{b:Bool}{Q:Value→Shared→Prop}(I:Inv X pins σ H s)(e:H a=some (.ins C dx fs))(c:nY X.K C)(n:CV X.K C f)(l:fs.lookup f=some v)
  (h:∀u s',Inv X pins σ H s'→RelV v u→Q u s'):wpAny (model X.prog X.w) A (getAttr (.ref a) f b) Q E s:=by
 obtain⟨mA,O,r,_,_,_⟩:=QV I.aH e;obtain⟨u,hu,ru⟩:=nG.some_of (v:=v) (o:=mA f) (by rw [← l];exact r f);exact get_map I.gU O (c.get f) c.hd n hu (arU ru) (h u _ (I.tok _) ru)
theorem Uw{m:Str}{g:Addr}{pl:Sem Bool}{Q:Value×List Value→Shared→Prop}(I:Inv X pins σ H s)(e:H a=some (.ins C dx fs))(c:nY X.K C)(k:Meth X.K C m g)(l:fs.lookup m=none)
  (h:Q (.ref g,[.ref a]) s):wpAny (model X.prog X.w) A (getMethod (.ref a) m pl) Q E s:=by
 obtain⟨mA,O,r,_,_,_⟩:=QV I.aH e;have hn:mA m=none:=nG.none_of (by rw [← l];exact r m);exact as0 I.gU O (c.get m) k.at_ k.fn hn h
theorem ah8{y:V}{u:Value}{Q:Unit→Shared→Prop}(I:Inv X pins σ H s)(e:H a=some (.ins C dx fs))(c:nY X.K C)(n:CV X.K C f)(hl:fs.length<1000)(ry:RelV y u)
  (h:∀s',Inv X pins σ (upd H a (.ins C dx (jE f y fs))) s'→Q () s'):wpAny (model X.prog X.w) A (setAttr (.ref a) f u) Q E s:=by
 obtain⟨mA,O,r,wi,_,ho⟩:=QV I.aH e;have hz:(fs.map (·.1)).length≤sizeLine:=by rw [kQ,mG];omega
 refine ah9 I.gU O c.sa c.po n.acI c.hd wi hz fun h' O' sb=>h _ ?_;have hd:∃o,h'.get? dx=some o:=let ⟨o,_,_,e',_⟩:=O'.ns; ⟨o,e'⟩;refine I.write (x:=a) (e:=dx) (by rw [e];exact True.intro) (.inr ho) (fun b q hb z=>(sb.2 b hb).trans z) hd ?_;refine⟨by rw [bP O.ne];exact ho,?_,O.ne,O'.obj,_,O'.ns,fun g=>?_,fun g hg=>?_⟩
 ·have:=Rt f y fs;omega
 ·show nG ((jE f y fs).lookup g) (if g=f then some u else mA g);rw [Ri]
  by_cases q:g=f
  ·rw [if_pos q,if_pos q];exact ry
  ·rw [if_neg q,if_neg q];exact r g
 ·by_cases q:g=f
  ·rw [q];exact(Ck f y fs).1
  ·refine(Ck f y fs).2 g (wi g fun z=>hg ?_);show(if g=f then some u else mA g)=none;rw [if_neg q];exact z
theorem Inv.made(I:Inv X pins σ H s):Inv X pins σ (upd (upd H s.heap.objs.size (.own (s.heap.objs.size+1))) (s.heap.objs.size+1) (.ins C s.heap.objs.size []))
  { s with heap:=(s.heap.push emptyDict).push (instObj C s.heap.objs.size) }:=by
 have e1:(s.heap.push emptyDict).get? s.heap.objs.size=some emptyDict:=kH s.heap rfl;have e2:((s.heap.push emptyDict).push (instObj C s.heap.objs.size)).get? (s.heap.objs.size+1)=some (instObj C s.heap.objs.size):=by
  have:=kH (s.heap.push emptyDict) (o:=instObj C s.heap.objs.size) rfl;rwa [tV]at this
 have e3:(s.heap.push emptyDict).Ns s.heap.objs.size (fun _=>none):=⟨emptyDict,#[],_,e1,rfl,(fun e he=>absurd he (by simp)),fun _=>rfl⟩;have I1:=I.laid (a:=s.heap.objs.size) (o := .own (s.heap.objs.size+1)) (h':=s.heap.push emptyDict) (t':=s.toks) (fun b u q=>eL _ q) cJ ⟨_,e1⟩;refine I1.laid (a:=s.heap.objs.size+1) (o := .ins C s.heap.objs.size []) (t':=s.toks) (fun b u q=>eL _ q) (Nat.le_of_eq (tV _ _)) ?_;have ne:s.heap.objs.size≠s.heap.objs.size+1:=iE (Iz _);refine⟨by rw [bP ne,eA],CW _,ne,e2,fun _=>none,(Heap.Ns1.of_empty e3).at fun o q=>eL _ q,fun _=>True.intro,fun y hy=>absurd rfl hy⟩
theorem awN{prog:Program}{w:World}{env:Env}{e:Expr}{f:Str}{pos:Pos}{s:Shared}{Q:Value→Shared→Prop}(hb:attributeBase e f env (eval e env)=eval e env)
  (h:wpAny (model prog w) A (eval e env) (fun o s₁=>wpAny (model prog w) A (getAttr o f true) Q E s₁) E s):wpAny (model prog w) A (eval (.Attribute e f pos) env) Q E s :=
 Attribute_any_ h (by rw [arm_eval_Attribute,hb])
end
def ac4(K:Frag)(ta:TE)(f:Str):TE:=fun σ H Q=>ta σ H fun x H1=>∃a C dx fs v,x = .ref a∧H1 a=some (.ins C dx fs)∧nY K C∧CV K C f∧fs.lookup f=some v∧Q v H1
def aiP(K:Frag)(ta tv:TE)(f:Str):TS:=fun D σ H=>tv σ H fun y H1=>ta σ H1 fun x H2=>∃a C dx fs,x = .ref a∧H2 a=some (.ins C dx fs)∧nY K C∧CV K C f∧fs.length<1000 ∧
 D.nx σ (upd H2 a (.ins C dx (jE f y fs)))
section
variable{X:Cx}{o e value:Expr}{f:Str}{pos pos' ab5:Pos}{ta tv:TE}
theorem alF(he:PE X e ta)(hb:attributeBase e f X.env (eval e X.env)=eval e X.env):PE X (.Attribute e f pos) (ac4 X.K ta f):=by
 intro pins s σ H Q I h;refine awN hb (bG (he pins s σ H _ I h) fun u s1 ⟨x,H1,I1,rx,a,C,dx,fs,v,ex,ea,c,n,l,q⟩=>?_);subst ex;obtain rfl:u=Value.ref a:=rx;exact asZ I1 ea c n l fun u' s2 I2 ru=>⟨v,H1,I2,ru,q⟩
theorem aj0(ha:PE X o ta)(hv:PE X value tv)(hs:swapsWith value (some (.Attribute o f pos')) pos.line X.env=pure false):PS X (.Assign [.Attribute o f pos'] value pos) (aiP X.K ta tv f):=by
 intro pins s σ H D I h;refine plainObj_wpAny_Assign_Attribute (bG (hv pins s σ H _ I h) fun u s1 ⟨y,H1,I1,ry,q⟩=>bG (ha pins s1 σ H1 _ I1 q) fun ov s2 ⟨x,H2,I2,rx,a,C,dx,fs,ex,ea,c,n,l,q2⟩=>?_) hs;subst ex;obtain rfl:ov=Value.ref a:=rx;exact ah8 I2 ea c n l ry fun s3 I3=>⟨σ,_,I3,q2⟩
end
section
variable{X:Cx}{pins:List (Addr×Obj)}{σ:St}{H:Hp}{s:Shared}{A:Around}{E:Value→Shared→Prop}{Q:Value→Shared→Prop}{c:Value}{b:Bool}
inductive qA(K:Frag)(H:Hp):V→Value→Prop where
 | bR:qA K H .bR (.type "NoneType")
 | bl (x:Bool):qA K H (.bl x) (.type "bool")
 | int (i:Int):qA K H (.int i) (.type "int")
 | str (x:Str):qA K H (.str x) (.type "str")
 | CI (x:UInt64):qA K H (.CI x) (.type "float")
 | lst {a:Addr} {xs:List V} (e:H a=some (.lst xs)):qA K H (.ref a) (.type "list")
 | dU {a:Addr} {o:Obj} {xs:List V} (e:H a=some (.dU o (.lst xs))):qA K H (.ref a) (.type "list")
 | tup {a:Addr} {xs:List V} (e:H a=some (.tup xs)):qA K H (.ref a) (.type "tuple")
 | dK {a:Addr} {kvs:List (Key×V)} (e:H a=some (.dK kvs)):qA K H (.ref a) (.type "dict")
 | dT {a:Addr} {kvs:List (List Key×V)} (e:H a=some (.dT kvs)):qA K H (.ref a) (.type "dict")
 | ins {a C dx:Addr} {fs:List (Str×V)} (e:H a=some (.ins C dx fs)) (cl:nY K C) (ha:findIn K (.ref C) "__class__" = some (some (.builtin "object.__class__")))
   (hn:specialIn K (.builtin "object.__class__") "__get__" = some (some (.builtin "getset_descriptor.__get__"))) (Sv:PySem.W.takesIn K (.builtin "object.__class__")=some true)
   (hm:mroIn K C (.type "object")=some true):qA K H (.ref a) (.ref C)
theorem apM{x:V}{u t:Value}(I:Inv X pins σ H s)(rx:RelV x u)(ty:qA X.K H x t)(e:kitOne X.K t c=some b)(h:∀tk,Q (.bool b) { s with toks:=tk }) :
  wpAny (model X.prog X.w) A (call (.builtin "isinstance") [u,c]) Q E s:=by
 cases ty with
 | bR=>cases(show u=Value.none from rx);exact kia_one PySem.W.kitx_none I.gU True.intro e (fun z=>nomatch z) h
 | bl y=>cases(show u=Value.bool y from rx);exact kia_one PySem.W.kitx_bool I.gU True.intro e (fun z=>nomatch z) h
 | int i=>obtain⟨t,q⟩:=(show ∃t,u=Value.int i t from rx);cases q;exact kia_one PySem.W.kitx_int I.gU True.intro e (fun z=>nomatch z) h
 | str y=>obtain⟨t,q⟩:=(show ∃t,u=Value.str y t from rx);cases q;exact kia_one PySem.W.kitx_str I.gU True.intro e (fun z=>nomatch z) h
 | CI y=>obtain⟨t,q⟩:=(show ∃t,u=Value.float y t from rx);cases q;exact kia_one PySem.W.kitx_float I.gU True.intro e (fun z=>nomatch z) h
 | @lst a xs ea =>
  cases(show u=Value.ref a from rx);obtain⟨_,_,n,_,h1⟩:=(show gY X.prog X.w H s.heap a (.lst xs)from I.aH a _ ea);exact kia_one PySem.W.kitx_list I.gU ⟨_,h1,rfl⟩ e (fun z=>nomatch z) h
 | @dU a ob xs ea =>
  cases(show u=Value.ref a from rx);obtain⟨_,_,_,n,_,h1⟩:=(show gY X.prog X.w H s.heap a (.dU ob (.lst xs))from I.aH a _ ea);exact kia_one PySem.W.kitx_list I.gU ⟨_,h1,rfl⟩ e (fun z=>nomatch z) h
 | @tup a xs ea =>
  cases(show u=Value.ref a from rx);obtain⟨_,_,_,p⟩:=(show gY X.prog X.w H s.heap a (.tup xs)from I.aH a _ ea);obtain⟨o,h1,h2,_⟩:=p;exact kia_one PySem.W.kitx_tuple I.gU ⟨o,h1,h2⟩ e (fun z=>nomatch z) h
 | @dK a kvs ea =>
  cases(show u=Value.ref a from rx);obtain⟨_,_,vs,_,p⟩:=(show gY X.prog X.w H s.heap a (.dK kvs)from I.aH a _ ea);obtain⟨o,es,ep,h1,h2,_⟩:=p;exact kia_one PySem.W.kitx_dict I.gU ⟨o,h1,h2.1⟩ e (fun z=>nomatch z) h
 | @dT a kvs ea =>
  cases(show u=Value.ref a from rx);obtain⟨_,_,xs,_,o,es,ep,h1,h2,_⟩:=(show gY X.prog X.w H s.heap a (.dT kvs)from I.aH a _ ea);exact kia_one PySem.W.kitx_dict I.gU ⟨o,h1,h2.1⟩ e (fun z=>nomatch z) h
 | @ins a C dx fs ea cl ha hn Sv hm =>
  cases(show u=Value.ref a from rx);obtain⟨mA,O,_⟩:=QV I.aH ea;obtain⟨od,J,_⟩:=O.look;exact kia_one (PySem.W.kitx_own (cl.get _) cl.hd ha hn Sv hm) I.gU J e (fun z=>nomatch z) h
end
structure cH(k:Nat)(A:Around):Prop where
 hd:A.handled=none
 dp:A.depth+3*k+5<recursionLimit
 un:A.units+16*k+200<cLine
theorem cH.mono{j k:Nat}{A:Around}(r:cH k A)(h:j≤k):cH j A:=⟨r.hd,by have:=r.dp;omega,by have:=r.un;omega⟩
theorem cH.deeper{k:Nat}{A:Around}(r:cH (k+1) A)(env:Env):cH k (A.deeper env) :=
 ⟨r.hd,by have:=r.dp;show A.depth+1+3*k+5<_;omega,by have:=r.un;show A.units+3+16*k+200<_;omega⟩
theorem an6{A:Around}{C:Addr}{us:List Value}{kw:List (Str×Value)}:(A.under (.builtin "type.__call__" ⟨.ref C::us,kw⟩)).depth=A.depth+1:=by
 first | rfl | simp [Around.under,Code.weight,Code.isCreation,Code.isGuard,Code.isCaller,Code.frames,Code.isFrame,guardIds]
theorem an4{A:Around}{C:Addr}{us:List Value}{kw:List (Str×Value)}:(A.under (.builtin "type.__call__" ⟨.ref C::us,kw⟩)).units=A.units+1:=by
 first | rfl | simp [Around.under,Code.cUnits,Code.frames,Code.isFrame]
theorem cH.make{k:Nat}{A:Around}(r:cH (k+1) A)(C:Addr)(us:List Value)(kw:List (Str×Value)):cH k (A.under (.builtin "type.__call__" ⟨.ref C::us,kw⟩)) :=
 ⟨r.hd,by have:=r.dp;rw [an6];omega,by have:=r.un;rw [an4];omega⟩
theorem cH.depth{k:Nat}{A:Around}(r:cH k A):A.depth<recursionLimit:=by have:=r.dp;omega
theorem cH.units{k:Nat}{A:Around}(r:cH k A):A.units+64<cLine:=by have:=r.un;omega
def OR:TA:=fun _ H Q=>Q [] H
def IB(ta:TE)(tr:TA):TA:=fun σ H Q=>ta σ H fun x H1=>tr σ H1 fun xs H2=>Q (x::xs) H2
section
variable{X:Cx}{e:Expr}{es:List Expr}{te:TE}{t:TA}{pos:Pos}
theorem IW:PA X [] OR:=fun _ _ _ _ H Q I h=>Calls.spliced_nil ⟨[],H,I,.nil,h⟩
theorem AM(ha:PE X e te)(hr:PA X es t)(hs:starEach (e::es) X.env=(false,eval e X.env)::starEach es X.env:=by rfl):PA X (e::es) (IB te t):=by
 intro pos pins s σ H Q I h;rw [hs];show wpAny _ _ (spliced ((false,eval e X.env)::backTo pos (starEach es X.env))) _ _ s;refine Ks (bG (ha pins s σ H _ I h) fun u s1 ⟨x,H1,I1,r1,q1⟩=>?_);exact bG (hr pos pins s1 σ H1 _ I1 q1) fun us s2 ⟨xs,H2,I2,r2,q2⟩=>⟨x::xs,H2,I2,.cons r1 r2,q2⟩
def acN(t:TA):TE:=fun σ H Q=>t σ H fun xs H1=>xs.length≤sizeLine∧∀p,H1 p=none→Q (.ref p) (upd H1 p (.tup xs))
def ac1(t:TA):TE:=fun σ H Q=>t σ H fun xs H1=>xs.length≤sizeLine∧∀p,H1 p=none→Q (.ref p) (upd H1 p (.lst xs))
theorem akX{x1}(h:PA X es t):PE X (.Tuple es x1 pos) (acN t):=by
 intro pins s σ H Q I hq;refine wpAny_Tuple_spliced (bG (h pos pins s σ H _ I hq) fun us s1 ⟨xs,H1,I1,r,z,q⟩=>⟨by rw [← r.length];exact z,?_⟩);have hf:H1 s1.heap.objs.size=none:=I1.aH.fresh cJ;refine⟨.ref s1.heap.objs.size,upd H1 s1.heap.objs.size (.tup xs),I1.laid (t':=s1.toks) (fun b u e=>eL _ e) cJ ?_,rfl,q _ hf⟩;exact⟨z,us,r,⟨_,kH _ rfl,rfl,_,rfl⟩⟩
theorem ak8(h:PA X es t):PE X (.List es pos) (ac1 t):=by
 intro pins s σ H Q I hq;refine wpAny_List_spliced (bG (h pos pins s σ H _ I hq) fun us s1 ⟨xs,H1,I1,r,z,q⟩=>⟨by rw [← r.length];exact z,?_⟩);have hf:H1 s1.heap.objs.size=none:=I1.aH.fresh cJ;refine⟨.ref s1.heap.objs.size,upd H1 s1.heap.objs.size (.lst xs),I1.laid (t':=s1.toks) (fun b u e=>eL _ e) cJ ?_,rfl,q _ hf⟩;exact⟨z,us,0,r,kH _ rfl⟩
end
abbrev Sp:=List V→Hp→VK→XK→Prop
abbrev pA:=List Env→Hp→Shared→XK→Value→Shared→Prop
structure vA(P:Program)(w:World)(K:Frag)(mg:Str→Option Value)(base:Heap)(A:Around)(outer:List Env)(s:Shared)(H:Hp):Prop where
 frames:A.frames=some outer
 mod:Mod K mg base
 bs:∀b o,base.get? b=some o→s.heap.get? b=some o∧H b=none
 pN:base.objs.size≤s.heap.objs.size
 nT:s.heap.FunFrames base outer
 sG:∀b∈gJ outer,H b=none
 aH:eY P w H s.heap
 bare:AllBare s.gens
def CE(outer:List Env)(P:Program)(w:World)(H:Hp)(s:Shared)(Q:VK)(u:Value)(s':Shared):Prop :=
 ∃v H',s'.os=s.os∧AllBare s'.gens∧Un (gJ outer) [] H H' s.heap s'.heap∧eY P w H' s'.heap∧RelV v u∧Q v H'
def CR(CX:pA)(outer:List Env)(P:Program)(w:World)(H:Hp)(s:Shared)(Q:VK)(E:XK)(r:Result)(s':Shared):Prop :=
 match r with
 | .ok (.ret u)=>CE outer P w H s Q u s'
 | .ok _=>False
 | .error e=>CX outer H s E e s'
structure iG(P:Program)(w:World)(K:Frag)(mg:Str→Option Value)(base:Heap)(CX:pA)(k:Nat)(f:Addr)(fd:FuncData)(ps:List Str)(sp:Sp):Prop where
 len:∀vs H Q E,sp vs H Q E→vs.length=ps.length
 run:∀(A:Around) (outer:List Env) (s:Shared) (H:Hp) (args:Args) (us:List Value) (vs:List V) (Q:VK) (E:XK),cH k A→vA P w K mg base A outer s H→BindsTo s fd args (ps.zip us)→Vals vs us→sp vs H Q E →
  codeAny (model P w) A (.call (.ref f) args) (CR CX outer P w H s Q E) s
theorem iG.mono{P:Program}{w:World}{K:Frag}{mg:Str→Option Value}{base:Heap}{CX:pA}{j k:Nat}{f:Addr}{fd:FuncData}{ps:List Str}{sp:Sp}(F:iG P w K mg base CX j f fd ps sp)(h:j≤k) :
  iG P w K mg base CX k f fd ps sp:=⟨F.len,fun A outer s H args us vs Q E hr=>F.run A outer s H args us vs Q E (hr.mono h)⟩
theorem iG.imp{P:Program}{w:World}{K:Frag}{mg:Str→Option Value}{base:Heap}{CX:pA}{k:Nat}{f:Addr}{fd:FuncData}{ps:List Str}{sp Nj:Sp}(F:iG P w K mg base CX k f fd ps sp)
  (h:∀vs H Q E,Nj vs H Q E→sp vs H Q E):iG P w K mg base CX k f fd ps Nj :=
 ⟨fun vs H Q E q=>F.len vs H Q E (h _ _ _ _ q),fun A outer s H args us vs Q E hr he hb hv hs=>F.run A outer s H args us vs Q E hr he hb hv (h _ _ _ _ hs)⟩
theorem vA.make{P:Program}{w:World}{K:Frag}{mg:Str→Option Value}{base:Heap}{A:Around}{outer:List Env}{s:Shared}{H:Hp}(e:vA P w K mg base A outer s H)(C:Addr)(us:List Value)(kw:List (Str×Value)) :
  vA P w K mg base (A.under (.builtin "type.__call__" ⟨.ref C::us,kw⟩)) outer s H:=⟨by first | exact e.frames | (simpa [Around.under,Code.envs,Code.isFrame,pushEnvs]using e.frames),e.mod,e.bs,e.pN,e.nT,e.sG,e.aH,e.bare⟩
section
variable{X:Cx}{pins:List (Addr×Obj)}{σ:St}{H:Hp}{s s':Shared}
theorem Inv.GC(I:Inv X pins σ H s):vA X.prog X.w X.K X.mg X.base X.A X.stack s H :=
 ⟨I.ok.frames,I.ok.mod,I.bs,qE I.ok.pN I.sz,I.stack,I.OW,I.aH,I.bare⟩
theorem Inv.after{Q:VK}{u:Value}(I:Inv X pins σ H s)(h:CE X.stack X.prog X.w H s Q u s'):EP X pins σ Q u s':=by
 obtain⟨v,H',os,bare,un,aH,r,q⟩:=h;obtain⟨hh,g,d,t,os'⟩:=s';obtain rfl:os'=s.os:=os;exact⟨v,H',I.call (h':=hh) (g':=g) (d':=d) (t':=t) (ch:=[]) un aH bare (fun b z=>absurd z (by simp)),r,q⟩
end
def My(sp:Sp)(dvs:List V)(E:XK)(t:TA):TE:=fun σ H Q=>t σ H fun vs H1=>sp (vs++dvs) H1 Q E
def ac0(C:Addr)(sp:Sp)(dvs:List V)(E:XK)(t:TA):TE:=fun σ H Q=>t σ H fun vs H1=>∀x dx,H1 x=none→H1 dx=none→dx≠x →
 sp (.ref x::(vs++dvs)) (upd (upd H1 dx (.own x)) x (.ins C dx [])) (fun v H2=>v = .bR∧Q (.ref x) H2) E
def Binds(K:Frag)(fd:FuncData)(ps:List Str)(ds:List Value):Prop :=
 ∀(s:Shared) (us:List Value),K.In s.heap→(us++ds).length=ps.length→BindsTo s fd ⟨us,[]⟩ (ps.zip (us++ds))
theorem Binds.all{K:Frag}{fd:FuncData}{ps:List Str}(h:∀us:List Value,us.length=ps.length→bindArgs fd ⟨us,[]⟩=pure (ps.zip us)):Binds K fd ps []:=fun s us _ hl=>by
 rw [zJ]at hl ⊢;exact .of_eq (h us hl)
def Passes(CX:pA)(X:Cx)(E:XK):Prop:=∀(pins:List (Addr×Obj)) (σ:St) (H:Hp) (s:Shared) (e:Value) (s':Shared),Inv X pins σ H s→CX X.stack H s E e s'→X.xe e s'
section
variable{X:Cx}{CX:pA}{k:Nat}{f C:Addr}{fd:FuncData}{ps:List Str}{sp:Sp}{dvs:List V}{ds:List Value}{E:XK}{x m:Str}{p pos apos:Pos}{e o:Expr}{es:List Expr}{ta:TE}{t:TA}
theorem aiW{pins:List (Addr×Obj)}{σ:St}{H:Hp}{s:Shared}{Q:VK}{us:List Value}{vs:List V}(F:iG X.prog X.w X.K X.mg X.base CX k f fd ps sp)(hr:cH k X.A)(hb:Binds X.K fd ps ds)(hd:Vals dvs ds)(hx:Passes CX X E)
  (I:Inv X pins σ H s) (r:Vals vs us) (h:sp (vs++dvs) H Q E):wpAny (model X.prog X.w) X.A (call (.ref f) us) (EP X pins σ Q) X.xe s:=by
 have r2:Vals (vs++dvs) (us++ds):=r.append hd;have hl:(us++ds).length=ps.length:=by rw [← r2.length];exact F.len _ _ _ _ h
 refine xM (yX (F.run X.A X.stack s H ⟨us,[]⟩ (us++ds) (vs++dvs) Q E hr I.GC (hb s us I.gU hl) r2 h) fun r s' hq=>?_);cases r with
 | error e=>exact hx pins σ H s e s' I hq
 | ok fl =>
  cases fl with
  | ret u=>exact I.after hq
  | next=>exact False.elim hq
  | brk=>exact False.elim hq
  | cont=>exact False.elim hq
theorem alP(F:iG X.prog X.w X.K X.mg X.base CX k f fd ps sp)(hr:cH k X.A)(hg:Gl X x)(hm:X.mg x=some (.ref f))(hk:keepIn X.K (.ref f)=true)(hb:Binds X.K fd ps ds)(hd:Vals dvs ds)(hx:Passes CX X E)
  (ha:PA X (e::es) t) (gW:(x == ("__debug__" : Str))=false:=by decide) (he:starEach (e::es) X.env=(false,eval e X.env)::starEach es X.env:=by rfl) (fJ:(backTo pos (starEach es X.env)).any (·.1)=false:=by rfl) :
  PE X (.Call (.Name x p) (e::es) [] pos) (My sp dvs E t):=by
 intro pins s σ H Q I h;refine vH (EZ I hg hm ?_ gW);refine callWith_K (h₀:=X.base) I.ok.mod.qX hk (bG (ha pos pins s σ H _ I h) fun us s1 ⟨vs,H1,I1,r,q⟩=>⟨I1.gU,?_⟩) he fJ;exact aiW F hr hb hd hx I1 r q
structure Mk(K:Frag)(C f:Addr):Prop where
 makes:makesIn K C=true
 init:findIn K (.ref C) "__init__" = some (some (.ref f))
 fn:isFn K (.ref f)=true
 kp:keepIn K (.ref C)=true
theorem aiV{pins:List (Addr×Obj)}{σ:St}{H:Hp}{s:Shared}{Q:VK}{us:List Value}{vs:List V}(M:Mk X.K C f)(F:iG X.prog X.w X.K X.mg X.base CX k f fd ps sp)(hr:cH (k+1) X.A)(hb:Binds X.K fd ps ds)(hd:Vals dvs ds)
  (hx:Passes CX X E) (I:Inv X pins σ H s) (r:Vals vs us)
  (h:∀x dx,H x=none→H dx=none→dx≠x→sp (.ref x::(vs++dvs)) (upd (upd H dx (.own x)) x (.ins C dx [])) (fun v H2=>v = .bR∧Q (.ref x) H2) E) :
  wpAny (model X.prog X.w) X.A (call (.ref C) us) (EP X pins σ Q) X.xe s:=by
 have hq:=h (s.heap.objs.size+1) s.heap.objs.size (I.aH.fresh (NA _)) (I.aH.fresh cJ) (iE (Iz _));have I2:=Inv.made (C:=C) I;have r2:Vals (V.ref (s.heap.objs.size+1)::(vs++dvs)) (Value.ref (s.heap.objs.size+1)::(us++ds)) := .cons rfl (r.append hd);have hl:(Value.ref (s.heap.objs.size+1)::us++ds).length=ps.length:=by
  have e:=r2.length;rw [F.len _ _ _ _ hq]at e;exact e.symm
 refine xM (an5 (f:=f) I.gU M.makes M.init (CQ.mp M.fn) (yX (F.run _ X.stack _ _ ⟨Value.ref (s.heap.objs.size+1)::us,[]⟩ (Value.ref (s.heap.objs.size+1)::(us++ds)) _ _ E (hr.make C us [])
  (I2.GC.make C us []) (hb _ (Value.ref (s.heap.objs.size+1)::us) I2.gU hl) r2 hq) fun r s' uI=>?_))
 cases r with
 | error e=>exact hx pins σ _ _ e s' I2 uI
 | ok fl =>
  cases fl with
  | ret u =>
   obtain⟨v,H',I3,rv,ev,q3⟩:=I2.after uI;subst ev;exact⟨rv,⟨V.ref (s.heap.objs.size+1),H',I3,rfl,q3⟩⟩
  | next=>exact False.elim uI
  | brk=>exact False.elim uI
  | cont=>exact False.elim uI
theorem ak7(M:Mk X.K C f)(F:iG X.prog X.w X.K X.mg X.base CX k f fd ps sp)(hr:cH (k+1) X.A)(hg:Gl X x)(hm:X.mg x=some (.ref C))(hb:Binds X.K fd ps ds)(hd:Vals dvs ds)(hx:Passes CX X E)
  (ha:PA X (e::es) t) (gW:(x == ("__debug__" : Str))=false:=by decide) (he:starEach (e::es) X.env=(false,eval e X.env)::starEach es X.env:=by rfl) (fJ:(backTo pos (starEach es X.env)).any (·.1)=false:=by rfl) :
  PE X (.Call (.Name x p) (e::es) [] pos) (ac0 C sp dvs E t):=by
 intro pins s σ H Q I h;refine vH (EZ I hg hm ?_ gW);refine callWith_K (h₀:=X.base) I.ok.mod.qX M.kp (bG (ha pos pins s σ H _ I h) fun us s1 ⟨vs,H1,I1,r,q⟩=>⟨I1.gU,?_⟩) he fJ;exact aiV M F hr hb hd hx I1 r q
end
section
variable{X:Cx}{CX:pA}{k:Nat}{f C:Addr}{fd:FuncData}{ps ks:List Str}{sp:Sp}{E:XK}{x m:Str}{p pos apos azI:Pos}{e o:Expr}{es:List Expr}{FC:List Keyword}{te ta:TE}{t tk:TA}{nm:Option Str}
structure aA0(K:Frag)(fd:FuncData)(ps ks:List Str)(g:List Value→List Value→List Value)(gV:List V→List V→List V):Prop where
 to:∀(s:Shared) (us ws:List Value),K.In s.heap→(g us ws).length=ps.length→BindsTo s fd ⟨us,ks.zip ws⟩ (ps.zip (g us ws))
 rel:∀{vs:List V} {us:List Value} {zs:List V} {ws:List Value},Vals vs us→Vals zs ws→Vals (gV vs zs) (g us ws)
variable{g:List Value→List Value→List Value}{gV:List V→List V→List V}
end
structure dJ(N P:List Str)(sc:Scope):Prop where
 kind:sc.kind = .function
 co:sc.isCoroutine=false
 gen:sc.isGenerator=false
 nd:N.Nodup
 pre:N.take P.length=P
 par:∀x∈P,sc.names.lookup x=some .local∨sc.names.lookup x=some .cell
 anA:∀y∈sc.names,y.2 ≠ .free
theorem Xp{kindOf:Str→Option NameKind}{x:Str}:∀{binds:List (Str×Value)} {m:Str→Option Value},(∀v,(x,v)∉binds)→bindL kindOf binds m x=m x
 | [],_,_=>rfl
 | (n,v)::r,m,h=>by
  unfold bindL;rw [Xp fun w hw=>h w (jK _ hw)];split
  ·have:x≠n:=by rintro rfl;exact h v List.mem_cons_self
   simp [this]
  ·rfl
theorem Xr{kindOf:Str→Option NameKind}{x:Str}:∀{binds:List (Str×Value)} {m:Str→Option Value},(∀v,(x,v)∉binds)→bindC kindOf binds m x=m x
 | [],_,_=>rfl
 | (n,v)::r,m,h=>by
  unfold bindC;rw [Xr fun w hw=>h w (jK _ hw)];split
  ·rfl
  ·have:x≠n:=by rintro rfl;exact h v List.mem_cons_self
   simp [this]
theorem Xq{kindOf:Str→Option NameKind}{x:Str}{v:Value}:∀{P:List Str} {vs:List Value} {i:Nat} {m:Str→Option Value},P.Nodup→P[i]? = some x→vs[i]? = some v→kindOf x=some .local →
  bindL kindOf (P.zip vs) m x=some v
 | [],_,_,_,_,h,_,_=>by simp at h
 | _::_,[],_,_,_,_,h,_=>by simp at h
 | p::P,w::vs,0,m,nd,h1,h2,hk=>by
  simp at h1 h2;subst h1;subst h2;show bindL kindOf ((p,w)::P.zip vs) m p=_;unfold bindL;rw [Xp fun v hv=>(zI.mp nd).1 (UL hv).1,if_pos hk];simp
 | p::P,w::vs,i+1,m,nd,h1,h2,hk=>by
  show bindL kindOf ((p,w)::P.zip vs) m x=_;unfold bindL;exact Xq (i:=i) (zI.mp nd).2 (by simpa using h1) (by simpa using h2) hk
theorem Xs{kindOf:Str→Option NameKind}{x:Str}{v:Value}:∀{P:List Str} {vs:List Value} {i:Nat} {m:Str→Option Value},P.Nodup→P[i]? = some x→vs[i]? = some v→kindOf x≠some .local →
  bindC kindOf (P.zip vs) m x=some v
 | [],_,_,_,_,h,_,_=>by simp at h
 | _::_,[],_,_,_,_,h,_=>by simp at h
 | p::P,w::vs,0,m,nd,h1,h2,hk=>by
  simp at h1 h2;subst h1;subst h2;show bindC kindOf ((p,w)::P.zip vs) m p=_;unfold bindC;rw [Xr fun v hv=>(zI.mp nd).1 (UL hv).1,if_neg hk];simp
 | p::P,w::vs,i+1,m,nd,h1,h2,hk=>by
  show bindC kindOf ((p,w)::P.zip vs) m x=_;unfold bindC;exact Xs (i:=i) (zI.mp nd).2 (by simpa using h1) (by simpa using h2) hk
def start(N:List Str)(vs:List V):St:=vs.map some++List.replicate (N.length - vs.length) none
def mK(CX:pA)(P:Program)(w:World)(K:Frag)(mg:Str→Option Value)(base:Heap)(N:List Str)(qual:Str)(scope:Scope)(f:Addr)(cd:Value)(A:Around)(outer:List Env)(s:Shared)(H:Hp)(E:XK):Cx where
 prog:=P
 w:=w
 K:=K
 mg:=mg
 base:=base
 A:=A.deeper (envOfC qual scope s.heap.objs.size f cd)
 N:=N
 s₀:=s
 H₀:=H
 env:=envOfC qual scope s.heap.objs.size f cd
 outer:=outer
 stack:=envOfC qual scope s.heap.objs.size f cd::outer
 ex:=[]
 calm:=true
 fn:=fun _=>true
 pn:=[]
 xe:=fun e s'=>wpAny (model P w) (A.deeper (envOfC qual scope s.heap.objs.size f cd)) (leaving (envOfC qual scope s.heap.objs.size f cd) e) (fun _ IT=>CX outer H s E e IT) (fun e' IT=>CX outer H s E e' IT) s'
theorem Xj{sc:Scope}{n:Nat}{x:Str}(h:sc.names.lookup x=some .cell):∃c,(cellsFrom n sc.names []).lookup x=some c:=by
 have q:=cellsFrom_some sc.names n [] (.inl h);exact Option.isSome_iff_exists.mp q
theorem Cp{CX:pA}{P:Program}{w:World}{K:Frag}{mg:Str→Option Value}{base:Heap}{N ps:List Str}{qual:Str}{scope:Scope}{f:Addr}{cd:Value}{A:Around}{outer:List Env}{s s1:Shared}{H:Hp}{E:XK}{us:List Value}{vs:List V}
  (S:dJ N ps scope) (hd:A.handled=none) (e0:vA P w K mg base A outer s H) (hl:vs.length=ps.length) (r:Vals vs us)
  (x:InCallC s s.heap.objs.size (bindL (envOfC qual scope s.heap.objs.size f cd).kindOf (ps.zip us) fun _=>none) (cellsFrom (s.heap.objs.size+1) scope.names []) (bindC (envOfC qual scope s.heap.objs.size f cd).kindOf (ps.zip us) fun _=>none) s1) :
  Inv (mK CX P w K mg base N qual scope f cd A outer s H E) [] (start N vs) H s1:=by
 have fJ:ps.length≤N.length:=by have:=congrArg List.length S.pre;rw [List.length_take]at this;omega
 obtain⟨h1,tk,rfl,hk⟩:=x.done;have vW:∀b:Addr,b∉(mK CX P w K mg base N qual scope f cd A outer s H E).ex:=fun b z=>absurd (show b∈([]:List Addr)from z) (by simp);refine⟨⟨e0.mod,S.kind,rfl,rfl,rC _,fun y z c h1 h2=>?_,fun y hy=>?_,fun y c _ h=>?_,fun _=>hd,Around.frames_deeper e0.frames,.inr ⟨rfl,rfl⟩,fun b z=>absurd z (vW b),e0.bs,e0.pN,fun b _ _=>vW b,fun b z=>absurd z (vW b),e0.nT,e0.sG⟩,
  rfl,e0.bare,Un.kept hk,⟨_,x.toInCall.ns,fun i y v h1 h2 h3=>?_⟩,fun y c h=>⟨_,x.cell y c h⟩,e0.aH.fresh cJ,fun y c h=>?_,fun p hp=>absurd (show p∈([]:List (Addr×Obj))from hp) (by simp),e0.aH.kept hk,?_⟩
 ·exact name_of_addr x.apart (PySem.mem_of_lookup h1) (PySem.mem_of_lookup h2)
 ·have hy:scope.names.lookup y=some .cell∨scope.names.lookup y=some .free:=hy
  rcases hy with hy | hy
  ·exact Xj hy
  ·exact absurd rfl (S.anA _ (PySem.mem_of_lookup hy))
 ·exact Nat.le_of_lt (x.above y c (PySem.mem_of_lookup h))
 ·have hi:i<vs.length:=by
   unfold start at h2
   by_cases hi:i<vs.length
   ·exact hi
   ·rw [sL (by simpa using hi)]at h2;rw [List.getElem?_replicate]at h2;split at h2 <;> cases h2
  have ha:vs[i]? = some v:=by
   unfold start at h2;rw [jL (by simpa using hi),kG]at h2;cases e:vs[i]? with
   | none=>rw [e]at h2;cases h2
   | some a=>rw [e]at h2;cases h2;rfl
  obtain⟨u,hu,rv⟩:=r.get ha;have hp:ps[i]? = some y:=by
   rw [← S.pre,List.getElem?_take_of_lt (by omega)];exact h1
  have Qt:ps.Nodup:=by rw [← S.pre];exact S.nd.sublist (List.take_sublist _ _)
  refine⟨u,rv,?_⟩
  rcases S.par y (nH hp)with k | k
  ·exact .inl ⟨k,Xq Qt hp hu k⟩
  ·obtain⟨c,e⟩:=Xj (n:=s.heap.objs.size+1) k;refine .inr ⟨.inl k,c,e,?_⟩;have q:=x.cell y c e;rw [Xs Qt hp hu (by show scope.names.lookup y≠_;rw [k];decide)]at q;exact q
 ·exact e0.aH.fresh (Nat.le_of_lt (x.above y c (PySem.mem_of_lookup h)))
 ·unfold start;show _=N.length;rw [kF,kQ,List.length_replicate];omega
theorem FY{CX:pA}{P:Program}{w:World}{K:Frag}{mg:Str→Option Value}{base:Heap}{k:Nat}{f:Addr}{name qual:Str}{params:Arguments}{body:List Stmt}{scope:Scope}{dV kV doc pm aU ct oc:Value}{an od:Option Addr}
  {gD:Array (Option Value)} {N ps:List Str} {sp:Sp} (lk:K.lookup f=some ⟨oc,od,.func (fnOf name qual params body scope dV kV doc pm an aU ct),gD⟩) (fN:codeIn K aU qual=true) (S:dJ N ps scope)
  (len:∀vs H Q E,sp vs H Q E→vs.length=ps.length)
  (gH:∀(A:Around) (outer:List Env) (s:Shared) (H:Hp) (vs:List V) (Q:VK) (E:XK),cH k (A.deeper (envOfC qual scope s.heap.objs.size f aU))→sp vs H Q E →
   ∃t,lT (mK CX P w K mg base N qual scope f aU A outer s H E) body t∧t { nx:=fun _ H'=>Q .bR H',rt:=Q } (start N vs) H) :
  iG P w K mg base CX (k+1) f (fnOf name qual params body scope dV kV doc pm an aU ct) ps sp:=by
 refine⟨len,fun A outer s H args us vs Q E hr e0 hb r gF=>?_⟩;have hl:=len _ _ _ _ gF;have KX:K.In s.heap:=e0.mod.qX.keeps fun b o e=>(e0.bs b o e).1;have lim:s.heap.NoLimit:=e0.mod.nolimit.keeps fun b o e=>(e0.bs b o e).1;have KG:∀y∈ps.zip us,scope.names.lookup y.1=some .local∨(scope.names.lookup y.1=some .cell∧((cellsFrom (s.heap.objs.size+1) scope.names []).lookup y.1).isSome=true):=fun⟨n,v⟩ hy=>by
  rcases S.par n (UL hy).1 with q | q
  ·exact .inl q
  ·exact .inr ⟨q,cellsFrom_some _ _ _ (.inl q)⟩
 refine Wx hr.depth (KX _ _ lk) rfl S.co S.gen rfl (codeRec_of KX fN) (hb _ _ _ _ ?_);refine Lc S.kind KG fun env he s1 x=>?_;subst he;refine⟨lim.keeps x.toInCall.keep,codeAny_func ?_⟩;obtain⟨t,ht,hq⟩:=gH A outer s H vs Q E (hr.deeper _) gF;have I:Inv (mK CX P w K mg base N qual scope f aU A outer s H E) [] (start N vs) H s1:=Cp S hr.hd e0 hl r x;refine kJ (ht [] s1 (start N vs) H _ I hq) (fun fl s' hs=>?_) fun e s' hs=>hs;have fin:∀{σ':St} {H':Hp} {v:V} {u:Value},Inv (mK CX P w K mg base N qual scope f aU A outer s H E) [] σ' H' s'→RelV v u→Q v H'→CE outer P w H s Q u s' :=
  fun{σ' H' v u} J rv q=>⟨v,H',J.os,J.bare,J.base,J.aH,rv,q⟩
 cases fl with
 | ret u =>
  obtain⟨v,σ',H',J,rv,q⟩:=hs;exact fin J rv q
 | next =>
  obtain⟨σ',H',J,q⟩:=hs;exact fin (v:=V.bR) (u:=Value.none) J rfl q
 | brk =>
  obtain⟨_,_,_,q⟩:=hs;exact False.elim q
 | cont =>
  obtain⟨_,_,_,q⟩:=hs;exact False.elim q
section
variable{X:Cx}{x:Str}{p pos:Pos}{e:Expr}{es:List Expr}{t:TA}{id T:String}{r:List V→Hp→VK→Prop}
def YA(r:List V→Hp→VK→Prop)(t:TA):TE:=fun σ H Q=>t σ H fun vs H1=>r vs H1 Q
theorem alO(hc:nJ X (.builtin id) r)(hg:Gl X x)(hm:X.mg x=none)(hv:bootBuiltins x=some (.builtin id))(ha:PA X (e::es) t)(hn:x ≠ "__name__":=by decide)(gW:(x == ("__debug__" : Str))=false:=by decide)
  (he:starEach (e::es) X.env=(false,eval e X.env)::starEach es X.env:=by rfl) (fJ:(backTo pos (starEach es X.env)).any (·.1)=false:=by rfl):PE X (.Call (.Name x p) (e::es) [] pos) (YA r t):=by
 intro pins s σ H Q I h;refine vH (BC I hg hm hv ?_ hn gW);exact PyProof.Rows.callWith_builtin1 (bG (ha pos pins s σ H _ I h) fun us s1 ⟨vs,H1,I1,r1,q1⟩=>hc pins s1 σ H1 vs us Q I1 r1 q1) he fJ
theorem alN(hc:nJ X (.type T) r)(hg:Gl X x)(hm:X.mg x=none)(hv:bootBuiltins x=some (.type T))(ha:PA X (e::es) t)(hn:x ≠ "__name__":=by decide)(gW:(x == ("__debug__" : Str))=false:=by decide)
  (he:starEach (e::es) X.env=(false,eval e X.env)::starEach es X.env:=by rfl) (fJ:(backTo pos (starEach es X.env)).any (·.1)=false:=by rfl):PE X (.Call (.Name x p) (e::es) [] pos) (YA r t):=by
 intro pins s σ H Q I h;refine vH (BC I hg hm hv ?_ hn gW);exact Iu (bG (ha pos pins s σ H _ I h) fun us s1 ⟨vs,H1,I1,r1,q1⟩=>hc pins s1 σ H1 vs us Q I1 r1 q1) he fJ
end
end L2
namespace HT
open PySem PyProof.Rows
section
variable{prog:Program}{w:World}{A:Around}{E:Value→Shared→Prop}{s:Shared}
theorem avW{t b:Addr}{vs ws:List Value}{Q:Value→Shared→Prop}(ht:IsTup s.heap t vs.toArray)(hb:IsTup s.heap b ws.toArray)(hv:vs≠[])
  (h1:ws=[]→Q (.ref t) s) (h2:ws≠[]→Q (.ref s.heap.objs.size) { s with heap:=s.heap.push { cls := .type "tuple",data := .seq (vs++ws).toArray } })
  (hsz:vs.length+ws.length≤sizeLine):wpAny (model prog w) A (binaryOp .Add (.ref t) (.ref b)) Q E s:=by
 obtain⟨⟨cls,dd,data,sl⟩,ho,hc,n,hd⟩:=id ht;obtain⟨⟨aAM,Wk,data2,Np⟩,yK,yM,n2,hd2⟩:=id hb;simp only at hc hd yM hd2;subst hc hd yM hd2;have e:vs.toArray++ws.toArray=(vs++ws).toArray:=by simp
 by_cases hw:ws=[]
 ·exact concat_meets ⟨_,ho,rfl⟩ ⟨_,yK,rfl⟩ noFill_tuple_add seq_tuple_add PySem.F.slot_tuple_add PySem.F.entry_tuple_add (PySem.F.args_tuple_add_2 _ _)
   (tuple_addW1 t b vs.toArray ws.toArray n n2 dd Wk sl Np (by simpa using hv) (by simp [hw])) ⟨ho,yK,h1 hw⟩
 ·refine concat_meets ⟨_,ho,rfl⟩ ⟨_,yK,rfl⟩ noFill_tuple_add seq_tuple_add PySem.F.slot_tuple_add PySem.F.entry_tuple_add (PySem.F.args_tuple_add_2 _ _)
   (tuple_addW2 t b vs.toArray ws.toArray n n2 dd Wk sl Np (by simpa using hv) (by simpa using hw) (by rw [iM,iM];exact hsz)) ⟨ho,yK,?_⟩
  rw [e];exact h2 hw
def cR(n d:Nat):Option Int→Nat
 | none=>d
 | some v=>if v<0 then(v+(n:Int)).toNat else min v.toNat n
theorem PX(n d:Nat):cR n d none=d:=rfl
theorem IQ(n d k:Nat):cR n d (some (k:Int))=min k n:=by
 show(if(k:Int)<0 then((k:Int)+(n:Int)).toNat else min (k:Int).toNat n)=min k n;rw [if_neg (by omega),Int.toNat_natCast]
theorem aiN(n d:Nat)(hd:d≤n)(o:Option Int):cR n d o≤n:=by
 cases o with
 | none=>exact hd
 | some v =>
  show(if v<0 then(v+(n:Int)).toNat else min v.toNat n)≤n
  by_cases hv:v<0
  ·rw [if_pos hv];omega
  ·rw [if_neg hv];exact Nat.min_le_right _ _
theorem Wz(v:Int)(n d:Nat):(if v<0 then max (v+(n:Int)) 0 else min v (n:Int))=((cR n d (some v):Nat):Int):=by
 show(if v<0 then max (v+(n:Int)) 0 else min v (n:Int))=(((if v<0 then(v+(n:Int)).toNat else min v.toNat n):Nat):Int)
 by_cases hv:v<0
 ·simp only [if_pos hv];omega
 ·simp only [if_neg hv];omega
theorem aw0(lo hi:Option Int)(n:Nat):Builtin.Slice.sliceAdjust lo hi 1 (n:Int)=(((cR n 0 lo:Nat):Int),((cR n n hi:Nat):Int)):=by
 have h1:¬((1:Int)<0):=by omega
 unfold Builtin.Slice.sliceAdjust;simp only [h1,jN];refine Prod.ext ?_ ?_
 ·cases lo with
  | none=>rfl
  | some v=>exact Wz v n 0
 ·cases hi with
  | none=>rfl
  | some v=>exact Wz v n n
theorem akE(i j:Nat):Builtin.Slice.slicePlaces (i:Int) (j:Int) 1=j - i:=by
 unfold Builtin.Slice.slicePlaces;have h1:(1:Int)>0:=by omega
 simp only [h1,fW,Int.ediv_one];split <;> omega
theorem Nn{v:Value}{o:Option Int}{Q:Option Int→Shared→Prop}(p:IsPart v o)(h:Q o s):wpAny (model prog w) A (Builtin.Slice.slicePartIndex v) Q E s:=by
 cases p with
 | none=>exact slicePart_none h
 | int i t=>exact slicePart_int h
theorem ahW{sl:Addr}{vl vu:Value}{lo hi:Option Int}{n:Nat}{Q:Int×Int×Nat→Shared→Prop}(hs:s.heap.IsSliceOf sl vl vu .none)(pl:IsPart vl lo)(pu:IsPart vu hi)
  (h:Q (((cR n 0 lo:Nat):Int),1,cR n n hi - cR n 0 lo) s):wpAny (model prog w) A (Builtin.Slice.sliceApplied (.ref sl) (pure (n:Int))) Q E s:=by
 obtain⟨os,JT,FP,BU⟩:=id hs;unfold Builtin.Slice.sliceApplied Builtin.Slice.sliceFields;refine aZ (aZ (qK JT BU (x:=vl) rfl (aZ (qK JT BU (x:=vu) rfl (aZ (qK JT BU (x := .none) rfl (dM ?_)))))));refine aZ (slicePart_none ?_);show wpAny _ _ (if((1:Int) == 0)=true then _ else _) _ _ s;rw [if_neg (by decide)];refine aZ (Nn pl (aZ (Nn pu (aZ (dM ?_)))));show wpAny _ _ (match Builtin.Slice.sliceAdjust lo hi 1 (n:Int)with | (lo,hi)=>pure (lo,(1:Int),Builtin.Slice.slicePlaces lo hi 1)) _ _ s;rw [aw0 lo hi n];show wpAny _ _ (pure (((cR n 0 lo:Nat):Int),(1:Int),Builtin.Slice.slicePlaces ((cR n 0 lo:Nat):Int) ((cR n n hi:Nat):Int) 1)) _ _ s;rw [akE];exact dM h
theorem akL(xs:Array Value)(i k:Nat):((List.range k).filterMap fun(m:Nat)=>xs[((i:Int)+(m:Int)*1).toNat]?).toArray=((xs.toList.drop i).take k).toArray:=by
 have e:(fun(m:Nat)=>xs[((i:Int)+(m:Int)*1).toNat]?)=fun m=>xs[i+m]?:=by
  funext m;have:((i:Int)+(m:Int)*1).toNat=i+m:=by omega
  rw [this]
 rw [e];have:=pick_run xs i k;rw [List.filterMap_map]at this;have e2:((fun x=>xs[x]?) ∘ fun x=>i+x)=fun m=>xs[i+m]?:=rfl;rw [e2]at this;rw [this]
theorem as1{t sl:Addr}{items:Array Value}{vl vu:Value}{lo hi:Option Int}{Q:Value→Shared→Prop}(ht:IsTup s.heap t items)(hs:s.heap.IsSliceOf sl vl vu .none)(pl:IsPart vl lo)(pu:IsPart vu hi)
  (hw:¬(cR items.size 0 lo=0∧cR items.size items.size hi=items.size))
  (h:Q (.ref s.heap.objs.size) { s with heap:=s.heap.push { cls := .type "tuple",data := .seq ((items.toList.drop (cR items.size 0 lo)).take (cR items.size items.size hi - cR items.size 0 lo)).toArray } })
  (hsz:items.size≤sizeLine):wpAny (model prog w) A (getItem (.ref t) (.ref sl)) Q E s:=by
 have QX:sizeOk (.seq ((items.toList.drop (cR items.size 0 lo)).take (cR items.size items.size hi - cR items.size 0 lo)).toArray):=by
  show((items.toList.drop (cR items.size 0 lo)).take (cR items.size items.size hi - cR items.size 0 lo)).toArray.size≤sizeLine;rw [iM,List.length_take,List.length_drop,Ku];omega
 have hj:cR items.size items.size hi≤items.size:=aiN _ _ cJ hi;obtain⟨os,JT,FP,BU⟩:=id hs;have LA:s.TypeIs (.ref sl) "slice":=⟨os,JT,FP⟩;unfold getItem
 try with_reducible refine xK ?_
 first | refine aZ (dM ?_) | skip
 refine aZ (wpAny_sequenceKey ht.typeIs (by decide) ?_);refine aZ (VX (name:=Str.ofString "__getitem__") ht.typeIs Zc
  (NX Zc ht.typeIs entry_tuple_getitem ?_ (args_tuple_getitem _ _)))
 show wpAny _ _ (Builtin.Tuple.tupleItemsOf (.ref t) >>= _) _ _ s;refine aZ (tupleItemsOf_ ht ?_);refine aZ (wpAny_typeOf LA ?_);rw [if_pos (by decide)];refine aZ (ahW hs pl pu ?_);have JX:¬((((cR items.size 0 lo:Nat):Int) == 0&&(1:Int) == 1&&(cR items.size items.size hi - cR items.size 0 lo) == items.size)=true):=by
  intro q;rw [nK,nK]at q;have q1:((cR items.size 0 lo:Nat):Int)=0:=eq_of_beq q.1.1;have q2:cR items.size items.size hi - cR items.size 0 lo=items.size:=eq_of_beq q.2;exact hw ⟨by omega,by omega⟩
 show wpAny _ _ (if(((cR items.size 0 lo:Nat):Int) == 0&&(1:Int) == 1&&(cR items.size items.size hi - cR items.size 0 lo) == items.size)=true then _ else _) _ _ s;rw [if_neg JX,akL]
 first
  | exact aZ (m:=Builtin.Tuple.tupleExact _) (vG (dM ⟨_,rfl,dM h⟩) QX)
  | exact aZ (m:=Builtin.Tuple.tupleExact _) (vG (aZ (dM (dM ⟨_,rfl,dM h⟩))) QX)
  | exact aZ (aZ (m:=Builtin.Tuple.tupleExact _) (vG (dM (dM ⟨_,rfl,dM h⟩)) QX))
  | exact aZ (aZ (m:=Builtin.Tuple.tupleExact _) (vG (dM ⟨_,rfl,dM h⟩) QX))
end
end HT
namespace L2
open PySem PySem.Spec PyProof.Rows
abbrev TO:=St→Hp→(Option Int→Hp→Prop)→Prop
def PO(X:Cx)(e:Option Expr)(t:TO):Prop :=
 ∀(pins:List (Addr×Obj)) (s:Shared) (σ:St) (H:Hp) (Q:Option Int→Hp→Prop),Inv X pins σ H s→t σ H Q →
  wpAny (model X.prog X.w) X.A (evalPart e X.env) (fun u s'=>∃o H',Inv X pins σ H' s'∧IsPart u o∧Q o H') X.xe s
def acX:TO:=fun _ H Q=>Q none H
def acS(t:TE):TO:=fun σ H Q=>t σ H fun x H1=>∃i,x = .int i∧Q (some i) H1
theorem intsAre_of{ns:List Int}:∀{us:List Value},Vals (ns.map V.int) us→IntsAre us ns:=by
 induction ns with
 | nil=>intro us r;rw [GZ]at r;cases r;exact .nil
 | cons n ns ih =>
  intro us r;rw [dH]at r;cases r with
  | cons r1 r2 =>
   obtain⟨t,e⟩:=r1;subst e;exact .cons n t (ih r2)
section
variable{X:Cx}{e:Expr}{te:TE}{lo hi:Option Expr}{tl th:TO}{pos p2:Pos}
theorem akC:PO X none acX:=by
 intro pins s σ H Q I h;rw [evalPart_none];exact dM ⟨none,H,I,.none,h⟩
theorem akB(h:PE X e te):PO X (some e) (acS te):=by
 intro pins s σ H Q I hw;rw [evalPart_some];refine bG (h pins s σ H _ I hw) fun u s1 ⟨x,H1,I1,r1,q1⟩=>?_;obtain⟨i,rfl,q⟩:=q1;obtain⟨t,rfl⟩:=r1;exact⟨some i,H1,I1,.int i t,q⟩
def CT(X:Cx)(r:V→Option Int→Option Int→Hp→VK→Prop):Prop :=
 ∀(pins:List (Addr×Obj)) (s:Shared) (σ:St) (H:Hp) (x:V) (v vl vu:Value) (lo hi:Option Int) (sl:Addr) (Q:VK),Inv X pins σ H s→RelV x v→s.heap.IsSliceOf sl vl vu .none→IsPart vl lo→IsPart vu hi→r x lo hi H Q →
  ∃T id,typeLookup (.type T) "__getitem__" = pure (some (.builtin id))∧s.TypeIs v T∧wpAny (model X.prog X.w) X.A (getItem v (.ref sl)) (EP X pins σ Q) X.xe s
theorem CT.or{r r':V→Option Int→Option Int→Hp→VK→Prop}(h:CT X r)(h':CT X r'):CT X (fun x lo hi H Q=>r x lo hi H Q∨r' x lo hi H Q):=by
 intro pins s σ H x v vl vu lo hi sl Q I rx hs pl pu q
 rcases q with q | q
 ·exact h pins s σ H x v vl vu lo hi sl Q I rx hs pl pu q
 ·exact h' pins s σ H x v vl vu lo hi sl Q I rx hs pl pu q
def tSl(r:V→Option Int→Option Int→Hp→VK→Prop)(te:TE)(tl th:TO):TE:=fun σ H Q=>te σ H fun x H1=>tl σ H1 fun l H2=>th σ H2 fun u H3=>r x l u H3 Q
theorem akZ{r:V→Option Int→Option Int→Hp→VK→Prop}(hr:CT X r)(he:PE X e te)(hl:PO X lo tl)(hu:PO X hi th):PE X (.Subscript e (.Slice lo hi none p2) pos) (tSl r te tl th):=by
 intro pins s σ H Q I h;refine Subscript_ (bG (he pins s σ H _ I h) fun v s1 ⟨x,H1,I1,r1,q1⟩=>?_);refine wpAny_Slice (bG (hl pins s1 σ H1 _ I1 q1) fun vl s2 ⟨l,H2,I2,pl,q2⟩=>bG (hu pins s2 σ H2 _ I2 q2) fun vu s3 ⟨u,H3,I3,pu,q3⟩=>?_);rw [evalPart_none];refine dM ?_;have I4:Inv X pins σ H3 { s3 with heap:=s3.heap.push { cls := .type "slice",data := .fields #[vl,vu,.none] } }:=I3.kept (t':=s3.toks) fun b ob q=>eL _ q;obtain⟨T,id,hT,ht,hg⟩:=hr pins { s3 with heap:=s3.heap.push { cls := .type "slice",data := .fields #[vl,vu,.none] } } σ H3 x v vl vu l u s3.heap.objs.size Q I4 r1 (Heap.IsSliceOf.new ..) pl pu q3;show wpAny (model X.prog X.w) X.A (subscriptTail e (.Slice lo hi none p2) v (.ref s3.heap.objs.size)) (EP X pins σ Q) X.xe { s3 with heap:=s3.heap.push { cls := .type "slice",data := .fields #[vl,vu,.none] } };exact tail_any (ops:=[.ref s3.heap.objs.size,v]) ht hT hg (by with_unfolding_all rfl)
def yW(xs:List V)(lo hi:Option Int):List V:=(xs.drop (HT.cR xs.length 0 lo)).take (HT.cR xs.length xs.length hi - HT.cR xs.length 0 lo)
theorem Wr(xs:List V)(lo hi:Option Int):(yW xs lo hi).length≤xs.length:=by
 unfold yW;rw [List.length_take,List.length_drop];omega
def ai3(K:Frag):V→Option Int→Option Int→Hp→VK→Prop:=fun x lo hi H Q=>∃a xs,x = .ref a∧gA K H a xs ∧
 ¬(HT.cR xs.length 0 lo=0∧HT.cR xs.length xs.length hi=xs.length)∧∀p,H p=none→Q (.ref p) (upd H p (.tup (yW xs lo hi)))
theorem ahZ:CT X (ai3 X.K):=by
 intro pins s σ H x v vl vu lo hi sl Q I rx hs pl pu h;obtain⟨a,xs,rfl,hx,hw,q⟩:=h;cases rx;obtain⟨aQ,r,ht,hz⟩:=I.tuple hx;have hlen:aQ.toArray.size=xs.length:=by rw [iM];exact r.length.symm
 refine⟨"tuple",_,Zc.lookup,ht.typeIs,?_⟩;refine HT.as1 ht hs pl pu (by rw [hlen];exact hw) ?_ (by rw [hlen];exact hz);rw [hlen];refine⟨.ref s.heap.objs.size,_,I.laid (t':=s.toks) (o := .tup (yW xs lo hi)) (fun b ob q=>eL _ q) cJ ?_,rfl,q _ (I.aH.fresh cJ)⟩;exact⟨qE (Wr xs lo hi) hz,_,(r.drop (HT.cR xs.length 0 lo)).take (HT.cR xs.length xs.length hi - HT.cR xs.length 0 lo),IsTup.new _ _⟩
def ai7(K:Frag):R2:=fun x y H Q=>∃a b xs ys,x = .ref a∧y = .ref b∧gA K H a xs∧gA K H b ys∧xs≠[]∧xs.length+ys.length≤sizeLine ∧
 (ys=[]→Q (.ref a) H)∧(ys≠[]→∀p,H p=none→Q (.ref p) (upd H p (.tup (xs++ys))))
theorem Vals.Ai{xs:List V}{us:List Value}(r:Vals xs us):us=[]↔xs=[]:=by
 cases r with
 | nil=>simp
 | cons _ _=>simp
theorem amI:fU X (binaryOp .Add) (ai7 X.K):=by
 intro pins s σ H x y v u Q I rx ry h;obtain⟨a,b,xs,ys,rfl,rfl,ha,hb,hx,hz,q1,q2⟩:=h;cases rx;cases ry;obtain⟨aQ,r1,p1,_⟩:=I.tuple ha;obtain⟨tD,r2,p2,_⟩:=I.tuple hb;refine HT.avW p1 p2 (fun z=>hx (r1.Ai.mp z)) (fun z=>⟨.ref a,H,I,rfl,q1 (r2.Ai.mp z)⟩) (fun z=>?_) (by rw [← r1.length,← r2.length];exact hz);refine⟨.ref s.heap.objs.size,_,I.laid (t':=s.toks) (o := .tup (xs++ys)) (fun b ob q=>eL _ q) cJ ?_,rfl,q2 (fun w=>z (r2.Ai.mpr w)) _ (I.aH.fresh cJ)⟩;exact⟨by rw [kF];exact hz,_,r1.append r2,IsTup.new _ _⟩
end
def pH(n:Nat)(i:Int):Option Nat:=if 0≤i then(if i<n then some i.toNat else none)else if -(n:Int)≤i then some (i+n).toNat else none
def dY{α:Type}(xs:List α)(i:Int):Option α:=(pH xs.length i).bind fun j=>xs[j]?
theorem Se{n:Nat}{i:Int}{j:Nat}(h:pH n i=some j):seqIndex? i n=some j∧j<n∧-(n:Int)≤i∧i<n:=by
 unfold pH at h
 by_cases h0:0≤i
 ·rw [if_pos h0]at h
  by_cases h1:i<n
  ·rw [if_pos h1]at h;have e:i.toNat=j:=jJ h;exact⟨by rw [seqIndex_of h0 h1,e],by omega,by omega,h1⟩
  ·rw [if_neg h1]at h;cases h
 ·rw [if_neg h0]at h
  by_cases h1 : -(n:Int)≤i
  ·rw [if_pos h1]at h;have e:(i+n).toNat=j:=jJ h;exact⟨by rw [seqIndex_neg (by omega) h1,e],by omega,h1,by omega⟩
  ·rw [if_neg h1]at h;cases h
theorem Ie{α:Type}{xs:List α}{i:Int}{v:α}(h:dY xs i=some v):∃j,seqIndex? i xs.length=some j∧xs[j]? = some v∧j<xs.length∧-(xs.length:Int)≤i∧i<xs.length:=by
 unfold dY at h;cases e:pH xs.length i with
 | none=>rw [e]at h;cases h
 | some j =>
  rw [e]at h;obtain⟨h1,h2,h3,h4⟩:=Se e;exact⟨j,h1,h,h2,h3,h4⟩
theorem awT{α:Type}(xs:List α)(v:α):dY (xs++[v]) (-1)=some v:=by
 have hl:(xs++[v]).length=xs.length+1:=by simp
 have e:pH (xs++[v]).length (-1)=some xs.length:=by
  unfold pH;rw [hl,if_neg (by decide),if_pos (by omega)];congr 1;omega
 unfold dY;rw [e];show(xs++[v])[xs.length]? = some v;simp
def Ze(b:Expr):Prop:=∀o i,subscripted b false o i=operate [o,i] (getItem o i)
def xD(X:Cx)(r:R2):Prop :=
 ∀(value slice:Expr) (pins:List (Addr×Obj)) (s:Shared) (σ:St) (H:Hp) (x y:V) (v u:Value) (Q:VK),Inv X pins σ H s→RelV x v→RelV y u→r x y H Q →
  subscripted slice false v u=operate [v,u] (getItem v u)→wpAny (model X.prog X.w) X.A (subscriptTail value slice v u) (EP X pins σ Q) X.xe s
def GX(X:Cx)(id:String)(r:V→List V→Hp→VK→Prop):Prop :=
 ∀(pins:List (Addr×Obj)) (s:Shared) (σ:St) (H:Hp) (x:V) (xs:List V) (v:Value) (us:List Value) (Q:VK),Inv X pins σ H s→RelV x v→Vals xs us→r x xs H Q →
  wpAny (model X.prog X.w) X.A (call (.builtin id) (v::us)) (EP X pins σ Q) X.xe s
section
variable{X:Cx}{a b:Expr}{ta tb:TE}{pos:Pos}
theorem xD.or{r r':R2}(h:xD X r)(h':xD X r'):xD X (fun x y H Q=>r x y H Q∨r' x y H Q):=by
 intro value slice pins s σ H x y v u Q I rx ry q hs
 rcases q with q | q
 ·exact h value slice pins s σ H x y v u Q I rx ry q hs
 ·exact h' value slice pins s σ H x y v u Q I rx ry q hs
theorem GX.or{id:String}{r r':V→List V→Hp→VK→Prop}(h:GX X id r)(h':GX X id r'):GX X id (fun x xs H Q=>r x xs H Q∨r' x xs H Q):=by
 intro pins s σ H x xs v us Q I rx rs q
 rcases q with q | q
 ·exact h pins s σ H x xs v us Q I rx rs q
 ·exact h' pins s σ H x xs v us Q I rx rs q
theorem alB{r:R2}(hr:xD X r)(ha:PE X a ta)(hb:PE X b tb)(hs:Ze b):PE X (.Subscript a b pos) (IA r ta tb):=by
 intro pins s σ H Q I h;exact Subscript_ (Hf ha hb I h fun v u s2 x y H2 I2 rx ry q=>hr a b pins s2 σ H2 x y v u Q I2 rx ry q (hs _ _))
def Ou(K:Frag):R2:=fun x y H Q=>∃p xs i v,x = .ref p∧y = .int i∧dG K H p xs∧dY xs i=some v∧Q v H
def Oq(K:Frag):R2:=fun x y H Q=>∃p xs i v,x = .ref p∧y = .int i∧gA K H p xs∧dY xs i=some v∧Q v H
def Ot:R2:=fun x y H Q=>∃z i c,x = .str z∧y = .int i∧z.length≤sizeLine∧dY z.cps.toList i=some c∧Q (.str ⟨#[c]⟩) H
theorem apC:xD X (Ou X.K):=by
 intro value slice pins s σ H x y v u Q I rx ry h hs;obtain⟨p,xs,i,z,rfl,rfl,hq,he,q⟩:=h;cases rx;obtain⟨t,rfl⟩:=ry;obtain⟨aQ,r,pl,hz⟩:=I.list hq;obtain⟨j,h1,h2,h3,h4,h5⟩:=Ie he;obtain⟨w,ew,qQ⟩:=r.get h2;have hl:=r.length;have hn:=JM;have fin:EP X pins σ Q w s:=⟨z,H,I,qQ,q⟩
 by_cases h0:0≤i
 ·have hj:i.toNat=j:=by
   rw [seqIndex_of h0 h5]at h1;exact jJ h1
  exact item_listR pl.isList h0 (by omega) (by rw [hj];simpa using ew) fin hs
 ·have hj:(i+(aQ.toArray.size:Int)).toNat=j:=by
   rw [seqIndex_neg (by omega) h4]at h1;rw [iM,← hl];exact jJ h1
  exact subscriptTail_builtinR (x:=w) pl.isList.typeIs slot_list_getitem.lookup
   (wpAny_getItem_list_neg (Q:=fun r s'=>r=w∧EP X pins σ Q r s') pl.isList (by omega) (by rw [iM] <;> omega) (by omega) (by rw [hj];simpa using ew) ⟨rfl,fin⟩) hs
theorem ao9:xD X (Oq X.K):=by
 intro value slice pins s σ H x y v u Q I rx ry h hs;obtain⟨p,xs,i,z,rfl,rfl,hq,he,q⟩:=h;cases rx;obtain⟨t,rfl⟩:=ry;obtain⟨aQ,r,pl,hz⟩:=I.tuple hq;obtain⟨j,h1,h2,h3,h4,h5⟩:=Ie he;obtain⟨w,ew,qQ⟩:=r.get h2;have hl:=r.length;have hn:=JM;have fin:EP X pins σ Q w s:=⟨z,H,I,qQ,q⟩;exact subscriptTail_builtinR (x:=w) pl.typeIs slot_tuple_getitem.lookup
  (getItem_tuple (j:=j) (Q:=fun r s'=>r=w∧EP X pins σ Q r s') pl (by omega) (by omega) (by rw [iM,← hl];exact h1) (by simpa using ew) ⟨rfl,fin⟩) hs
theorem apA:xD X Ot:=by
 intro value slice pins s σ H x y v u Q I rx ry h hs;obtain⟨z,i,c,rfl,rfl,hz,he,q⟩:=h;obtain⟨t,rfl⟩:=rx;obtain⟨t',rfl⟩:=ry;obtain⟨j,h1,h2,h3,h4,h5⟩:=Ie he;have hl:z.cps.toList.length=z.length:=by simp [Str.length]
 rw [hl]at h1 h4 h5;have hn:=JM;exact tail_any (typeIs_str s z t) slot_str_getitem.lookup (getItem_str (c:=c) (by
  have e1:decide (i < -(2 ^ 63:Int))=false:=sI (by omega);have e2:decide (i≥2 ^ 63)=false:=sI (by omega);rw [e1,e2,Bool.or_false]) (by rw [h1];simpa using h2) ⟨.str ⟨#[c]⟩,H,I.tok _,⟨_,rfl⟩,q⟩) hs
def rIx(K:Frag):R2:=fun x y H Q=>Ou K x y H Q∨Oq K x y H Q∨Ot x y H Q
theorem apB:xD X (rIx X.K):=apC.or (ao9.or apA)
theorem an3(aQ:List Value)(n j:Nat)(u:Value):Obj.mapSeq (·.setIfInBounds j u) { cls := .type "list",data := .seq aQ.toArray n } = { cls := .type "list",data := .seq (aQ.set j u).toArray n }:=by
 simp [Obj.mapSeq]
theorem Inv.lst{pins:List (Addr×Obj)}{σ:St}{H:Hp}{s:Shared}{p:Addr}{xs:List V}(I:Inv X pins σ H s)(h:H p=some (.lst xs)) :
  ∃(aQ:List Value) (n:Nat),Vals xs aQ∧s.heap.get? p=some { cls := .type "list",data := .seq aQ.toArray n }∧xs.length≤sizeLine:=by
 obtain⟨z,aQ,n,r,e⟩:=I.aH p _ h;exact⟨aQ,n,r,e,z⟩
theorem Inv.aoC{pins:List (Addr×Obj)}{σ:St}{H:Hp}{s:Shared}{p:Addr}{xs ys:List V}{aQ its':List Value}{n n':Nat}{f:Obj→Obj}(I:Inv X pins σ H s)(h:H p=some (.lst xs))
  (ho:s.heap.get? p=some { cls := .type "list",data := .seq aQ.toArray n }) (hf:f { cls := .type "list",data := .seq aQ.toArray n } = { cls := .type "list",data := .seq its'.toArray n' }) (r:Vals ys its') (hz:ys.length≤sizeLine) (t:Nat) :
  Inv X pins σ (upd H p (.lst ys)) { s with heap:=s.heap.update p f,toks:=t }:=by
 have e:(s.heap.update p f).get? p=some { cls := .type "list",data := .seq its'.toArray n' }:=by
  rw [Zy f ho (by rw [hf] <;> rfl),hf]
 refine I.write (x:=p) (e:=p) (by rw [h];trivial) (.inl rfl) (fun b u hb q=>(DF _ _ (cQ hb)).trans q) ⟨_,e⟩ ?_;exact⟨hz,its',n',r,e⟩
def ai5:V→V→V→Hp→(Hp→Prop)→Prop:=fun o i v H Q=>∃p xs k j,o = .ref p∧i = .int k∧H p=some (.lst xs)∧pH xs.length k=some j∧Q (upd H p (.lst (xs.set j v)))
theorem set_list:Zf X ai5:=by
 intro pins s σ H o i v ov iv u Q I ro ri rv h;obtain⟨p,xs,k,j,rfl,rfl,hp,hj,q⟩:=h;cases ro;obtain⟨t,rfl⟩:=ri;obtain⟨aQ,n,r,ho,hz⟩:=I.lst hp;obtain⟨h1,h2,h3,h4⟩:=Se hj;have hl:=r.length;have hn:=JM;have I':Inv X pins σ (upd H p (.lst (xs.set j v))) { s with heap:=s.heap.update p (Obj.mapSeq (·.setIfInBounds j u)) } :=
  I.aoC hp ho (an3 aQ n j u) (r.set rv j) (by rw [HC];exact hz) s.toks
 by_cases h0:0≤k
 ·have hk:k.toNat=j:=by
   rw [seqIndex_of h0 h4]at h1;exact jJ h1
  exact PySem.W.ki_setAt ho h0 (by omega) (by rw [iM,← hl];exact h4) (by rw [hk];exact⟨_,I',q⟩)
 ·have hk:(k+(aQ.toArray.size:Int)).toNat=j:=by
   rw [seqIndex_neg (by omega) h3]at h1;rw [iM,← hl];exact jJ h1
  exact PySem.W.ki_setBack ho (by omega) (by rw [iM,← hl];exact h3) (by omega) (by rw [hk];exact⟨_,I',q⟩)
theorem ahU(lo hi:Option Int)(n:Nat):(sliceBounds lo hi none n).1=((HT.cR n 0 lo:Nat):Int)∧(sliceBounds lo hi none n).2.1=((HT.cR n n hi:Nat):Int)∧(sliceBounds lo hi none n).2.2=1:=by
 refine⟨?_,?_,rfl⟩
 ·cases lo with
  | none=>simp [sliceBounds,HT.cR]
  | some i =>
   simp only [sliceBounds,HT.cR,Option.getD_none,show(1:Int)>0 by decide,fW]
   by_cases h:i<0
   ·simp only [h,fW] <;> omega
   ·simp only [h,jN] <;> omega
 ·cases hi with
  | none=>simp [sliceBounds,HT.cR]
  | some i =>
   simp only [sliceBounds,HT.cR,Option.getD_none,show(1:Int)>0 by decide,fW]
   by_cases h:i<0
   ·simp only [h,fW] <;> omega
   ·simp only [h,jN] <;> omega
theorem ahV(aQ:List Value)(lo hi:Option Int):slicePick aQ.toArray lo hi none=((aQ.drop (HT.cR aQ.length 0 lo)).take (HT.cR aQ.length aQ.length hi - HT.cR aQ.length 0 lo)).toArray:=by
 obtain⟨h1,h2,h3⟩:=ahU lo hi aQ.toArray.size;unfold slicePick;rw [h1,h2,h3];simp only [sliceRange_one,pick_run,iM] <;> rfl
def ai4(K:Frag):V→Option Int→Option Int→Hp→VK→Prop:=fun x lo hi H Q=>∃a xs,x = .ref a∧dG K H a xs∧∀p,H p=none→Q (.ref p) (upd H p (.lst (yW xs lo hi)))
theorem ah0:CT X (ai4 X.K):=by
 intro pins s σ H x v vl vu lo hi sl Q I rx hs pl pu h;obtain⟨a,xs,rfl,hx,q⟩:=h;cases rx;obtain⟨aQ,r,ht,hz⟩:=I.list hx;have hlen:=r.length;refine⟨"list",_,slot_list_getitem.lookup,ht.isList.typeIs,?_⟩;refine wpAny_getItem_list_slice ht.isList hs pl pu .none (by simp) ?_ (by rw [iM] <;> omega);rw [ahV,← hlen];refine⟨.ref s.heap.objs.size,_,I.laid (t':=s.toks) (o := .lst (yW xs lo hi)) (fun b ob q=>eL _ q) cJ ?_,rfl,q _ (I.aH.fresh cJ)⟩;exact⟨qE (Wr xs lo hi) hz,_,0,(r.drop (HT.cR xs.length 0 lo)).take (HT.cR xs.length xs.length hi - HT.cR xs.length 0 lo),kH _ rfl⟩
theorem av4:nJ X (.builtin "len") (fun xs H Q=>∃p ys,xs=[.ref p]∧(dG X.K H p ys∨gA X.K H p ys)∧Q (.int ys.length) H):=by
 intro pins s σ H xs us Q I r h;obtain⟨p,ys,rfl,hq,q⟩:=h;obtain⟨u,rfl,rx⟩:=vals1 r;cases rx;have hn:=JM
 rcases hq with hq | hq
 ·obtain⟨aQ,r',pl,hz⟩:=I.list hq;have hlen:=r'.length;exact Calls.call_len_list pl.isList (by simp only [iM] <;> omega) ⟨.int ys.length,H,I.tok _,⟨s.toks+1,by rw [iM,hlen]⟩,q⟩
 ·obtain⟨aQ,r',pl,hz⟩:=I.tuple hq;have hlen:=r'.length;exact len_tuple pl (by simp only [iM] <;> omega) ⟨.int ys.length,H,I.tok _,⟨s.toks+1,by rw [iM,hlen]⟩,q⟩
theorem nJ.or{f:Value}{r r':List V→Hp→VK→Prop}(h:nJ X f r)(h':nJ X f r'):nJ X f (fun xs H Q=>r xs H Q∨r' xs H Q):=by
 intro pins s σ H xs us Q I rs q
 rcases q with q | q
 ·exact h pins s σ H xs us Q I rs q
 ·exact h' pins s σ H xs us Q I rs q
theorem av3:nJ X (.type "list") (fun xs H Q=>∃p ys,xs=[.ref p]∧(dG X.K H p ys∨gA X.K H p ys)∧∀l,H l=none→Q (.ref l) (upd H l (.lst ys))):=by
 intro pins s σ H xs us Q I r h;obtain⟨p,ys,rfl,hq,q⟩:=h;obtain⟨u,rfl,rx⟩:=vals1 r;cases rx;have fin:∀(aQ:List Value),Vals ys aQ→ys.length≤sizeLine→∀(h':Heap) (c':Nat),(∀b o',s.heap.get? b=some o'→h'.get? b=some o') →
   h'.get? s.heap.objs.size=some { cls := .type "list",dict:=none,data := .seq aQ.toArray c',slots:=#[] }→EP X pins σ Q (.ref s.heap.objs.size) { s with heap:=h' }:=fun aQ r' hz h' c' kp e =>
  ⟨.ref s.heap.objs.size,_,I.laid (t':=s.toks) kp cJ (show gY X.prog X.w _ h' _ (.lst ys)from⟨hz,aQ,c',r',e⟩),rfl,q _ (I.aH.fresh cJ)⟩
 rcases hq with hq | hq
 ·obtain⟨aQ,r',pl,hz⟩:=I.list hq;have hlen:=r'.length;obtain⟨o,ho,hc,n,hd⟩:=pl.isList;exact call_list_seq p (.inl rfl) ho hc hd (fun h' c' kp e=>fin aQ r' hz h' c' kp e) (by simp only [iM] <;> omega)
 ·obtain⟨aQ,r',pl,hz⟩:=I.tuple hq;have hlen:=r'.length;obtain⟨o,ho,hc,n,hd⟩:=pl;exact call_list_seq p (.inr rfl) ho hc hd (fun h' c' kp e=>fin aQ r' hz h' c' kp e) (by simp only [iM] <;> omega)
def XF(K:Frag)(T:String)(x:V)(H:Hp):Prop:=match x with
 | .str _=>T = "str"
 | .int _=>T = "int"
 | .ref p=>(T = "list"∧∃xs,dG K H p xs)∨(T = "tuple"∧∃o,K.lookup p=some o∧o.cls = .type "tuple"∧o.dict=none) ∨
   (T = "dict"∧((∃kvs,H p=some (.dK kvs))∨∃kvs,H p=some (.dT kvs)))∨(T = "set"∧∃S n,H p=some (.set S n))
 | _=>False
theorem abT{pins:List (Addr×Obj)}{σ:St}{H:Hp}{s:Shared}{T:String}{x:V}{v:Value}(I:Inv X pins σ H s)(r:RelV x v)(ty:XF X.K T x H) :
  s.TypeIs v T∧∀a,v = .ref a→∃ob,s.heap.get? a=some ob∧ob.dict=none:=by
 cases x with
 | str z =>
  obtain⟨t,rfl⟩:=r;cases(show T = "str" from ty);exact⟨typeIs_str s z t,fun _ e=>nomatch e⟩
 | int i =>
  obtain⟨t,rfl⟩:=r;cases(show T = "int" from ty);exact⟨typeIs_int s i t,fun _ e=>nomatch e⟩
 | ref p =>
  cases r
  rcases ty with⟨rfl,xs,hq⟩ | ⟨rfl,o,hk,hc,hd⟩ | ⟨rfl,hk⟩ | ⟨rfl,S,n,hk⟩
  ·obtain⟨aQ,_,pl,_⟩:=I.list hq;refine⟨pl.isList.typeIs,fun a e=>?_⟩;cases e;obtain⟨o,n,e,c,hd,_⟩:=pl;exact⟨o,e,hd⟩
  ·refine⟨⟨o,I.gU p o hk,hc⟩,fun a e=>?_⟩;cases e;exact⟨o,I.gU _ o hk,hd⟩
  ·have z:∃o,s.heap.get? p=some o∧o.ExactDict:=by
    rcases hk with⟨kvs,hk⟩ | ⟨kvs,hk⟩
    ·obtain⟨_,_,_,_,o,_,_,e,ex,_⟩:=I.aH p _ hk;exact⟨o,e,ex⟩
    ·obtain⟨_,_,_,_,o,_,_,e,ex,_⟩:=I.aH p _ hk;exact⟨o,e,ex⟩
   obtain⟨o,e,ex⟩:=z;refine⟨⟨o,e,ex.1⟩,fun a e2=>?_⟩;cases e2;exact⟨o,e,ex.2.1⟩
  ·obtain⟨o,_,_,_,e,ex,_⟩:=I.aH p _ hk;refine⟨⟨o,e,ex.1⟩,fun a e2=>?_⟩;cases e2;exact⟨o,e,ex.2.1⟩
 | _=>exact False.elim ty
def tBM(K:Frag)(T:String)(r:V→List V→Hp→VK→Prop)(to:TE)(t:TA):TE:=fun σ H Q=>to σ H fun x H1=>XF K T x H1∧t σ H1 fun xs H2=>r x xs H2 Q
variable{o e:Expr}{es:List Expr}{to:TE}{t:TA}{name:Str}{apos iD:Pos}{T id:String}{r:V→List V→Hp→VK→Prop}
theorem alQ(pa:PlainAttrs T)(slot:Slot T name id)(Cu:typeOf (.builtin id)=pure (.type "method_descriptor"))(hm:GX X id r)(ho:PE X o to)(ha:PA X (e::es) t)
  (wO:attributeBase o name X.env (eval o X.env)=eval o X.env:=by rfl)
  (Dp:((backTo iD (starEach (e::es) X.env)).all (fun x=>!x.1)&&(backToKw iD (keywordEach [] X.env)).all (fun x=>x.1.isSome)
   && decide ((e::es).length+([]:List Keyword).length+(if([]:List Keyword).isEmpty then 0 else 1)<30))=true:=by rfl)
  (BP:(apos.endLine == iD.line)=true:=by rfl) (hs:starEach (e::es) X.env=(false,eval e X.env)::starEach es X.env:=by rfl) (Cz:(backTo iD (starEach es X.env)).any (·.1)=false:=by rfl) :
  PE X (.Call (.Attribute o name apos) (e::es) [] iD) (tBM X.K T r to t):=by
 intro pins s σ H Q I h;refine wpAny_Call_method_late wO Dp BP rfl (bG (ho pins s σ H _ I h) fun v s1 ⟨x,H1,I1,r1,ty,q1⟩=>?_);obtain⟨h1,h2⟩:=abT I1 r1 ty;refine⟨T,id,pa,slot,Cu,h1,h2,?_⟩;have hA:=ha iD pins s1 σ H1 _ I1 q1;rw [hs]at hA ⊢;refine aaH (by show(false||(backTo iD (starEach es X.env)).any (·.1))=false;rw [Cz] <;> rfl) (aaG ?_);exact bG hA fun us s2 ⟨vs,H2,I2,r2,q2⟩=>hm pins s2 σ H2 x vs v us Q I2 r1 r2 q2
end
def Jc(X:Cx)(id:String)(r:V→List V→Hp→VK→Prop):Prop :=
 ∀(pins:List (Addr×Obj)) (s:Shared) (σ:St) (H:Hp) (x:V) (xs:List V) (v:Value) (us:List Value) (Q:VK),Inv X pins σ H s→RelV x v→Vals xs us→r x xs H Q →
  wpAny (model X.prog X.w) X.A (call (.builtin id) (v::us)) (EP X pins σ Q) X.xe s
theorem Vals.one:∀{x:V} {us:List Value},Vals [x] us→∃u,us=[u]∧RelV x u
 | _,_,.cons r .nil=>⟨_,rfl,r⟩
theorem Vals.two:∀{x y:V} {us:List Value},Vals [x,y] us→∃u v,us=[u,v]∧RelV x u∧RelV y v
 | _,_,_,.cons r (.cons q .nil)=>⟨_,_,rfl,r,q⟩
theorem Vals.zero:∀{us:List Value},Vals [] us→us=[]
 | _,.nil=>rfl
theorem Vals.eraseIdx:∀{xs:List V} {us:List Value} (i:Nat),Vals xs us→Vals (xs.eraseIdx i) (us.eraseIdx i)
 | _,_,_,.nil => .nil
 | _,_,0,.cons _ t=>t
 | _,_,i+1,.cons r t => .cons r (Vals.eraseIdx i t)
theorem Rv{α:Type}:∀(l:List α) (i:Nat),(l.eraseIdx i).length≤l.length
 | [],_=>rC _
 | _::_,0=>NA _
 | _::r,i+1=>Nat.succ_le_succ (Rv r i)
section
variable{X:Cx}{pins:List (Addr×Obj)}{σ:St}{H:Hp}{s:Shared}{l b:Addr}{xs ys zs:List V}
theorem Inv.JK{aQ its':List Value}{n:Nat}{f:Array Value→Array Value}{t':Nat}(I:Inv X pins σ H s)(hH:H l=some (.lst xs))
  (e:s.heap.get? l=some { cls := .type "list",data := .seq aQ.toArray n }) (hf:f aQ.toArray=its'.toArray) (hv:Vals ys its') (hz:ys.length≤sizeLine) :
  Inv X pins σ (upd H l (.lst ys)) { s with heap:=s.heap.update l (Obj.mapSeq f),toks:=t' }:=by
 have q:=PySem.IsL.update e f;rw [hf]at q;refine I.write (x:=l) (e:=l) (by rw [hH];exact trivial) (.inl rfl) (fun b' u hb hu=>(DF s.heap (Obj.mapSeq f) (cQ hb)).trans hu) ⟨_,q⟩ ?_;exact⟨hz,its',_,hv,q⟩
theorem Inv.aoF{aQ:List Value}{t':Nat}(I:Inv X pins σ H s)(hv:Vals ys aQ)(hz:ys.length≤sizeLine) :
  Inv X pins σ (upd H s.heap.objs.size (.lst ys)) { s with heap:=s.heap.push { cls := .type "list",data := .seq aQ.toArray },toks:=t' } :=
 I.laid (fun _ _ q=>eL _ q) cJ ⟨hz,aQ,0,hv,kH _ rfl⟩
theorem Inv.fresh(I:Inv X pins σ H s):H s.heap.objs.size=none:=I.aH.fresh cJ
theorem Inv.yI(I:Inv X pins σ H s)(hH:H l=some (.lst xs)):xs.length≤sizeLine∧∃(aQ:List Value) (n:Nat),Vals xs aQ∧xs.length=aQ.length∧s.heap.get? l=some { cls := .type "list",data := .seq aQ.toArray n }:=by
 obtain⟨z,aQ,n,r,e⟩:=I.aH l _ hH;exact⟨z,aQ,n,r,r.length,e⟩
theorem am6{n:Nat}(h:n≤sizeLine):Builtin.List.listTooLong n=false:=by
 unfold Builtin.List.listTooLong;exact sI (by omega)
end
section
variable{X:Cx}
def Ox:V→List V→Hp→VK→Prop:=fun x vs H Q=>∃l xs y,x = .ref l∧vs=[y]∧H l=some (.lst xs)∧xs.length<sizeLine∧Q .bR (upd H l (.lst (xs++[y])))
theorem vX:Jc X "list.append" Ox:=by
 intro pins s σ H x vs v us Q I rx rv h;obtain⟨l,xs,y,rfl,rfl,hH,hz,q⟩:=h;cases rx;obtain⟨u,rfl,ru⟩:=rv.one;obtain⟨z,aQ,n,r,hl,e⟩:=I.yI hH;refine call_meets F.slot_list_append ⟨_,e,rfl⟩ F.entry_list_append (aaC _ _) (PySem.list_append l aQ.toArray n u (by rw [iM];omega)) ⟨e,?_⟩;refine⟨.bR,_,I.JK (its':=aQ++[u]) hH e (by simp) (r.append (.cons ru .nil)) ?_,rfl,q⟩;rw [kF,List.length_singleton];omega
def Ov:V→List V→Hp→VK→Prop:=fun x vs H Q=>∃l b xs zs,x = .ref l∧vs=[.ref b]∧H l=some (.lst xs)∧H b=some (.lst zs)∧xs.length+zs.length≤sizeLine∧Q .bR (upd H l (.lst (xs++zs)))
theorem anU:Jc X "list.extend" Ov:=by
 intro pins s σ H x vs v us Q I rx rv h;obtain⟨l,b,xs,zs,rfl,rfl,hH,hB,hz,q⟩:=h;cases rx;obtain⟨u,rfl,ru⟩:=rv.one;cases ru;obtain⟨z,aQ,n,r,hl,e⟩:=I.yI hH;obtain⟨z2,tD,n2,r2,kX,e2⟩:=I.yI hB;have hsz:aQ.toArray.size+tD.toArray.size≤sizeLine:=by rw [iM,iM];omega
 have aqT:¬(!aQ.toArray.isEmpty&&Builtin.List.listTooLong (aQ.toArray.size+tD.toArray.size))=true:=by
  rw [am6 hsz,Bool.and_false];exact Kt
 refine call_meets F.slot_list_extend ⟨_,e,rfl⟩ F.entry_list_extend (F.args_list_extend_2 _ _)
  (AutoSeq1.list_extend_list_list_0 l aQ.toArray n b tD.toArray n2 aqT (by rw [iM];omega) (by omega)) ⟨e,e2,?_⟩
 refine⟨.bR,_,I.JK (its':=aQ++tD) hH e (by simp) (r.append r2) ?_,rfl,q⟩;rw [kF];omega
def Om:V→List V→Hp→VK→Prop:=fun x vs H Q=>∃l xs i k y,x = .ref l∧vs=[.int i]∧H l=some (.lst xs)∧-(2 ^ 63)≤i∧i<2 ^ 63∧seqIndex? i xs.length=some k∧xs[k]? = some y∧Q y (upd H l (.lst (xs.eraseIdx k)))
theorem anT:Jc X "list.pop" Om:=by
 intro pins s σ H x vs v us Q I rx rv h;obtain⟨l,xs,i,k,y,rfl,rfl,hH,h1,h2,hk,hy,q⟩:=h;cases rx;obtain⟨u,rfl,ru⟩:=rv.one;obtain⟨t,rfl⟩:=ru;obtain⟨z,aQ,n,r,hl,e⟩:=I.yI hH;obtain⟨w,hw,qQ⟩:=r.get hy;refine call_meets F.slot_list_pop ⟨_,e,rfl⟩ F.entry_list_pop (F.args_list_pop_2 _ _)
  (MeetsSeq.list_pop_at l aQ.toArray n i t k w (fitsIndex_both h1 h2) (by rw [iM,← hl];exact hk) (by rw [← Array.getElem?_toList];exact hw) (by rw [iM];omega)) ⟨e,?_⟩
 refine⟨y,_,I.JK (its':=aQ.eraseIdx k) hH e ?_ (r.eraseIdx k) ?_,qQ,q⟩
 ·show aQ.toArray.eraseIdxIfInBounds k=(aQ.eraseIdx k).toArray;rw [List.eraseIdxIfInBounds_toArray]
 ·have:=Rv xs k;omega
def Ow:R2:=fun x y H Q=>∃l b xs zs,x = .ref l∧y = .ref b∧H l=some (.lst xs)∧H b=some (.lst zs)∧xs.length+zs.length≤sizeLine∧∀p,H p=none→Q (.ref p) (upd H p (.lst (xs++zs)))
theorem amJ:fU X (binaryOp .Add) Ow:=by
 intro pins s σ H x y v u Q I rx ry h;obtain⟨l,b,xs,zs,rfl,rfl,hH,hB,hz,q⟩:=h;cases rx;cases ry;obtain⟨z,aQ,n,r,hl,e⟩:=I.yI hH;obtain⟨z2,tD,n2,r2,kX,e2⟩:=I.yI hB;refine PySem.P.add_list e e2 ?_ (by rw [iM,iM];omega);have ea:aQ.toArray++tD.toArray=(aQ++tD).toArray:=by simp
 rw [ea];exact⟨.ref _,_,I.aoF (t':=s.toks) (r.append r2) (by rw [kF];omega),rfl,q _ I.fresh⟩
end
section
variable{κ:Type} [DecidableEq κ]
def lY(kvs:List (κ×V))(k:κ):Option V:=(kvs.find? fun kv=>decide (kv.1=k)).map (·.2)
def putK(kvs:List (κ×V))(k:κ)(v:V):List (κ×V) :=
 if(kvs.any fun kv=>decide (kv.1=k))=true then kvs.map (fun kv=>if kv.1=k then(kv.1,v)else kv)else kvs++[(k,v)]
def Wh(kvs:List (κ×V))(k:κ):List (κ×V):=kvs.filter fun kv=>decide (kv.1≠k)
theorem WO{p:κ×V}{r:List (κ×V)}{k:κ}(e:p.1=k):lY (p::r) k=some p.2:=by simp [lY,DA,e]
theorem WQ{p:κ×V}{r:List (κ×V)}{k:κ}(e:¬p.1=k):lY (p::r) k=lY r k:=by simp [lY,DA,e]
theorem Lu(k:κ):∀kvs:List (κ×V),(kvs.any fun kv=>decide (kv.1=k))=(lY kvs k).isSome
 | []=>rfl
 | p::r=>by
  rw [UP]
  by_cases e:p.1=k
  ·simp only [WO e,MB e,Bool.true_or,Option.isSome_some]
  ·rw [WQ e,sI e,Bool.false_or];exact Lu k r
theorem Rr(kvs:List (κ×V))(k:κ)(v:V):(putK kvs k v).length≤kvs.length+1:=by
 unfold putK;split
 ·rw [kQ];omega
 ·rw [kF,gO,xC];omega
theorem nG.apQ{o:Option V}{u:Option Value}(r:nG o u):o.isSome=u.isSome:=by
 cases o with
 | none=>cases u with
  | none=>rfl
  | some _=>exact(show False from r).elim
 | some _=>cases u with
  | none=>exact(show False from r).elim
  | some _=>rfl
theorem nG.getD{o:Option V}{u:Option Value}{d:V}{d':Value}(r:nG o u)(rd:RelV d d'):RelV (o.getD d) (u.getD d'):=by
 cases o with
 | none=>cases u with
  | none=>exact rd
  | some _=>exact(show False from r).elim
 | some _=>cases u with
  | none=>exact(show False from r).elim
  | some _=>exact r
theorem KV.val{kvs:List (κ×V)}{vs:List (κ×Value)}(r:KV kvs vs)(k:κ):nG (lY kvs k) (valueAt vs k):=by
 unfold KV at r
 induction r with
 | nil=>exact True.intro
 | @cons p q ps qs h t ih =>
  obtain⟨h1,h2⟩:=h
  by_cases e:p.1=k
  ·have e':q.1=k:=h1.symm.trans e;have b:valueAt (q::qs) k=some q.2:=by simp [valueAt,DA,e']
   rw [WO e,b];exact h2
  ·have e':¬q.1=k:=fun z=>e (h1.trans z);have b:valueAt (q::qs) k=valueAt qs k:=by simp [valueAt,DA,e']
   rw [WQ e,b];exact ih
theorem KV.any{kvs:List (κ×V)}{vs:List (κ×Value)}(r:KV kvs vs)(k:κ):(kvs.any fun kv=>decide (kv.1=k))=vs.any fun kv=>decide (kv.1=k):=by
 unfold KV at r
 induction r with
 | nil=>rfl
 | cons h t ih=>rw [UP,UP,ih,h.1]
theorem KV.ZP{kvs:List (κ×V)}{vs:List (κ×Value)}(r:KV kvs vs)(k:κ){y:V}{u:Value}(ry:RelV y u) :
  KV (kvs.map fun kv=>if kv.1=k then(kv.1,y)else kv) (vs.map fun kv=>if kv.1=k then(kv.1,u)else kv):=by
 unfold KV at r ⊢
 induction r with
 | nil=>exact .nil
 | @cons p q ps qs h t ih =>
  rw [dH,dH];refine .cons ?_ ih;obtain⟨h1,h2⟩:=h
  by_cases e:p.1=k
  ·rw [if_pos e,if_pos (h1.symm.trans e)];exact⟨h1,ry⟩
  ·rw [if_neg e,if_neg (fun z=>e (h1.trans z))];exact⟨h1,h2⟩
theorem KV.put{kvs:List (κ×V)}{vs:List (κ×Value)}(r:KV kvs vs)(k:κ){y:V}{u:Value}(ry:RelV y u):KV (putK kvs k y) (stored vs k u):=by
 unfold putK stored;rw [r.any k]
 by_cases e:(vs.any fun kv=>decide (kv.1=k))=true
 ·rw [if_pos e,if_pos e];exact r.ZP k ry
 ·rw [if_neg e,if_neg e];exact Paired.snoc r ⟨rfl,ry⟩
theorem KV.drop{kvs:List (κ×V)}{vs:List (κ×Value)}(r:KV kvs vs)(k:κ):KV (Wh kvs k) (without vs k):=by
 unfold KV at r ⊢;unfold Wh without
 induction r with
 | nil=>exact .nil
 | @cons p q ps qs h t ih =>
  obtain⟨h1,h2⟩:=h;rw [NK,NK]
  by_cases e:p.1=k
  ·have a:¬decide (p.1≠k)=true:=by simp [e]
   have b:¬decide (q.1≠k)=true:=by simp [h1.symm.trans e]
   rw [if_neg a,if_neg b];exact ih
  ·have e':¬q.1=k:=fun z=>e (h1.trans z);have a:decide (p.1≠k)=true:=by simp [e]
   have b:decide (q.1≠k)=true:=by simp [e']
   rw [if_pos a,if_pos b];exact .cons ⟨h1,h2⟩ ih
theorem KV.keys{kvs:List (κ×V)}{vs:List (κ×Value)}(r:KV kvs vs):kvs.map (·.1)=vs.map (·.1):=by
 unfold KV at r
 induction r with
 | nil=>rfl
 | cons h t ih=>rw [dH,dH,ih,h.1]
theorem KV.length{kvs:List (κ×V)}{vs:List (κ×Value)}(r:KV kvs vs):kvs.length=vs.length:=Paired.length r
end
theorem QT{P:Program}{w:World}{k:Key}{u:Value}(r:RelV (kV k) u):(lO P w).is k u=true:=by
 cases k with
 | inl i=>obtain⟨t,e⟩:=(show ∃t,u=Value.int i t from r);subst e;exact anY P w i t
 | inr x=>obtain⟨t,e⟩:=(show ∃t,u=Value.str x t from r);subst e;exact anW P w x t
theorem Sh{P:Program}{w:World}:∀{ks:List Key} {us:List Value},Vals (ks.map kV) us→ItemsAre (lO P w) ks us
 | [],_,r=>by rw [GZ]at r;cases r;exact .nil
 | k::ks,_,r=>by
  rw [dH]at r;cases r with
  | cons h t=>exact .cons (QT h) (Sh t)
abbrev KT(H:Hp):List (List Key×V)→List (List Key×Addr×Value)→Prop:=Paired fun p q=>p.1=q.1∧H q.2.1=some (.tup (p.1.map kV))∧RelV p.2 q.2.2
theorem KT.val{H:Hp}{kvs:List (List Key×V)}{xs:List (List Key×Addr×Value)}(r:KT H kvs xs)(k:List Key):nG (lY kvs k) ((atKey xs k).map (·.2)):=by
 induction r with
 | nil=>exact True.intro
 | @cons p q ps qs h t ih =>
  obtain⟨h1,_,h2⟩:=h
  by_cases e:p.1=k
  ·have e':q.1=k:=h1.symm.trans e;have b:atKey (q::qs) k=some q.2:=by simp [atKey,DA,e']
   rw [WO e,b];exact h2
  ·have e':¬q.1=k:=fun z=>e (h1.trans z);have b:atKey (q::qs) k=atKey qs k:=by simp [atKey,DA,e']
   rw [WQ e,b];exact ih
theorem KT.ZP{H:Hp}{kvs:List (List Key×V)}{xs:List (List Key×Addr×Value)}(r:KT H kvs xs)(k:List Key){y:V}{u:Value}(ry:RelV y u) :
  KT H (kvs.map fun kv=>if kv.1=k then(kv.1,y)else kv) (xs.map (putAt k u)):=by
 induction r with
 | nil=>exact .nil
 | @cons p q ps qs h t ih =>
  rw [dH,dH];refine .cons ?_ ih;obtain⟨h1,h2,h3⟩:=h;unfold putAt
  by_cases e:p.1=k
  ·rw [if_pos e,if_pos (h1.symm.trans e)];exact⟨h1,h2,ry⟩
  ·rw [if_neg e,if_neg (fun z=>e (h1.trans z))];exact⟨h1,h2,h3⟩
theorem KT.put{H:Hp}{kvs:List (List Key×V)}{xs:List (List Key×Addr×Value)}(r:KT H kvs xs)(k:List Key){b:Addr}{y:V}{u:Value}(hb:H b=some (.tup (k.map kV)))(ry:RelV y u) :
  KT H (putK kvs k y) (storedH xs k b u):=by
 have e:(kvs.any fun kv=>decide (kv.1=k))=(atKey xs k).isSome:=by
  rw [Lu,(r.val k).apQ,Option.isSome_map]
 unfold putK storedH;rw [e]
 by_cases q:(atKey xs k).isSome=true
 ·rw [if_pos q,if_pos q];exact r.ZP k ry
 ·rw [if_neg q,if_neg q];exact Paired.snoc r ⟨rfl,hb,ry⟩
theorem KT.keeps{H H':Hp}{kvs:List (List Key×V)}{xs:List (List Key×Addr×Value)}(r:KT H kvs xs)(ht:∀b ys,H b=some (.tup ys)→H' b=some (.tup ys)):KT H' kvs xs :=
 Paired.AY r fun _ _ z=>⟨z.1,ht _ _ z.2.1,z.2.2⟩
section
variable{P:Program}{w:World}{H:Hp}{h:Heap}{a:Addr}
theorem Ol{u:HO}(ok:eY P w H h)(e:Rd H a u):gY P w H h a u:=e.ok ok
theorem MA{kvs:List (Key×V)}(ok:eY P w H h)(e:Rd H a (.dK kvs)):kvs.length≤sizeLine∧(a == sysModules)=false∧∃vs,KV kvs vs∧h.DictOf (lO P w) a vs :=
 show gY P w H h a (.dK kvs)from Ol ok e
theorem Gi{kvs:List (Key×V)}(ok:eY P w H h)(e:H a=some (.dK kvs)):kvs.length≤sizeLine∧(a == sysModules)=false∧∃vs,KV kvs vs∧h.DictOf (lO P w) a vs:=MA ok (.inl e)
theorem QR{ks:List Key}(ok:eY P w H h)(e:H a=some (.tup (ks.map kV))):(tupleKind (lO P w)).is h ks a:=by
 obtain⟨_,aQ,r,o,h1,h2,n,h3⟩:=(show gY P w H h a (.tup (ks.map kV))from ok a _ e);exact⟨o,aQ.toArray,n,h1,h2,h3,by simpa using Sh r⟩
theorem LZ{kvs:List (List Key×V)}(ok:eY P w H h)(e:Rd H a (.dT kvs)):kvs.length≤sizeLine∧(a == sysModules)=false ∧
  ∃xs,KT H kvs xs∧h.DictOfH (tupleKind (lO P w)) a xs:=by
 obtain⟨z,y,xs,r,o,es,ep,h1,h2,h3,h4,h5⟩:=(show gY P w H h a (.dT kvs)from Ol ok e);refine⟨z,y,xs,r,o,es,ep,h1,h2,h3,h4,fun x hx=>?_,h5⟩;have all:∀{l:List (List Key×V)} {m:List (List Key×Addr×Value)},KT H l m→∀x∈m,(tupleKind (lO P w)).is h x.1 x.2.1:=by
  intro l m q
  induction q with
  | nil=>intro x hx;exact nomatch hx
  | @cons p q ps qs hq t ih =>
   intro x hx
   rcases dN.mp hx with e | hx
   ·subst e;exact QR ok (by rw [← hq.1];exact hq.2.1)
   ·exact ih x hx
 exact all r x hx
theorem at5{kvs:List (List Key×V)}(ok:eY P w H h)(e:H a=some (.dT kvs)):kvs.length≤sizeLine∧(a == sysModules)=false ∧
  ∃xs,KT H kvs xs∧h.DictOfH (tupleKind (lO P w)) a xs:=LZ ok (.inl e)
end
def tX(H:Hp)(a:Addr)(y:V)(r:Option V):Prop :=
 (∃kvs k,Rd H a (.dK kvs)∧y=kV k∧r=lY kvs k)∨∃kvs k b,Rd H a (.dT kvs)∧y = .ref b∧H b=some (.tup (k.map kV))∧r=lY kvs k
def DK(H:Hp)(a:Addr)(y v:V)(H':Hp):Prop :=
 (∃kvs k,H a=some (.dK kvs)∧y=kV k∧kvs.length<sizeLine∧H'=upd H a (.dK (putK kvs k v))) ∨
 ∃kvs k b,H a=some (.dT kvs)∧y = .ref b∧H b=some (.tup (k.map kV))∧kvs.length<sizeLine∧H'=upd H a (.dT (putK kvs k v))
theorem tX.k{H:Hp}{a:Addr}{kvs:List (Key×V)}{k:Key}(e:H a=some (.dK kvs)):tX H a (kV k) (lY kvs k) := .inl ⟨kvs,k,.inl e,rfl,rfl⟩
theorem tX.t{H:Hp}{a b:Addr}{kvs:List (List Key×V)}{k:List Key}(e:H a=some (.dT kvs))(eb:H b=some (.tup (k.map kV))):tX H a (.ref b) (lY kvs k) := .inr ⟨kvs,k,b,.inl e,rfl,eb,rfl⟩
theorem DK.k{H:Hp}{a:Addr}{kvs:List (Key×V)}{k:Key}{v:V}(e:H a=some (.dK kvs))(hl:kvs.length<sizeLine):DK H a (kV k) v (upd H a (.dK (putK kvs k v))) := .inl ⟨kvs,k,e,rfl,hl,rfl⟩
theorem DK.t{H:Hp}{a b:Addr}{kvs:List (List Key×V)}{k:List Key}{v:V}(e:H a=some (.dT kvs))(eb:H b=some (.tup (k.map kV)))(hl:kvs.length<sizeLine) :
  DK H a (.ref b) v (upd H a (.dT (putK kvs k v))) := .inr ⟨kvs,k,b,e,rfl,eb,hl,rfl⟩
section
variable{X:Cx}{pins:List (Addr×Obj)}{σ:St}{H:Hp}{s:Shared}{a:Addr}{y v:V}{u r:Value}{o:Option V}{A:Around}{E:Value→Shared→Prop}
theorem Inv.big(I:Inv X pins σ H s):sysModules<s.heap.objs.size:=by
 have h:mainGlobals<s.heap.objs.size:=(I.mod.glob.keeps I.bk).lt;exact Nat.lt_trans (by decide) h
theorem auW{Q:Value→Shared→Prop}(hu:A.units+1<cLine)(I:Inv X pins σ H s)(g:tX H a y (some v))(ry:RelV y u)(h:∀w' s',Inv X pins σ H s'→RelV v w'→Q w' s') :
  wpAny (model X.prog X.w) A (getItem (.ref a) u) Q E s:=by
 rcases g with⟨kvs,k,e,ey,l⟩ | ⟨kvs,k,b,e,ey,eb,l⟩
 ·subst ey;obtain⟨z,hd,vs,rel,dd⟩:=MA I.aH e;obtain⟨w',hw,qQ⟩:=nG.some_of (v:=v) (o:=valueAt vs k) (by rw [l];exact rel.val k);exact wpAny_getItem_of (QT ry) dd.mapOf hw (h w' _ (I.tok _) qQ)
 ·subst ey;cases(show u=Value.ref b from ry);obtain⟨z,hd,xs,rel,dd⟩:=LZ I.aH e;obtain⟨w',hw,qQ⟩:=nG.some_of (v:=v) (o:=(atKey xs k).map (·.2)) (by rw [l];exact rel.val k);obtain⟨p,hp,iY⟩:=zF.mp hw;refine wpAny_getItem_heap (tupleKind_room_in1 hu) (QR I.aH eb) dd hp ?_;rw [iY];exact h w' _ (I.tok _) qQ
theorem Wl{h':Heap}{t':Nat}{ob:HO}(I:Inv X pins σ H s)(mu:NB (H a))(hs:Heap.SameBut a s.heap h')(he:∃q,h'.get? a=some q)(new:gY X.prog X.w (upd H a ob) h' a ob) :
  Inv X pins σ (upd H a ob) { s with heap:=h',toks:=t' } :=
 I.write (x:=a) (e:=a) mu (.inl rfl) (fun b q hb z=>(hs.2 b hb).trans z) he new
theorem auC{P:Program}{w:World}{H':Hp}{h':Heap}{kvs:List (Key×V)}{vs:List (Key×Value)}(z:kvs.length≤sizeLine)(hd:(a == sysModules)=false)(rel:KV kvs vs)(dd:h'.DictOf (lO P w) a vs) :
  gY P w H' h' a (.dK kvs):=⟨z,hd,vs,rel,dd⟩
theorem auL{H':Hp}{Q:Unit→Shared→Prop}(hu:A.units+1<cLine)(I:Inv X pins σ H s)(g:DK H a y v H')(ry:RelV y u)(rv:RelV v r)(h:∀s',Inv X pins σ H' s'→Q () s') :
  wpAny (model X.prog X.w) A (setItem (.ref a) u r) Q E s:=by
 rcases g with⟨kvs,k,e,ey,l,eH⟩ | ⟨kvs,k,b,e,ey,eb,l,eH⟩
 ·subst ey eH;obtain⟨z,hd,vs,rel,dd⟩:=Gi I.aH e;have hz:vs.length≤sizeLine:=by rw [← rel.length];exact z
  have hl:(putK kvs k v).length≤sizeLine:=by have:=Rr kvs k v;omega
  refine wpAny_setItem_pairs (hsz:=hz) (QT ry) dd fun h' RZ hs=>h _ ?_;have he:∃q,h'.get? a=some q:=let ⟨q,_,_,hq,_⟩:=RZ; ⟨q,hq⟩;exact Wl I (by rw [e];exact True.intro) hs he (auC hl hd (rel.put k rv) RZ)
 ·subst ey eH;cases(show u=Value.ref b from ry);obtain⟨z,hd,xs,rel,dd⟩:=at5 I.aH e;have hz:xs.length≤sizeLine:=by rw [← Paired.length rel];exact z
  have hl:(putK kvs k v).length≤sizeLine:=by have:=Rr kvs k v;omega
  refine wpAny_setItem_heap (hsz:=hz) (tupleKind_room_in1 hu) (QR I.aH eb) dd fun h' RZ hs=>h _ ?_;obtain⟨q,es,ep,hq,h2,h3,h4,_,h5⟩:=RZ;refine Wl I (by rw [e];exact True.intro) hs ⟨q,hq⟩ ⟨hl,hd,_,(rel.put k eb rv).keeps fun c ys ec=>?_,q,es,ep,hq,h2,h3,h4,h5⟩;rw [bP (AV ec e (fun z=>nomatch z))];exact ec
end
def Iy(i:Expr):Prop:=∀ov iv,subscripted i false ov iv=operate [ov,iv] (getItem ov iv)
theorem ahO{prog:Program}{w:World}{A:Around}{E:Value→Shared→Prop}{s:Shared}{env:Env}{value slice:Expr}{pos:Pos}{T id:String}{Q:Value→Shared→Prop}
  (hl:typeLookup (.type T) "__getitem__" = pure (some (.builtin id))) (hs:Iy slice)
  (h:wpAny (model prog w) A (eval value env) (fun o s₁=>wpAny (model prog w) A (eval slice env) (fun i s₂=>s₂.TypeIs o T∧wpAny (model prog w) A (getItem o i) Q E s₂) E s₁) E s) :
  wpAny (model prog w) A (eval (.Subscript value slice pos) env) Q E s:=by
 refine Subscript_ (kJ h (fun o s₁ h₁=>kJ h₁ (fun i s₂ h₂=>?_) fun _ _ x=>x) fun _ _ x=>x);obtain⟨hT,h₂⟩:=h₂;unfold subscriptTail;refine aZ ?_;rw [getitemInPython_of_ne hT.not_modules];refine aZ (wpAny_specialOf hT hl ?_);have fin:wpAny (model prog w) A (subscripted slice false o i) (fun r s₃=>wpAny (model prog w) A (letTemporaryGo value o r >>= fun _=>pure r) Q E s₃) E s₂:=by
  rw [hs o i];exact wpAny_operating (kJ h₂ (fun r s₃ h₃=>aZ (wpAny_letTemporaryGo (dM h₃))) fun _ _ x=>x)
 first
  | exact dM (aZ fin)
  | exact aZ (dM (aZ fin))
  | exact aZ fin
theorem auF{X:Cx}{pins:List (Addr×Obj)}{σ:St}{H:Hp}{s:Shared}{a:Addr}{y:V}{o:Option V}(I:Inv X pins σ H s)(g:tX H a y o):s.TypeIs (.ref a) "dict":=by
 rcases g with⟨kvs,k,e,_,_⟩ | ⟨kvs,k,b,e,_,_,_⟩
 ·obtain⟨_,_,vs,_,dd⟩:=MA I.aH e;exact dd.typeIs
 ·obtain⟨_,_,xs,_,dd⟩:=LZ I.aH e;exact dd.typeIs
def ac8(td ty:TE):TE:=fun σ H Q=>td σ H fun x H1=>ty σ H1 fun y H2=>∃a v,x = .ref a∧tX H2 a y (some v)∧Q v H2
def aiQ(td ty tv:TE):TS:=fun D σ H=>tv σ H fun v H1=>td σ H1 fun x H2=>ty σ H2 fun y H3=>∃a H4,x = .ref a∧DK H3 a y v H4∧D.nx σ H4
section
variable{X:Cx}{o i e value:Expr}{pos pos' ab5:Pos}{td ty tv:TE}
theorem alI(hu:X.A.units+1<cLine)(ho:PE X o td)(hi:PE X i ty)(hs:Iy i):PE X (.Subscript o i pos) (ac8 td ty):=by
 intro pins s σ H Q I h;refine ahO PySem.F.slot_dict_getitem.lookup hs (bG (ho pins s σ H _ I h) fun u s1 ⟨x,H1,I1,rx,q1⟩=>bG (hi pins s1 σ H1 _ I1 q1) fun iv s2 ⟨y,H2,I2,ry,a,v,ex,g,q2⟩=>?_);subst ex;obtain rfl:u=Value.ref a:=rx;exact⟨auF I2 g,auW hu I2 g ry fun w' s3 I3 qQ=>⟨v,H2,I3,qQ,q2⟩⟩
theorem aj2(hu:X.A.units+1<cLine)(ho:PE X o td)(hi:PE X i ty)(hv:PE X value tv)(hs:swapsWith value (some (.Subscript o i pos')) pos.line X.env=pure false) :
  PS X (.Assign [.Subscript o i pos'] value pos) (aiQ td ty tv):=by
 intro pins s σ H D I h;refine wpAny_Assign_Subscript (bG (hv pins s σ H _ I h) fun r s1 ⟨v,H1,I1,rv,q1⟩=>bG (ho pins s1 σ H1 _ I1 q1) fun u s2 ⟨x,H2,I2,rx,q2⟩=>bG (hi pins s2 σ H2 _ I2 q2) fun iv s3 ⟨y,H3,I3,ry,a,H4,ex,g,q3⟩=>?_) hs;subst ex;obtain rfl:u=Value.ref a:=rx;exact auL hu I3 g ry rv fun s4 I4=>⟨σ,H4,I4,q3⟩
end
theorem auD{P:Program}{w:World}{H:Hp}(h:Heap)(hb:sysModules<h.objs.size):gY P w H (h.push { cls := .type "dict",data := .dict #[] }) h.objs.size (.dK []) :=
 ⟨CW _,uQ.mpr (cQ (iE hb)),[],.nil,Heap.DictOf.new h⟩
def ac6:TE:=fun _ H Q=>∀p,H p=none→Q (.ref p) (upd H p (.dK []))
section
variable{X:Cx}{pos:Pos}
theorem alG:PE X (.Dict [] [] pos) ac6:=fun pins s σ H Q I h =>
 wpAny_Dict_empty ⟨.ref s.heap.objs.size,_,I.laid (a:=s.heap.objs.size) (o := .dK []) (t':=s.toks) (fun _ _ q=>eL _ q) cJ (auD s.heap I.big),rfl,h _ (I.aH.fresh cJ)⟩
end
def an2(kvs more:List (Key×V)):List (Key×V):=more.foldl (fun acc kv=>putK acc kv.1 kv.2) kvs
theorem KV.merge:∀{more:List (Key×V)} {rs:List (Key×Value)} {kvs:List (Key×V)} {vs:List (Key×Value)},KV more rs→KV kvs vs→KV (an2 kvs more) (merged vs rs):=by
 intro more rs kvs vs r;unfold KV at r
 induction r generalizing kvs vs with
 | nil=>intro q;exact q
 | @cons p q ps qs h t ih =>
  intro r0;have e:KV (putK kvs p.1 p.2) (stored vs q.1 q.2):=by
   have:=r0.put p.1 h.2;rw [← h.1];exact this
  exact ih e
structure M1(X:Cx)(o:Expr)(m:Str)(apos:Pos)(e:Expr)(iD:Pos):Prop where
 base:attributeBase o m X.env (eval o X.env)=eval o X.env
 nC:((backTo iD (starEach [e] X.env)).all (fun x=>!x.1)&&(backToKw iD (keywordEach [] X.env)).all (fun x=>x.1.isSome)
  && decide (([e]:List Expr).length+([]:List Keyword).length+(if([]:List Keyword).isEmpty then 0 else 1)<30))=true
 line:(apos.endLine == iD.line)=true
 trees:backTo iD (starEach [e] X.env)=[(false,eval e X.env)]
structure M2(X:Cx)(o:Expr)(m:Str)(apos:Pos)(e f:Expr)(iD:Pos):Prop where
 base:attributeBase o m X.env (eval o X.env)=eval o X.env
 nC:((backTo iD (starEach [e,f] X.env)).all (fun x=>!x.1)&&(backToKw iD (keywordEach [] X.env)).all (fun x=>x.1.isSome)
  && decide (([e,f]:List Expr).length+([]:List Keyword).length+(if([]:List Keyword).isEmpty then 0 else 1)<30))=true
 line:(apos.endLine == iD.line)=true
 trees:backTo iD (starEach [e,f] X.env)=[(false,eval e X.env),(false,eval f X.env)]
def Zw(H:Hp)(a:Addr):Prop:=(∃kvs,Rd H a (.dK kvs))∨∃kvs,Rd H a (.dT kvs)
theorem Sj{X:Cx}{pins:List (Addr×Obj)}{σ:St}{H:Hp}{s:Shared}{a:Addr}(I:Inv X pins σ H s)(d:Zw H a) :
  s.TypeIs (.ref a) "dict"∧(∀b,Value.ref a = .ref b→∃ob,s.heap.get? b=some ob∧ob.dict=none)∧(a == sysModules)=false:=by
 rcases d with⟨kvs,e⟩ | ⟨kvs,e⟩
 ·obtain⟨_,hd,vs,_,dd⟩:=MA I.aH e;refine⟨dd.typeIs,fun b q=>?_,hd⟩;cases q;obtain⟨ob,_,_,h1,h2,_⟩:=dd;exact⟨ob,h1,h2.2.1⟩
 ·obtain⟨_,hd,xs,_,dd⟩:=LZ I.aH e;refine⟨dd.typeIs,fun b q=>?_,hd⟩;cases q;obtain⟨ob,_,_,h1,h2,_⟩:=dd;exact⟨ob,h1,h2.2.1⟩
section
variable{X:Cx}{pins:List (Addr×Obj)}{σ:St}{H:Hp}{s:Shared}{a:Addr}{y d:V}{u r:Value}{o:Option V}{A:Around}{E:Value→Shared→Prop}
theorem auX{Q:Value→Shared→Prop}(hu:A.units+1<cLine)(I:Inv X pins σ H s)(g:tX H a y o)(ry:RelV y u)(rd:RelV d r)(h:∀w' s',Inv X pins σ H s'→RelV (o.getD d) w'→Q w' s') :
  wpAny (model X.prog X.w) A (call (.builtin "dict.get") [.ref a,u,r]) Q E s:=by
 rcases g with⟨kvs,k,e,ey,l⟩ | ⟨kvs,k,b,e,ey,eb,l⟩
 ·subst ey;obtain⟨z,hd,vs,rel,dd⟩:=MA I.aH e;refine call_meetsIn PySem.F.slot_dict_get dd.typeIs PySem.F.entry_dict_get (PySem.F.args_dict_get_3 _ _ _) (meets_dict_get_default (lO X.prog X.w) a (QT ry) hd r) ⟨_,dd.mapOf,h _ _ (I.tok _) ?_⟩;rw [l];exact(rel.val k).getD rd
 ·subst ey;cases(show u=Value.ref b from ry);obtain⟨z,hd,xs,rel,dd⟩:=LZ I.aH e;refine call_meetsIn PySem.F.slot_dict_get dd.typeIs PySem.F.entry_dict_get (PySem.F.args_dict_get_3 _ _ _) (meetsH_dict_get_default (tupleKind (lO X.prog X.w)) a b hd r) ⟨tupleKind_room_in1 hu,k,xs,QR I.aH eb,dd,h _ _ (I.tok _) ?_⟩;rw [l];exact(rel.val k).getD rd
end
def ac7(td ty tx:TE):TE:=fun σ H Q=>td σ H fun x H1=>∃a,x = .ref a∧Zw H1 a∧ty σ H1 fun y H2=>tx σ H2 fun z H3=>∃o,tX H3 a y o∧Q (o.getD z) H3
section
variable{X:Cx}{o e f:Expr}{apos iD:Pos}{td ty tx:TE}
theorem alH(hu:X.A.units+1<cLine)(ho:PE X o td)(he:PE X e ty)(hf:PE X f tx)(m:M2 X o "get" apos e f iD):PE X (.Call (.Attribute o "get" apos) [e,f] [] iD) (ac7 td ty tx):=by
 intro pins s σ H Q I h;refine wpAny_Call_method m.base m.nC m.line PySem.F.plainAttrs_dict PySem.F.slot_dict_get PySem.F.type_dict_get (bG (ho pins s σ H _ I h) fun u s1 ⟨x,H1,I1,rx,a,ex,d,q1⟩=>?_);subst ex;obtain rfl:u=Value.ref a:=rx;obtain⟨t1,t2,_⟩:=Sj I1 d;refine⟨t1,t2,?_⟩;rw [m.trees];refine aaH rfl (aaG (Ks (bG (he pins s1 σ H1 _ I1 q1) fun iv s2 ⟨y,H2,I2,ry,q2⟩ =>
  Ks (bG (hf pins s2 σ H2 _ I2 q2) fun fv s3 ⟨z,H3,I3,rz,ov,g,q3⟩=>Calls.spliced_nil ?_))))
 exact auX hu I3 g ry rz fun w' s4 I4 qQ=>⟨_,H3,I4,qQ,q3⟩
end
end L2
namespace Att
open PySem PySem.W PySem.Calls PyProof.Rows
theorem apR{P:Params}{h:Heap}:∀(ns:List Int) (vs:List Value),WellAll P h vs (ns.map WData.int)→IntsAre vs ns:=by
 intro ns
 induction ns with
 | nil =>
  intro vs w;rw [GZ]at w;cases w;exact .nil
 | cons n ns ih =>
  intro vs w;rw [dH]at w;cases w with
  | cons a b =>
   cases a;exact .cons _ _ (ih _ b)
theorem aiE{l:OpenLaw}{n:Nat}(hn:l.most=some n){P:Params}{h:Heap}{args:List WData}{vals:List Value}
  (QZ:l.row.toRowW.claim.pre args=true) (JQ:WellAll P h vals args) :
  ∃a vs ns,vals=[Value.ref a]∧args=[WData.list (ns.map WData.int)]∧h.get? a=some { cls := .type "list",data := .seq vs.toArray }∧IntsAre vs ns∧ns.length≤n:=by
 have hsh:WShape.hasAll [] args [.list .int]=true:=(pre_splitW QZ).1;have hc:l.pre.holds [] { args:=args }=true:=(pre_splitW QZ).2;obtain⟨d,r,rfl,h1,h2⟩:=hasAllW_cons hsh;obtain rfl:=hasAllW_nil h2;obtain⟨xs,rfl,h3⟩:=hasW_list h1;obtain⟨ns,rfl⟩:=items_int h3;have hlen:ns.length≤n:=by
  unfold OpenLaw.pre at hc;have h4:(WTm.not (.lt (.lit (.int (n:Int))) (.len (.arg 0)))).holds [] { args:=[.list (ns.map .int)] }=true:=by
   have h4:=(holds_andW hc).1;rw [hn]at h4;exact h4
  have h5:=condW_of h4 (w_not (w_lt w_lit (w_len_list (w_arg rfl))));rw [kQ]at h5;refine Jb fun q=>?_;have q':(n:Int)<((ns.length:Nat):Int):=by omega
  first
   | (rw [MB q']at h5;exact absurd h5 (by decide))
   | (simp at h5;omega)
 cases JQ with
 | cons w1 w2 =>
  cases w2;cases w1 with
  | list ho hall=>exact⟨_,_,ns,rfl,rfl,ho,apR ns _ hall,hlen⟩
theorem aj8(l:OpenLaw)(args:List WData):l.row.toRowW.claim.post args (.bool true) args=true :=
 postW_of (r:=l.row.toRowW) (X:=(true == true))
  (show WShape.has [] (.bool true) .bool=true by first | rfl | decide | simp [WShape.has,WShape.arms,WShape.armsAll])
  (show(WTm.eq .res (.lit (.bool true))).value [] { args:=args,res:=some (.bool true),after:=args }=some (.bool (true == true))from w_eq_bool (w_res rfl) w_lit) rfl
theorem awO{l:OpenLaw}{n:Nat}{q:Program}{loose:List Str}{XP:(Str→Option Value)→Heap→Prop}{YP:World→Heap→Prop}{d:DefRec}
  (hn:l.most=some n) (KQ:d.params.defaults=[])
  (call:∀(w:World) (s₀ s₁:Shared) (mg mb:Str→Option Value) (fa:Addr) (o:Obj) (pm cd doc:Value) (a:Addr) (vs:List Value) (ns:List Int),
   Ground q loose [] XP w s₀ mg mb s₁.heap→YP w s₁.heap →
   s₁.heap.get? fa=some o→o.data = .func (docDef d.name d.params d.body d.scope pm cd doc)→s₁.heap.CodeRec cd d.name→mg d.name=some (.ref fa) →
   s₁.heap.get? a=some { cls := .type "list",data := .seq vs.toArray }→IntsAre vs ns→ns.length≤n→s₁.gens = #[] →
   codeAny (model l.prog w) callerA (.call (.ref fa) ⟨[.ref a],[]⟩) (fun r s'=>r = .ok (.ret (.bool true))∧OldK s₁.heap s'.heap∧s'.os=s₁.os∧AllBare s'.gens) s₁) :
  WalkO q loose XP YP l.row.toRowW d [] (fun f vs=>PySem.call f vs):=by
 intro w s₀ s₁ mg mb G Y fa o pm cd doc dV kV ho hd fN hD JZ hg args vals as QZ az2 hrd JQ Tg;obtain rfl:dV = .none:=Dflts.none hD KQ;obtain rfl:kV = .none:=Dflts.noKw hD;obtain⟨a,vs,ns,rfl,rfl,Dc,hints,hlen⟩:=aiE hn QZ JQ;refine enter_call (yX (call w s₀ s₁ mg mb fa o pm cd doc a vs ns G Y ho (fd_plain hd) fN JZ Dc hints hlen hg) fun r s' hq=>?_);obtain⟨rfl,h2,h3,h4⟩:=hq;exact⟨.inl ⟨.bool true,.bool true,[],rfl,fun _=>rfl,.bool true,aj8 l _,fun _=>⟨List.Pairwise.nil,fun _ hm=>(nomatch hm)⟩⟩,h2,h3,h4⟩
section
variable{prog:Program}{w:World}{A:Around}{E:Value→Shared→Prop}{s:Shared}{K:Frag}
def ledger(h:Heap)(L d:Addr):List (Addr×Obj):=(List.range h.objs.size).filterMap fun a=>if a=L∨a=d then none else(h.get? a).map fun o=>(a,o)
end
end Att
namespace L2
open PySem PySem.Spec PyProof.Rows
theorem WM:∀{vs:List Value} {ns:List Int},IntsAre vs ns→Vals (ns.map V.int) vs
 | _,_,.nil => .nil
 | _,_,.cons n t h => .cons ⟨t,rfl⟩ (WM h)
def inClass(s:Stmt)(j:Nat):Stmt:=match s with
 | .ClassDef _ _ _ body _ _ _ _ _ _ _=>body.getD j (.Pass ⟨0,0,0,0⟩)
 | _ => .Pass ⟨0,0,0,0⟩
def iV(s:Stmt):Arguments:=match s with
 | .FunctionDef _ a _ _ _ _ _ _ _ _=>a
 | _=>{ posonlyargs:=[],args:=[],vararg:=none,kwonlyargs:=[],kw_defaults:=[],kwarg:=none,defaults:=[] }
def dX(s:Stmt):List Stmt:=match s with
 | .FunctionDef _ _ b _ _ _ _ _ _ _=>b
 | _=>[]
def aX(s:Stmt):Scope:=match s with
 | .FunctionDef _ _ _ _ _ _ sc _ _ _=>sc
 | _=>{ kind := .function,names:=[],isGenerator:=false,isCoroutine:=false }
abbrev nZ:pA:=fun _ _ _ _ _ _=>False
abbrev E0:XK:=fun _ _ _=>False
theorem Px{X:Cx}:Passes nZ X E0:=fun _ _ _ _ _ _ _ h=>h.elim
structure qF(K:Frag)(x qual:Str)(st:Stmt)(f:Addr)(fd:FuncData):Prop where
 ex:∃(oc:Value) (od:Option Addr) (kV doc pm:Value) (an:Option Addr) (aU ct:Value) (gD:Array (Option Value)),
  fd=fnOf x qual (iV st) (dX st) (aX st) .none kV doc pm an aU ct∧K.lookup f=some ⟨oc,od,.func fd,gD⟩∧codeIn K aU qual=true
 kp:keepIn K (.ref f)=true
section
variable{P:Program}{w:World}{K:Frag}{mg:Str→Option Value}{base:Heap}
theorem qF.ok{x qual:Str}{st:Stmt}{f:Addr}{fd:FuncData}{N ps:List Str}{k:Nat}{sp:Sp}(F:qF K x qual st f fd)(S:dJ N ps (aX st))(len:∀vs H Q E,sp vs H Q E→vs.length=ps.length)
  (gH:∀(aU:Value) (A:Around) (outer:List Env) (s:Shared) (H:Hp) (vs:List V) (Q:VK) (E:XK),cH k (A.deeper (envOfC qual (aX st) s.heap.objs.size f aU))→sp vs H Q E →
   ∃t,lT (mK nZ P w K mg base N qual (aX st) f aU A outer s H E).qT (dX st) t∧t { nx:=fun _ H'=>Q .bR H',rt:=Q } (start N vs) H):iG P w K mg base nZ (k+1) f fd ps sp:=by
 obtain⟨oc,od,kV,doc,pm,an,aU,ct,gD,rfl,lk,fN⟩:=F.ex;refine FY lk fN S len fun A outer s H vs Q E hr gF=>?_;obtain⟨t,h,q⟩:=gH aU A outer s H vs Q E hr gF;exact⟨t,h.qT,q⟩
theorem qF.binds{x qual:Str}{st:Stmt}{f:Addr}{fd:FuncData}{ps:List Str}(F:qF K x qual st f fd)
  (h:∀(kV doc pm:Value) (an:Option Addr) (aU ct:Value) (us:List Value),us.length=ps.length→bindArgs (fnOf x qual (iV st) (dX st) (aX st) .none kV doc pm an aU ct) ⟨us,[]⟩=pure (ps.zip us)):Binds K fd ps []:=by
 obtain⟨oc,od,kV,doc,pm,an,aU,ct,gD,rfl,lk,fN⟩:=F.ex;exact .all (h kV doc pm an aU ct)
theorem RM{x qual:Str}{st:Stmt}{f:Addr}{oc:Value}{od an:Option Addr}{gD:Array (Option Value)}{kV doc pm aU ct:Value}(l:K.lookup f=some ⟨oc,od,.func (fnOf x qual (iV st) (dX st) (aX st) .none kV doc pm an aU ct),gD⟩)
  (c:codeIn K aU qual=true) (k:keepIn K (.ref f)=true):qF K x qual st f (fnOf x qual (iV st) (dX st) (aX st) .none kV doc pm an aU ct):=⟨⟨oc,od,kV,doc,pm,an,aU,ct,gD,rfl,l,c⟩,k⟩
end
def jB(H H':Hp):Prop:=∀b o,H b=some o→H' b=some o
theorem jB.refl(H:Hp):jB H H:=fun _ _ h=>h
theorem jB.trans{H H1 H2:Hp}(a:jB H H1)(b:jB H1 H2):jB H H2:=fun c o h=>b c o (a c o h)
theorem jB.free{H H':Hp}(e:jB H H'){l:Addr}(h:H' l=Option.none):H l=Option.none:=by
 cases q:H l with
 | none=>rfl
 | some o =>
  rw [e l o q]at h;cases h
theorem jB.seq{K:Frag}{H H':Hp}{a:Addr}{xs:List V}(e:jB H H')(h:dG K H a xs):dG K H' a xs:=by
 rcases h with(h | ⟨o,h⟩) | h
 ·exact .inl (.inl (e _ _ h))
 ·exact .inl (.inr ⟨o,e _ _ h⟩)
 ·exact .inr h
theorem Gq(env:Env):∀(names:List (Str×NameKind)) (cs:List (Str×Addr)),(∀y∈names,y.2 = .free→∃c,env.cells.lookup y.1=some c) →
  ∃cl,(forIn names cs (fun(x:Str×NameKind) (cs:List (Str×Addr))=>(match x with | (name,kind)=>if(kind == NameKind.free)=true then(do let c ← cellOf env name;pure (ForInStep.yield ((name,c)::cs)))else pure (ForInStep.yield cs))):Sem (List (Str×Addr)))=pure cl ∧
   (∀x c,cl.lookup x=some c→cs.lookup x=some c∨env.cells.lookup x=some c)∧(∀y∈names,y.2 = .free→∃c,cl.lookup y.1=some c)∧(∀x c,cs.lookup x=some c→∃c',cl.lookup x=some c')
 | [],cs,_=>⟨cs,rfl,fun _ _ h => .inl h,fun _ h=>(nomatch h),fun _ c h=>⟨c,h⟩⟩
 | (n,k)::r,cs,h=>by
  by_cases hk:k = .free
  ·subst hk;obtain⟨c,hc⟩:=h (n,.free) nP rfl;obtain⟨cl,e,h1,h2,h3⟩:=Gq env r ((n,c)::cs) fun y hy=>h y (jK _ hy);refine⟨cl,?_,fun x d hd=>?_,fun y hy hf=>?_,fun x d hd=>?_⟩
   ·rw [List.forIn_cons];simp only [Hg,fW,cellOf,hc,pure_bind];exact e
   ·rcases h1 x d hd with q | q
    ·rw [HB]at q;split at q
     ·rename_i hx;have wJ:x=n:=by simpa using hx
      subst wJ;exact .inr (hc.trans q)
     ·exact .inl q
    ·exact .inr q
   ·rcases dN.mp hy with e' | e'
    ·subst e';exact h3 n c (by simp)
    ·exact h2 y e' hf
   ·by_cases hx:x=n
    ·subst hx;exact h3 x c (by simp)
    ·have hb:(x == n)=false:=by simpa using hx
     exact h3 x d (by rw [HB,hb];exact hd)
  ·obtain⟨cl,e,h1,h2,h3⟩:=Gq env r cs fun y hy=>h y (jK _ hy);have hb:(k == NameKind.free)=false:=by simpa using hk
   refine⟨cl,?_,h1,fun y hy hf=>?_,h3⟩
   ·rw [List.forIn_cons];simp only [hb,sO,jN,pure_bind];exact e
   ·rcases dN.mp hy with e' | e'
    ·subst e';exact absurd hf hk
    ·exact h2 y e' hf
theorem Gp{scope:Scope}{env:Env}(h:∀y∈scope.names,y.2 = .free→∃c,env.cells.lookup y.1=some c) :
  ∃cl,closureFor scope env=pure cl∧(∀x c,cl.lookup x=some c→env.cells.lookup x=some c)∧∀y∈scope.names,y.2 = .free→∃c,cl.lookup y.1=some c:=by
 obtain⟨cl,e,h1,h2,_⟩:=Gq env scope.names [] h;refine⟨cl,?_,fun x c hc=>(h1 x c hc).resolve_left (by simp),h2⟩;unfold closureFor;refine Eq.trans (congrArg (fun m=>m >>= fun cs=>pure cs) e) ?_;rfl
section
variable{prog:Program}{w:World}{A:Around}{R:Result→Shared→Prop}{s:Shared}
theorem Ww{elt target iter:Expr}{ifs:List Expr}{scope:Scope}{pos:Pos}{it acc:Value}{env:Env}(I:Nat→Shared→Prop)
  (turn:∀n s,I n s→wpAny (model prog w) A (pyNext it) (fun r s₁=>match r with
   | none=>R (.ok .next) s₁
   | some v=>wpAny (model prog w) A (letOwnedTupleGo target it v) (fun _ Na=>wpAny (model prog w) A (assign target env v) (fun _ s₂ =>
     wpAny (model prog w) A (forIn ifs true fun c r=>if r=true then do let ok ← isTrue c env (eval c env);pure (ForInStep.yield ok)else pure (ForInStep.yield r)) (fun ok s₃ =>
      if ok=true then wpAny (model prog w) A (eval elt env) (fun x s₄ =>
       wpAny (model prog w) A (call (.builtin "list.append") [acc,x]) (fun _ s₅=>∃m,m<n∧I m s₅) (fun _ _=>False) s₄) (fun _ _=>False) s₃
      else ∃m,m<n∧I m s₃) (fun _ _=>False) s₂) (fun _ _=>False) Na) (fun _ _=>False) s₁) (fun _ _=>False) s)
  (n:Nat) (h:I n s) :
  codeAny (model prog w) A (.compLoop (.ListComp elt [⟨target,iter,ifs,0⟩] scope pos) 0 it acc env) R s:=by
 refine codeAny_loop rfl I (fun n s hI=>?_) n h;show wpAny _ A ((compTurn (.ListComp elt [⟨target,iter,ifs,0⟩] scope pos) 0 it acc env).onRaise (fun x=>do noteFrame x env;theTreesLotGoes x)) _ _ s;refine wpAny_noted ?_;rw [compTurn_list];refine aZ (wpAny_standAt (aZ (kJ (turn n s hI) (fun r s₁ h₁=>?_) fun _ _ h'=>h'.elim)));cases r with
 | none=>exact dM h₁
 | some v =>
  refine aZ (kJ h₁ (fun _ Na h₁'=>?_) fun _ _ h'=>h'.elim);refine aZ (kJ h₁' (fun _ s₂ h₂=>aZ (kJ h₂ (fun ok s₃ h₃=>?_) fun _ _ h'=>h'.elim)) fun _ _ h'=>h'.elim);cases ok with
  | false=>exact dM ⟨rfl,h₃⟩
  | true =>
   exact aZ (aZ (kJ h₃ (fun x s₄ h₄=>aZ (kJ h₄ (fun _ s₅ h₅=>dM (dM ⟨rfl,h₅⟩)) fun _ _ h'=>h'.elim)) fun _ _ h'=>h'.elim))
end
def GV(X:Cx)(ifs:List Expr)(t:TT):Prop :=
 ∀(pins:List (Addr×Obj)) (s:Shared) (σ:St) (H:Hp) (Q:Bool→Hp→Prop),Inv X pins σ H s→t σ H Q →
  wpAny (model X.prog X.w) X.A (forIn ifs true fun c r=>if r=true then do let ok ← isTrue c X.env (eval c X.env);pure (ForInStep.yield ok)else pure (ForInStep.yield r)) (TP X pins σ Q) X.xe s
def acL:TT:=fun _ H Q=>Q true H
theorem akK{X:Cx}:GV X [] acL:=fun _ _ _ H _ I h=>wpAny_tests_nil ⟨H,I,h⟩
theorem akJ{X:Cx}{c:Expr}{t:TT}(h:PT X c t):GV X [c] t:=fun pins s σ H Q I q=>wpAny_tests_one (h pins s σ H Q I q)
def fT(X:Cx)(scope:Scope)(ls:List Str)(js:List Nat)(cl:List (Str×Addr))(C:Addr)(s:Shared)(H:Hp)(fp:List Addr):Cx :=
 { X with N:=ls++js.map (fun j=>X.N.getD j Str.empty),s₀:=s,H₀:=H,env:=compEnvC scope cl C X.env,outer:=X.stack,ex:=fp,fn:=fun _=>false,xe:=fun _ _=>False }
def uE(ls:List Str)(js:List Nat)(σ:St):St:=ls.map (fun _=>none)++js.map (fun j=>(σ[j]?).join)
def gk(env:Env)(n:Str)(k:NameKind):NameKind:=if(k == NameKind.free&&env.scope.kind == .function&&env.kindOf n == some .cell)=true then .cell else k
theorem Oj(env:Env)(names:List (Str×NameKind)):(names.map fun(n,k)=>if(k == NameKind.free&&env.scope.kind == .function&&env.kindOf n == some .cell)then(n,NameKind.cell)else(n,k))=names.map fun p=>(p.1,gk env p.1 p.2):=by
 refine NG fun p _=>?_;obtain⟨n,k⟩:=p;show(if(k == NameKind.free&&env.scope.kind == .function&&env.kindOf n == some .cell)=true then(n,NameKind.cell)else(n,k))=(n,gk env n k);unfold gk;split <;> rfl
theorem As(env:Env)(x:Str):∀names:List (Str×NameKind),(names.map fun p=>(p.1,gk env p.1 p.2)).lookup x=(names.lookup x).map (gk env x)
 | []=>rfl
 | (n,k)::r=>by
  rw [dH];cases hx:x == n with
  | true =>
   have e:x=n:=by simpa using hx
   subst e;rw [HB,HB];simp
  | false =>
   rw [HB,HB];simp only [hx];exact As env x r
theorem lookup_mem{x:Str}{k:NameKind}:∀{names:List (Str×NameKind)},names.lookup x=some k→(x,k)∈names
 | [],h=>by simp at h
 | (n,k')::r,h=>by
  rw [HB]at h;cases hx:x == n with
  | true =>
   have e:x=n:=by simpa using hx
   subst e;simp only [Hg]at h;cases h;exact List.mem_cons_self ..
  | false =>
   simp only [hx]at h;exact jK _ (lookup_mem h)
theorem EU{env:Env}{names:List (Str×NameKind)}{x:Str}(h:names.lookup x=some .free) :
  (names.map fun(n,k)=>if(k == NameKind.free&&env.scope.kind == .function&&env.kindOf n == some .cell)then(n,NameKind.cell)else(n,k)).lookup x=some .cell ∨
  (names.map fun(n,k)=>if(k == NameKind.free&&env.scope.kind == .function&&env.kindOf n == some .cell)then(n,NameKind.cell)else(n,k)).lookup x=some .free:=by
 rw [Oj,As,h];show some (gk env x .free)=some .cell∨some (gk env x .free)=some .free;unfold gk;split
 ·exact .inl rfl
 ·exact .inr rfl
theorem IV{env:Env}{names:List (Str×NameKind)}{x:Str}(hc:∀y∈names,y.2 ≠ .cell)
  (h:(names.map fun(n,k)=>if(k == NameKind.free&&env.scope.kind == .function&&env.kindOf n == some .cell)then(n,NameKind.cell)else(n,k)).lookup x=some .cell ∨
   (names.map fun(n,k)=>if(k == NameKind.free&&env.scope.kind == .function&&env.kindOf n == some .cell)then(n,NameKind.cell)else(n,k)).lookup x=some .free):(x,NameKind.free)∈names:=by
 rw [Oj,As]at h;cases e:names.lookup x with
 | none=>rw [e]at h;rcases h with h | h <;> cases h
 | some k =>
  have hm:=lookup_mem e
  by_cases hk:k = .free
  ·rw [hk]at hm;exact hm
  ·rw [e]at h;have hg:gk env x k=k:=by
    unfold gk;have hb:(k == NameKind.free)=false:=by simpa using hk
    rw [hb];rfl
   have h':gk env x k = .cell∨gk env x k = .free:=h.imp (fun z=>jJ z) fun z=>jJ z;rw [hg]at h'
   rcases h' with z | z
   ·exact absurd z (hc _ hm)
   ·exact absurd z hk
structure zK(X:Cx)(scope:Scope)(ls:List Str)(js:List Nat):Prop where
 kind:scope.kind = .function
 cell:∀y∈scope.names,y.2 ≠ .cell
 names:∀y∈scope.names,y.2 = .local→scope.names.lookup y.1=some .local
 free:∀y∈scope.names,y.2 = .free→X.env.kindOf y.1=some .cell∨X.env.kindOf y.1=some .free
 ME:∀j∈js,∃x,X.N[j]? = some x∧scope.names.lookup x=some .free
section
variable{X:Cx}{pins:List (Addr×Obj)}{σ:St}{H:Hp}{s:Shared}
theorem Rz{scope:Scope}{ls:List Str}{js:List Nat}{cl:List (Str×Addr)}{C:Addr}{fp:List Addr}(L:zK X scope ls js)(I:Inv X pins σ H s)
  (h1:∀x c,cl.lookup x=some c→X.env.cells.lookup x=some c) (h2:∀y∈scope.names,y.2 = .free→∃c,cl.lookup y.1=some c)
  {s':Shared} {H':Hp} (hC:s'.heap.objs.size≤C) (bs:∀b o,X.base.get? b=some o→s'.heap.get? b=some o∧H' b=none) (pN:X.base.objs.size≤s'.heap.objs.size)
  (nT:s'.heap.FunFrames X.base X.stack) (sG:∀b∈gJ X.stack,H' b=none)
  (CJ:∀b∈fp,b≠C∧∀x c,X.env.cells.lookup x=some c→c≠b) (uB:∀b o,X.base.get? b=some o→b∉fp) (yU:∀b∈fp,b∉gJ X.stack) :
  (fT X scope ls js cl C s' H' fp).Ok where
 mod:=I.ok.mod
 kind:=L.kind
 glob:=I.ok.glob
 blt:=I.ok.blt
 above:=hC
 inj:=fun x y c a b=>I.ok.inj x y c (h1 x c a) (h1 y c b)
 has:=fun x hx=>h2 (x,.free) (IV (env:=X.env) L.cell hx) rfl
 CP:=fun x c z=>by cases z
 hd:=I.ok.hd
 frames:=I.ok.frames
 rS := .inl rfl
 CJ:=fun b hb=>⟨(CJ b hb).1,fun x c e=>(CJ b hb).2 x c (h1 x c e)⟩
 bs:=bs
 pN:=pN
 uB:=uB
 yU:=yU
 nT:=nT
 sG:=sG
theorem Ry{ls:List Str}{js:List Nat}{i:Nat}{v:V}(h:(uE ls js σ)[i]? = some (some v)):∃k j,i=ls.length+k∧js[k]? = some j∧σ[j]? = some (some v):=by
 unfold uE at h
 by_cases hi:i<ls.length
 ·rw [jL (by simpa using hi),kG]at h;cases e:ls[i]? with
  | none=>rw [e]at h;cases h
  | some y=>rw [e]at h;cases h
 ·rw [sL (by simpa using Jb hi),kG,kQ]at h;cases e:js[i - ls.length]? with
  | none=>rw [e]at h;cases h
  | some j =>
   rw [e]at h;refine⟨i - ls.length,j,by omega,e,?_⟩;have h':(σ[j]?).join=some v:=jJ h;cases q:σ[j]? with
   | none=>rw [q]at h';cases h'
   | some o =>
    rw [q]at h';exact congrArg some h'
def LcR(ls:List Str)(js:List Nat)(g:TG)(tc:TT)(te:TE)(σ:St)(Q:VK)(J:It)(H1:Hp):Prop:=∀D,H1 D=none →
 ∃W:Nat→Nat→St→Hp→Prop,(∃m,W 0 m (uE ls js σ) (upd H1 D (.lst [])))∧∀i m σ' H',W i m σ' H' →
  (J.stop i H'∧Q (.ref D) H')∨(J.go i H'∧∃N:St→Hp→Prop,(∀σ2 H2,N σ2 H2→∃m',m'<m∧W (i+1) m' σ2 H2) ∧
   ∀x H2,J.xJ i H' x H2→g x σ' H2 fun σ3 H3=>tc σ3 H3 fun c H4=>if c=true then te σ3 H4 fun y H5=>∃ys,H5 D=some (.lst ys)∧ys.length<sizeLine∧N σ3 (upd H5 D (.lst (ys++[y])))else N σ3 H4)
def XY(ls:List Str)(js:List Nat)(wi:TI)(g:TG)(tc:TT)(te:TE):TE:=fun σ H Q=>wi σ H (LcR ls js g tc te σ Q)
theorem ak9{elt tg iter:Expr}{ifs:List Expr}{scope:Scope}{pos:Pos}{ls:List Str}{js:List Nat}{wi:TI}{g:TG}{tc:TT}{te:TE}(hc:X.calm=true)(L:zK X scope ls js)(hi:PI X tg iter wi)
  (hb:∀cl C s H fp,PG (fT X scope ls js cl C s H fp) tg g∧GV (fT X scope ls js cl C s H fp) ifs tc∧PE (fT X scope ls js cl C s H fp) elt te)
  (hs:∀x,foldedSetIterable iter X.env x=pure x:=by intro _;rfl):PE X (.ListComp elt [⟨tg,iter,ifs,0⟩] scope pos) (XY ls js wi g tc te):=by
 intro pins s σ H Q I h;obtain⟨cl,gG,kY,kM⟩:=Gp (scope:=scope) (env:=X.env) fun y hy hf=>I.ok.has y.1 (L.free y hy hf);rw [eval_ListComp];refine wpAny_comprehension_free (use:=none) rfl hs gG L.kind L.names (bG (hi pins s σ H _ I h) fun v s1 h1=>bG h1 fun QU s2 h2=>?_);obtain⟨it,fp,tn,J,H1,e,I2,T,mE,f2,h2⟩:=h2;subst e;refine vG (Ld L.cell (by intro y hy;simp at hy) (fun h₁ BN BK=>?_) L.kind);dsimp only at BN BK ⊢;generalize BZ:s2.heap.push { cls := .type "list",dict:=none,data := .seq ([]:List Value).toArray }=G2 at BN BK ⊢;have RD:G2.objs.size=s2.heap.objs.size+1:=by rw [← BZ,tV]
 have LF:H1 s2.heap.objs.size=none:=I2.aH.fresh cJ;have Eh:H1 G2.objs.size=none:=I2.aH.fresh (by omega);have Ef:s2.heap.objs.size≠G2.objs.size:=by omega
 have Ee:G2.get? s2.heap.objs.size=some { cls := .type "list",dict:=none,data := .seq ([]:List Value).toArray }:=by rw [← BZ];exact kH _ rfl
 have BF:∀b o,s2.heap.get? b=some o→G2.get? b=some o:=fun b o e=>by rw [← BZ];exact eL _ e
 have I3:Inv X pins σ (upd H1 s2.heap.objs.size (.lst [])) { s2 with heap:=G2,toks:=s2.toks } :=
  I2.laid (t':=s2.toks) BF cJ (show gY X.prog X.w _ G2 _ (.lst [])from⟨by simp,[],0,.nil,Ee⟩)
 have BG:∀b o,G2.get? b=some o→h₁.get? b=some o:=fun b o e=>(BK.2 b (iE (dA e))).trans (eL _ e);have I4:Inv X pins σ (upd H1 s2.heap.objs.size (.lst [])) { s2 with heap:=h₁,toks:=s2.toks+0 }:=I3.kept (h':=h₁) (t':=s2.toks+0) BG;generalize hT:(H1,(⟨tg,iter,ifs,0⟩:Comprehension))=Cn;clear hT Cn;have CH:∀b∈fp,b<s2.heap.objs.size:=fun b hb=>by
  obtain⟨o,e,_⟩:=T.obj 0 _ mE b hb;exact dA e
 have fpD:s2.heap.objs.size∉fp:=fun z=>Nat.lt_irrefl _ (CH _ z);have LQ:∀b∈fp,b≠G2.objs.size:=fun b hb=>iE (by rw [RD];exact Ja (CH b hb));have Ab:(fT X scope ls js cl G2.objs.size { s2 with heap:=G2 } (upd H1 s2.heap.objs.size (.lst [])) fp).Ok:=by
  refine Rz L I3 kY kM cJ I3.bs (qE I3.ok.pN I3.sz) I3.stack I3.OW (fun b hb=>⟨LQ b hb,(f2 b hb).2.2.2.2.1⟩) (fun b o e hb=>?_) (fun b hb z=>?_)
  ·rcases(f2 b hb).2.2.2.1 with q | q
   ·exact I2.ok.uB b o e q
   ·exact absurd (kE (dA (I2.ok.bs b o e).1) q) (Nat.lt_irrefl _)
  ·rcases dN.mp (I3.xV b z)with q | q
   ·exact(f2 b hb).2.1 q
   ·exact(f2 b hb).2.2.1 q
 have IC:Inv (fT X scope ls js cl G2.objs.size { s2 with heap:=G2 } (upd H1 s2.heap.objs.size (.lst [])) fp) [] (uE ls js σ) (upd H1 s2.heap.objs.size (.lst [])) { s2 with heap:=h₁,toks:=s2.toks+0 }:=by
  refine⟨Ab,rfl,I4.bare,Un.kept BG,⟨_,BN,fun i x v e1 e2 e3=>?_⟩,fun x c e=>I4.cell x c (kY x c e),?_,fun x c e=>I4.mJ x c (kY x c e),fun p hp=>?_,I4.aH,?_⟩
  ·obtain⟨k,j,pK,hj,hσ⟩:=Ry e2;obtain⟨y,hy,BH⟩:=L.ME j (nH hj);have Ct:x=y:=by
    have qZ:(ls++js.map (fun j=>X.N.getD j Str.empty))[i]? = some x:=e1;rw [pK,sL (Nat.le_add_right ..),Nat.add_sub_cancel_left,kG,hj]at qZ;have LY:X.N.getD j Str.empty=x:=jJ qZ;rw [← LY,List.getD_eq_getElem?_getD,hy];rfl
   subst Ct;have KH:X.env.kindOf x=some .cell∨X.env.kindOf x=some .free:=by
    have hm:(x,NameKind.free)∈scope.names:=by
     have q:=IV (env:=X.env) L.cell (EU (env:=X.env) BH);exact q
    exact L.free _ hm rfl
   obtain⟨m,hn,hl⟩:=I4.loc;obtain⟨u,r,l⟩:=hl j x v hy hσ (KH.elim (fun z => .inr (.inl z)) fun z => .inr (.inr z));refine⟨u,r,.inr ⟨EU (env:=X.env) BH,?_⟩⟩
   rcases l with⟨kl,_⟩ | ⟨_,c,oR,z⟩
   ·rcases KH with q | q
    ·rw [q]at kl;cases kl
    ·rw [q]at kl;cases kl
   ·have hm:(x,NameKind.free)∈scope.names:=IV (env:=X.env) L.cell (EU (env:=X.env) BH);obtain⟨c',KY⟩:=kM _ hm rfl;have:=kY _ _ KY;rw [oR]at this;cases this;exact⟨c,KY,z⟩
  ·show upd H1 s2.heap.objs.size (.lst []) G2.objs.size=none;rw [bP (cQ Ef)];exact Eh
  ·have tI:p∈X.pn:=by simpa [fT]using hp
   obtain⟨e,n,ne,nf,d⟩:=I4.pin p (xB _ tI);obtain⟨e3,_⟩:=I3.pin p (xB _ tI);refine⟨e,n,?_,fun z=>?_,d⟩
   ·exact iE (dA e3)
   ·rcases dN.mp (I3.xV p.1 z)with q | q
    ·exact ne q
    ·exact nf q
  ·simp [uE,fT]
 obtain⟨KZ,Dw,Dx⟩:=hb cl G2.objs.size { s2 with heap:=G2 } (upd H1 s2.heap.objs.size (.lst [])) fp;obtain⟨W,⟨m0,w0⟩,turn⟩:=h2 s2.heap.objs.size LF;have IF:tn 0 h₁:=T.keep _ _ _ mE fun b hb o e=>BG b o (BF b o e);have dU:∀{H':Hp},(∀b∈fp,H' b=none)→∀b∈fp,mP (fT X scope ls js cl G2.objs.size { s2 with heap:=G2 } (upd H1 s2.heap.objs.size (.lst [])) fp) [] H' b:=fun hn b hb=>by
  refine⟨hn b hb,LQ b hb,fun z=>?_,.inl hb,fun x c e=>(f2 b hb).2.2.2.2.1 x c (kY x c e),fun p hp=>?_⟩
  ·rcases dN.mp (I3.xV b z)with q | q
   ·exact(f2 b hb).2.1 q
   ·exact(f2 b hb).2.2.1 q
  ·have tI:p∈X.pn:=by simpa [fT]using hp
   exact(f2 b hb).2.2.2.2.2 p (xB _ tI)
 have Fv:∀b∈fp,(upd H1 s2.heap.objs.size (.lst [])) b=none:=fun b hb=>by
  rw [bP (show b≠s2.heap.objs.size from iE (CH b hb))];exact(f2 b hb).1
 have loop:∀s4:Shared,s4 = { s2 with heap:=h₁,toks:=s2.toks+0 } →
   codeAny (model X.prog X.w) X.A (.compLoop (.ListComp elt [⟨tg,iter,ifs,0⟩] scope pos) 0 (.ref it) (.ref s2.heap.objs.size) (compEnvC scope cl G2.objs.size X.env))
    (compPost (model X.prog X.w) X.A X.xe none (EP X pins σ Q) (.ref s2.heap.objs.size) G2.objs.size) s4:=by
  rintro s4 rfl;refine Ww (fun n s'=>∃i σ' H',Inv (fT X scope ls js cl G2.objs.size { s2 with heap:=G2 } (upd H1 s2.heap.objs.size (.lst [])) fp) [] σ' H' s'∧tn i s'.heap∧(∀b∈fp,H' b=none)∧W i n σ' H') ?_ m0 ⟨0,_,_,IC,IF,Fv,w0⟩;rintro n s5 ⟨i,σ5,H5,I5,vO,CG,w5⟩
  rcases turn i n σ5 H5 w5 with⟨stop,qn⟩ | ⟨go,N,hN,step⟩
  ·refine bG (T.done (fT X scope ls js cl G2.objs.size { s2 with heap:=G2 } (upd H1 s2.heap.objs.size (.lst [])) fp) rfl rfl rfl hc i [] s5 σ5 H5 _ I5 (dU CG) vO stop) fun r s6 ⟨hr,I6⟩=>?_;subst hr;obtain⟨m6,De,_⟩:=I6.loc;refine⟨m6,De,fun h' tG=>⟨.ref s2.heap.objs.size,H5,?_,rfl,qn⟩⟩;have XA:Un (gJ X.stack) fp (upd H1 s2.heap.objs.size (.lst [])) H5 G2 s6.heap:=I6.base;have XB:Un (gJ X.stack) fp H1 (upd H1 s2.heap.objs.size (.lst [])) s2.heap G2:=Un.laid BF cJ LF;have un:=XB.trans XA;have yG:∀b o,s2.heap.get? b=some o→b≠G2.objs.size:=fun b o e=>iE (by rw [RD];exact Ja (dA e));have XD:Un (gJ X.stack) fp H1 H5 s2.heap h':=⟨fun b o e n a x=>(tG.2 b (yG b o e)).trans (un.keep b o e n a x),fun b o e n a x=>by
    obtain⟨sl,q⟩:=un.slot b o e n a x;exact⟨sl,(tG.2 b (yG b o e)).trans q⟩,un.free,fun b o e x=>by
    obtain⟨o',q⟩:=un.there b o e x;exact⟨o',(tG.2 b (yG b o e)).trans q⟩,un.mT,un.lD,un.mB⟩
   have FH:eY X.prog X.w H5 h':=fun b o e=>by
    refine(I6.aH b o e).mD (fun c u oR q=>(tG.2 c ?_).trans q) (fun _ q=>q) fun _ _ q=>q;have tJ:H5 G2.objs.size=none:=I6.free;rintro rfl
    rcases oR with z | z
    ·subst z;rw [tJ]at e;cases e
    ·rw [tJ]at z;cases z
   refine I2.GI (s':={ s6 with heap:=h' }) (ch:=fp) ?_ XD FH I6.bare fun b hb=>⟨(f2 b hb).2.2.2.1,(f2 b hb).2.1,(f2 b hb).2.2.2.2.1,(f2 b hb).2.2.2.2.2⟩
   exact I6.os
  ·refine bG (T.item (fT X scope ls js cl G2.objs.size { s2 with heap:=G2 } (upd H1 s2.heap.objs.size (.lst [])) fp) rfl rfl rfl hc i [] s5 σ5 H5 _ I5 (dU CG) vO go) fun r s6 ⟨u,hr,h6⟩=>?_;subst hr;refine bG h6 fun _ s7 ⟨x,H7,I7,r7,y7,AE,Fu⟩=>?_;have Jx:=I7.pinned (dU Fu) (T.obj _ _ AE);refine bG (KZ _ s7 σ5 H7 x u _ Jx r7 (step x H7 y7)) fun _ s8 ⟨σ8,H8,I8,q8⟩=>?_;refine bG (Dw _ s8 σ8 H8 _ I8 q8) fun ok s9 ⟨H9,I9,q9⟩=>?_;have again:∀{σa:St} {Ha:Hp} {sa:Shared},Inv (fT X scope ls js cl G2.objs.size { s2 with heap:=G2 } (upd H1 s2.heap.objs.size (.lst [])) fp) ([]++EO fp s7.heap) σa Ha sa→N σa Ha →
     ∃m,m<n∧∃i σ' H',Inv (fT X scope ls js cl G2.objs.size { s2 with heap:=G2 } (upd H1 s2.heap.objs.size (.lst [])) fp) [] σ' H' sa∧tn i sa.heap∧(∀b∈fp,H' b=none)∧W i m σ' H':=fun{σa Ha sa} Ia na=>by
    obtain⟨m',hm,wa⟩:=hN σa Ha na;refine⟨m',hm,i+1,σa,Ha,Ia.DY,T.keep _ _ _ AE fun b hb o e=>(Ia.pin (b,o) (mO _ (mO _ (AX hb e)))).1,fun b hb=>?_,wa⟩;obtain⟨o,e,d⟩:=T.obj _ _ AE b hb;exact(Ia.pin (b,o) (mO _ (mO _ (AX hb e)))).2.1
   cases ok with
   | false=>exact again I9 q9
   | true =>
    refine bG (Dx _ s9 σ8 H9 _ I9 q9) fun y ZM ⟨z,H10,NM,ZT,ys,hD,iT,nn⟩=>?_;obtain⟨zz,aQ,k,r,hl,e⟩:=NM.yI hD;refine call_meets F.slot_list_append ⟨_,e,rfl⟩ F.entry_list_append (aaC _ _) (PySem.list_append s2.heap.objs.size aQ.toArray k y (by rw [iM];omega)) ⟨e,?_⟩;refine again (NM.JK (its':=aQ++[y]) (t':=ZM.toks) hD e ?_ (r.append (.cons ZT .nil)) ?_) nn
    ·simp
    ·simp;omega
 exact codeAny_compStart_list (loop _ rfl) (T.self _ 0 _ _ _ IF (loop _ rfl))
end
section
variable{X:Cx}
theorem avY(hc:X.calm=true):nJ X (.builtin "sum") (fun xs H Q=>∃(a:Addr) (ns:List Int),xs=[.ref a]∧dG X.K H a (ns.map V.int)∧Q (.int ns.sum) H):=by
 intro pins s σ H xs us Q I r h;obtain⟨a,ns,rfl,hq,q⟩:=h;obtain⟨u,rfl,ru⟩:=vals1 r;cases ru;obtain⟨aQ,rv,pl,hz⟩:=I.list hq;have hi:IntsAre aQ ns:=intsAre_of rv;obtain⟨xs,Sr⟩:=hi.allInts.items;have hl:s.heap.IsList a (intItems xs):=Sr ▸ pl.isList;refine sum_intListG (I.ok.hd hc) hl fun h' tk t' hk=>?_;have e:preSum (numAt xs) xs.size=ns.sum:=by
  rw [preSum_eq,NF (by simp),← nums_intItems,← Sr,show aQ.toArray.toList=aQ from rfl,hi.numsOf]
 exact⟨.int ns.sum,H,I.kept (t':=tk) hk,⟨t',by rw [e]⟩,q⟩
theorem av5:nJ X (.builtin "isinstance") (fun xs H Q=>∃x n t b,xs=[x,.ty n]∧qA X.K H x t∧kitOne X.K t (.type n)=some b∧Q (.bl b) H):=by
 intro pins s σ H xs us Q I r h;obtain⟨x,n,t,b,rfl,ty,e,q⟩:=h;obtain⟨u,v,rfl,rx,ry⟩:=vals2 r;cases ry;exact apM I rx ty e fun tk=>⟨.bl b,H,I.tok tk,rfl,q⟩
end
inductive Dt where
 | int (i:Int) | bl (b:Bool) | str (x:Str) | bR | tup (ds:List Dt) | lst (ds:List Dt)
def Den(K:Frag)(H:Hp):Nat→V→Dt→Prop
 | _,v,.int j=>v = .int j
 | _,v,.bl b=>v = .bl b
 | _,v,.str x=>v = .str x
 | _,v,.bR=>v = .bR
 | 0,_,.tup _=>False
 | 0,_,.lst _=>False
 | n+1,v,.tup ds=>∃a xs,v = .ref a∧gA K H a xs∧Paired (Den K H n) xs ds
 | n+1,v,.lst ds=>∃a xs,v = .ref a∧dG K H a xs∧Paired (Den K H n) xs ds
theorem jB.PD{K:Frag}{H H':Hp}{a:Addr}{xs:List V}(e:jB H H')(h:gA K H a xs):gA K H' a xs:=by
 rcases h with(h | ⟨o,h⟩) | h
 ·exact .inl (.inl (e _ _ h))
 ·exact .inl (.inr ⟨o,e _ _ h⟩)
 ·exact .inr h
theorem Den.same{K:Frag}{H H':Hp}(e:jB H H'):∀{n:Nat} {v:V} {d:Dt},Den K H n v d→Den K H' n v d:=by
 intro n
 induction n with
 | zero=>intro v d h;cases d <;> first | exact h | exact h.elim
 | succ n ih =>
  intro v d h;cases d with
  | tup ds =>
   obtain⟨a,xs,h1,h2,h3⟩:=h;exact⟨a,xs,h1,e.PD h2,Paired.AY h3 fun _ _ q=>ih q⟩
  | lst ds =>
   obtain⟨a,xs,h1,h2,h3⟩:=h;exact⟨a,xs,h1,e.seq h2,Paired.AY h3 fun _ _ q=>ih q⟩
  | int i=>exact h
  | bl b=>exact h
  | str x=>exact h
  | bR=>exact h
theorem Paired.get{α β:Type}{F:α→β→Prop}:∀{l₁:List α} {l₂:List β} {i:Nat} {a:α},Paired F l₁ l₂→l₁[i]? = some a→∃b,l₂[i]? = some b∧F a b
 | _,_,_,_,.nil,e=>by simp at e
 | _,_,0,_,.cons r _,e=>by simp at e;subst e;exact⟨_,rfl,r⟩
 | _,_,i+1,x,.cons _ t,e=>by
  obtain⟨u,h1,h2⟩:=Paired.get (i:=i) (a:=x) t (by simpa using e);exact⟨u,by simpa using h1,h2⟩
structure HasFn(K:Frag)(mg:Str→Option Value)(x:Str)(st:Stmt):Prop where
 ex:∃f fd,mg x=some (.ref f)∧qF K x x st f fd
theorem jU{K:Frag}{h:Heap}{mg:Str→Option Value}{x:Str}{st:Stmt}{f:Addr}{oc:Value}{od an:Option Addr}{gD:Array (Option Value)}{kV doc pm aU ct:Value}(X:K.In h)(G:h.Ns mainGlobals mg)
  (a:nsIn K mainGlobals x=some (some (.ref f))) (l:K.lookup f=some ⟨oc,od,.func (fnOf x x (iV st) (dX st) (aX st) .none kV doc pm an aU ct),gD⟩)
  (c:codeIn K aU x=true) (k:keepIn K (.ref f)=true):HasFn K mg x st:=⟨⟨f,_,mg_of X G a,RM l c k⟩⟩
structure Def(P:Program)(w:World)(K:Frag)(mg:Str→Option Value)(base:Heap)(x:Str)(k:Nat)(ps:List Str)(sp:Sp):Prop where
 ex:∃f fd,iG P w K mg base nZ k f fd ps sp∧mg x=some (.ref f)∧keepIn K (.ref f)=true∧Binds K fd ps []
theorem alK{X:Cx}{k:Nat}{x:Str}{ps:List Str}{sp:Sp}{e:Expr}{es:List Expr}{t:TA}{p pos:Pos}(D:Def X.prog X.w X.K X.mg X.base x k ps sp)(hr:cH k X.A)(hg:Gl X x)(ha:PA X (e::es) t)
  (gW:(x == ("__debug__" : Str))=false:=by decide) (he:starEach (e::es) X.env=(false,eval e X.env)::starEach es X.env:=by rfl) (fJ:(backTo pos (starEach es X.env)).any (·.1)=false:=by rfl) :
  PE X (.Call (.Name x p) (e::es) [] pos) (My sp [] E0 t):=by
 obtain⟨f,fd,F,hm,hk,hb⟩:=D.ex;exact alP F hr hg hm hk hb .nil Px ha gW he fJ
theorem Def.of{P:Program}{w:World}{K:Frag}{mg:Str→Option Value}{base:Heap}{x:Str}{st:Stmt}{N ps:List Str}{k:Nat}{sp:Sp}(h:HasFn K mg x st)(S:dJ N ps (aX st))
  (bind:∀(kV doc pm:Value) (an:Option Addr) (aU ct:Value) (us:List Value),us.length=ps.length→bindArgs (fnOf x x (iV st) (dX st) (aX st) .none kV doc pm an aU ct) ⟨us,[]⟩=pure (ps.zip us))
  (len:∀vs H Q E,sp vs H Q E→vs.length=ps.length)
  (gH:∀(f:Addr) (aU:Value) (A:Around) (outer:List Env) (s:Shared) (H:Hp) (vs:List V) (Q:VK) (E:XK),cH k (A.deeper (envOfC x (aX st) s.heap.objs.size f aU))→sp vs H Q E →
   ∃t,lT (mK nZ P w K mg base N x (aX st) f aU A outer s H E).qT (dX st) t∧t { nx:=fun _ H'=>Q .bR H',rt:=Q } (start N vs) H):Def P w K mg base x (k+1) ps sp:=by
 obtain⟨f,fd,hm,F⟩:=h.ex;exact⟨f,fd,F.ok S len (gH f),hm,F.kp,F.binds bind⟩
theorem jB.new{H:Hp}{p:Addr}{o:HO}(h:H p=none):jB H (upd H p o):=fun b u e=>by rw [bP (gT e h)];exact e
def Kept(l:Addr)(H H':Hp):Prop:=∀b o,b≠l→H b=some o→H' b=some o
theorem Kept.upd(l:Addr)(H:Hp)(o:HO):Kept l H (upd H l o):=fun b u hb e=>by rw [bP hb];exact e
theorem jB.kept{l:Addr}{H H':Hp}(h:jB H H'):Kept l H H':=fun b o _ e=>h b o e
theorem Kept.trans{l:Addr}{H H1 H2:Hp}(a:Kept l H H1)(b:Kept l H1 H2):Kept l H H2:=fun c o hc e=>b c o hc (a c o hc e)
theorem Kept.PD{K:Frag}{l:Addr}{H H':Hp}{a:Addr}{xs ys:List V}(e:Kept l H H')(hl:H l=some (.lst ys))(h:gA K H a xs):gA K H' a xs:=by
 rcases h with(h | ⟨o,h⟩) | h
 ·exact .inl (.inl (e _ _ (AV h hl (by intro z;cases z)) h))
 ·exact .inl (.inr ⟨o,e _ _ (AV h hl (by intro z;cases z)) h⟩)
 ·exact .inr h
def DD(K:Frag)(H:Hp)(v:V)(ns:List Int):Prop:=∃p,v = .ref p∧gA K H p (ns.map V.int)
theorem DD.same{K:Frag}{H H':Hp}{v:V}{ns:List Int}(e:jB H H')(h:DD K H v ns):DD K H' v ns:=let ⟨p,a,b⟩:=h; ⟨p,a,e.PD b⟩
theorem DD.kept{K:Frag}{l:Addr}{H H':Hp}{v:V}{ns:List Int}{ys:List V}(e:Kept l H H')(hl:H l=some (.lst ys))(h:DD K H v ns):DD K H' v ns:=let ⟨p,a,b⟩:=h; ⟨p,a,e.PD hl b⟩
def Rows(K:Frag)(H:Hp)(xs:List V)(rs:List (List Int)):Prop:=Paired (DD K H) xs rs
theorem Rows.same{K:Frag}{H H':Hp}{xs:List V}{rs:List (List Int)}(e:jB H H')(h:Rows K H xs rs):Rows K H' xs rs:=Paired.AY h fun _ _ q=>q.same e
theorem Rows.kept{K:Frag}{l:Addr}{H H':Hp}{xs ys:List V}{rs:List (List Int)}(e:Kept l H H')(hl:H l=some (.lst ys))(h:Rows K H xs rs):Rows K H' xs rs:=Paired.AY h fun _ _ q=>q.kept e hl
def aw3(h₀ h:Heap)(H:Hp)(x:Addr)(vs:Array Value):Prop :=
 ∃T oT ts,vs[1]? = some (.ref T)∧T≠x∧h₀.get? T=none∧H T=none∧h.get? T=some oT∧oT.data = .fields ts∧3<ts.size
def lU(h₀ h:Heap)(H:Hp)(x:Addr)(cls:Value)(dx:Option Addr)(tb:Bool):Prop :=
 h₀.get? x=none∧H x=none∧∃oe vs,h.get? x=some oe∧oe.cls=cls∧oe.dict=dx∧oe.data = .fields vs∧1<vs.size∧((tb=false∧vs[1]? = some .none)∨aw3 h₀ h H x vs)
theorem lU.any{h₀ h:Heap}{H:Hp}{x:Addr}{cls:Value}{dx:Option Addr}{tb:Bool}(e:lU h₀ h H x cls dx tb):lU h₀ h H x cls dx false:=by
 obtain⟨a,b,oe,vs,c1,c2,c3,c4,c5,c6⟩:=e;exact⟨a,b,oe,vs,c1,c2,c3,c4,c5,c6.imp (fun z=>⟨rfl,z.2⟩) id⟩
structure qB(X:Cx):Prop where
 rS:X.stack=X.env::X.outer
 LP:X.env.frame=some X.env.locals
 pn:X.pn=[]
theorem qB.mem{X:Cx}(t:qB X){b:Addr}:b∈gJ X.stack↔b=X.env.locals∨b∈X.fs:=by
 rw [t.rS];unfold gJ;rw [UN,t.LP];exact dN
section
variable{X:Cx}{σ:St}{H:Hp}{s:Shared}
theorem Inv.ZR{h':Heap}{ch:List Addr}(I:Inv X [] σ H s)(t:qB X)(pL:∀b∈ch,X.s₀.heap.get? b=none∧H b=none∧∃o vs,s.heap.get? b=some o∧o.data = .fields vs)
  (keep:∀b o,b∉gJ X.stack→b∉ch→s.heap.get? b=some o→h'.get? b=some o) (slot:∀b o,b∈gJ X.stack→s.heap.get? b=some o→∃sl,h'.get? b=some { o with slots:=sl }) :
  Inv X [] σ H { s with heap:=h' }:=by
 have anH:∀c v,s.heap.IsCell c v→c∉ch:=fun c v ⟨o,ho,hd⟩ hc=>by
  obtain⟨_,_,o',vs,e,d⟩:=pL c hc;rw [ho]at e;cases e;rw [hd]at d;cases d
 have any:∀b o,b∉ch→s.heap.get? b=some o→∃sl,h'.get? b=some { o with slots:=sl }:=fun b o hc e=>by
  by_cases hb:b∈gJ X.stack
  ·exact slot b o hb e
  ·exact⟨o.slots,keep b o hb hc e⟩
 have cellK:∀c v,s.heap.IsCell c v→h'.IsCell c v:=fun c v z=>by
  obtain⟨o,ho,hd⟩:=id z;obtain⟨sl,e⟩:=any c o (anH c v z) ho;exact⟨_,e,hd⟩
 have old:∀b o,X.s₀.heap.get? b=some o→b≠X.env.locals∧b∉ch:=fun b o e =>
  ⟨iE (kE (dA e) I.ok.above),fun hc=>by rw [(pL b hc).1]at e;cases e⟩
 have nfr:∀b,b≠X.env.locals→b∉X.fs→b∉gJ X.stack:=fun b h1 h2 z=>(t.mem.mp z).elim h1 h2;refine⟨I.ok,I.os,I.bare,⟨fun b o e n hb hx=>?_,fun b o e n hb hx=>?_,I.base.free,fun b o e hx=>?_,I.base.mT,I.base.lD,I.base.mB⟩,?_,fun x c e=>?_,I.free,I.mJ,fun p hp=>?_,fun b u e=>?_,I.len⟩
 ·exact keep b o (nfr b (old b o e).1 hb) (old b o e).2 (I.base.keep b o e n hb hx)
 ·obtain⟨sl,e1⟩:=I.base.slot b o e n hb hx;obtain⟨IH,e2⟩:=any b _ (old b o e).2 e1;exact⟨IH,e2⟩
 ·obtain⟨o',e1⟩:=I.base.there b o e hx;obtain⟨sl,e2⟩:=any b o' (old b o e).2 e1;exact⟨_,e2⟩
 ·obtain⟨m,hn,hl⟩:=I.loc;obtain⟨o,es,ep,ho,hd,r⟩:=id hn;have hLc:X.env.locals∉ch:=fun hc=>by
   obtain⟨_,_,o',vs,e,d⟩:=pL _ hc;rw [ho]at e;cases e;rw [hd]at d;cases d
  obtain⟨sl,e⟩:=any _ o hLc ho;refine⟨m,⟨_,es,ep,e,hd,r⟩,fun i x v e1 e2 e3=>?_⟩;obtain⟨u,ru,l⟩:=hl i x v e1 e2 e3;refine⟨u,ru,?_⟩
  rcases l with l | ⟨k,c,ec,z⟩
  ·exact .inl l
  ·exact .inr ⟨k,c,ec,cellK c _ z⟩
 ·obtain⟨v,z⟩:=I.cell x c e;exact⟨v,cellK c v z⟩
 ·rw [t.pn]at hp;simp at hp
 ·refine(I.aH b u e).mD (fun c v hc q=>keep c v ?_ ?_ q) (fun _ q=>q) fun _ _ q=>q
  ·intro z;have f:=I.OW c z
   rcases hc with y | y
   ·rw [y,e]at f;cases f
   ·rw [y]at f;cases f
  ·intro z;have f:=(pL c z).2.1
   rcases hc with y | y
   ·rw [y,e]at f;cases f
   ·rw [y]at f;cases f
variable{M:Model}{E:Value→Shared→Prop}{x:Addr}{cls:Value}{dx:Option Addr}
theorem lU.QL(I:Inv X [] σ H s){b:Addr}{o:Obj}{vs:Array Value}(e:s.heap.get? b=some o)(d:o.data = .fields vs):b∉gJ X.stack:=fun hm=>by
 obtain⟨_,o',ho,hnf⟩:=I.stack.mem hm;rw [e]at ho;cases ho;exact hnf vs d
theorem Wa(I:Inv X [] σ H s)(t:qB X){oe:Obj}{vs:Array Value}{head:Value}{had:Bool}{Q:Unit→Shared→Prop}(wI:X.s₀.heap.get? x=none)(tF:H x=none)(he:s.heap.get? x=some oe)(hd:oe.data = .fields vs)(hsz:1<vs.size)
  (q:∀h',Inv X [] σ H { s with heap:=h' }→lU X.s₀.heap h' H x oe.cls oe.dict true→Q () { s with heap:=h' }) :
  wpAny M X.A (do let a ← frameOf X.env;let pl ← entryPlaceOf X.env.locals had;let b ← EntryCells.newEntry head a .none (rawInt X.env.locals) .none pl;setField (.ref x) 1 b) Q E s:=by
 have hfr:X.A.frames=some (X.env::X.outer):=by rw [← t.rS];exact I.ok.frames
 have hl:s.heap.FunFrames X.base (X.env::X.outer):=by rw [← t.rS];exact I.stack
 have eW:x∉gJ X.stack:=lU.QL I he hd;have efr:(X.env::X.outer).filterMap (·.frame)=gJ X.stack:=by rw [t.rS];rfl
 refine aZ (wpAny_frameOf_fun hfr hl t.LP fun h1 s1=>aZ (wpAny_entryPlaceOf fun pl fJ=>?_));rw [efr]at s1;unfold EntryCells.newEntry;unfold newFields;refine aZ (vG ?_ (fJ.sizeOk5 _ _ _ _ _));have Tz:h1.get? x=some oe:=(s1.2.1 x eW).trans he;generalize Su:({ cls := .type "traceback",dict:=none,data := .fields ([head,.ref X.env.locals,.none,rawInt X.env.locals,.none]++(if pl.isEmpty then List.replicate 6 Value.none else pl)).toArray }:Obj)=to;have hte:∃ts,to.data = .fields ts∧3<ts.size:=⟨_,by rw [← Su],by simp only [iM,kF,gO,xC];omega⟩;have htf:to.isFreed=false:=by rw [← Su];rfl
 have Tx:(h1.push to).get? x=some oe:=eL _ Tz;have wQ:h1.objs.size≠x:=CY (dA Tz);refine wpAny_setField Tx hd hsz ?_;have KW:=Obj.data_mapFields hd (·.setIfInBounds 1 (Value.ref h1.objs.size));have he3:=Zy (Obj.mapFields (·.setIfInBounds 1 (Value.ref h1.objs.size))) Tx (Obj.isFreed_of_fields KW);have hT3:=(DF (h1.push to) (Obj.mapFields (·.setIfInBounds 1 (Value.ref h1.objs.size))) (cQ wQ)).trans (kH h1 htf);have kp:∀b o,b≠x→h1.get? b=some o→((h1.push to).update x (Obj.mapFields (·.setIfInBounds 1 (Value.ref h1.objs.size)))).get? b=some o:=fun b o hb e =>
  (DF _ _ (cQ hb)).trans (eL _ e)
 have yP:X.s₀.heap.get? h1.objs.size=none:=by
  cases e:X.s₀.heap.get? h1.objs.size with
  | none=>rfl
  | some o =>
   have h2:=kE (dA e) I.sz;rw [s1.1]at h2;exact absurd h2 (Nat.lt_irrefl _)
 have yO:H h1.objs.size=none:=by rw [s1.1];exact I.aH.fresh cJ
 refine q _ (I.ZR t (ch:=[x]) (fun b hb=>?_) (fun b o hb hc e=>?_) fun b o hb e=>?_) ⟨wI,tF,_,_,he3,Obj.cls_mapFields _ _,?_,KW,by simpa using hsz,.inr ⟨h1.objs.size,to,?_⟩⟩
 ·rw [tT.mp hb];exact⟨wI,tF,oe,vs,he,hd⟩
 ·exact kp b o (fun z=>hc (by rw [z];exact tT.mpr rfl)) ((s1.2.1 b hb).trans e)
 ·obtain⟨sl,e1⟩:=s1.2.2 b o e;exact⟨sl,kp b _ (fun z=>eW (z ▸ hb)) e1⟩
 ·obtain⟨c,d,dt,sl⟩:=oe;cases dt <;> rfl
 ·obtain⟨ts,d1,d2⟩:=hte;exact⟨ts,by simp [hsz],wQ,yP,yO,hT3,d1,d2⟩
theorem Qn(I:Inv X [] σ H s)(t:qB X){tb:Bool}{Q:Unit→Shared→Prop}(e:lU X.s₀.heap s.heap H x cls dx tb)
  (q:∀h',Inv X [] σ H { s with heap:=h' }→lU X.s₀.heap h' H x cls dx true→Q () { s with heap:=h' }):wpAny M X.A (noteFrame (.ref x) X.env) Q E s:=by
 obtain⟨wI,tF,oe,vs,he,rfl,rfl,hd,hsz,HZ⟩:=id e;unfold noteFrame;simp only [t.LP]
 rcases HZ with⟨_,h1⟩ | ⟨T,oT,ts,h1,wQ,yP,yO,hT,tK,h3⟩
 ·refine aZ (qK he hd h1 ?_);rw [if_neg (by decide)];exact Wa I t wI tF he hd hsz q
 ·refine aZ (qK he hd h1 ?_);rw [if_pos (show(Value.ref T != Value.none)=true from by simp)];obtain⟨v3,hv3⟩:∃v3,ts[3]? = some v3:=⟨ts[3],Array.getElem?_eq_getElem h3⟩;refine aZ (qK hT tK hv3 ?_)
  by_cases hb:(v3 == rawInt X.env.locals)=true
  ·rw [if_pos hb];exact dM (q s.heap I ⟨wI,tF,oe,vs,he,rfl,rfl,hd,hsz,.inr ⟨T,oT,ts,h1,wQ,yP,yO,hT,tK,h3⟩⟩)
  ·rw [if_neg hb];refine aZ (wpAny_setField hT tK h3 ?_);have yD:∀b,b≠T→(s.heap.update T (Obj.mapFields (·.setIfInBounds 3 Value.none))).get? b=s.heap.get? b:=fun b hb=>DF _ _ (cQ hb);have Ec:T∉gJ X.stack:=lU.QL I hT tK;have I1:Inv X [] σ H { s with heap:=s.heap.update T (Obj.mapFields (·.setIfInBounds 3 Value.none)) }:=I.ZR t (ch:=[T]) (fun b hb=>by
    rw [tT.mp hb];exact⟨yP,yO,oT,ts,hT,tK⟩) (fun b o _ hc e=>(yD b (fun z=>hc (by rw [z];exact tT.mpr rfl))).trans e) fun b o hb e=>⟨o.slots,(yD b (fun z=>Ec (z ▸ hb))).trans e⟩
   exact Wa I1 t wI tF ((yD x (cQ wQ)).trans he) hd hsz q
theorem Vn{A:Around}(I:Inv X [] σ H s)(t:qB X){fo:Option Addr}{Q:Unit→Shared→Prop}(e:lU X.s₀.heap s.heap H x cls dx true)
  (q:∀h',Inv X [] σ H { s with heap:=h' }→lU X.s₀.heap h' H x cls dx true→Q () { s with heap:=h' }):wpAny M A (setFlight (.ref x) fo) Q E s:=by
 obtain⟨wI,tF,oe,vs,he,rfl,rfl,hd,hsz,HZ⟩:=id e
 rcases HZ with⟨z,_⟩ | ⟨T,oT,ts,h1,wQ,yP,yO,hT,tK,h3⟩
 ·cases z
 unfold setFlight;refine aZ (qK he hd h1 ?_);rw [if_pos (show(Value.ref T != Value.none)=true from by simp)];refine wpAny_setField hT tK h3 ?_;generalize (fo.elim Value.none fun f=>rawInt f)=fv;have yD:∀b,b≠T→(s.heap.update T (Obj.mapFields (·.setIfInBounds 3 fv))).get? b=s.heap.get? b:=fun b hb=>DF _ _ (cQ hb);have Ec:T∉gJ X.stack:=lU.QL I hT tK;have KW:=Obj.data_mapFields tK (·.setIfInBounds 3 fv);refine q _ (I.ZR t (ch:=[T]) (fun b hb=>?_) (fun b o _ hc e=>(yD b (fun z=>hc (by rw [z];exact tT.mpr rfl))).trans e) fun b o hb e=>⟨o.slots,(yD b (fun z=>Ec (z ▸ hb))).trans e⟩)
  ⟨wI,tF,oe,vs,(yD x (cQ wQ)).trans he,rfl,rfl,hd,hsz,.inr ⟨T,_,_,h1,wQ,yP,yO,Zy _ hT (Obj.isFreed_of_fields KW),KW,by simpa using h3⟩⟩
 rw [tT.mp hb];exact⟨yP,yO,oT,ts,hT,tK⟩
end
abbrev WX:=St→Value→Option Addr→Hp→Prop
def XE(X:Cx)(W:WX):Value→Shared→Prop:=fun e s'=>∃σ H' x cls dx,e = .ref x∧Inv X [] σ H' s'∧lU X.s₀.heap s'.heap H' x cls dx false∧W σ cls dx H'
section
variable{X:Cx}
theorem alU(t:qB X){W:WX}:PassesOwn (model X.prog X.w) X.A X.env (XE X W):=by
 rintro e s' ⟨σ,H',x,cls,dx,rfl,I,ex,w⟩;unfold notedBy;refine Qn I t ex fun h1 I1 e1=>?_;unfold cameBackBy;obtain⟨wI,tF,oe,vs,he,hc,RB,hd,hsz,HZ⟩:=id e1
 rcases HZ with⟨z,_⟩ | ⟨T,oT,ts,tL,wQ,yP,yO,hT,tK,h3⟩
 ·cases z
 refine aZ (qK he hd tL ?_);rw [if_neg (show ¬((Value.ref T == Value.none)=true)from by simp)];exact Vn I1 t e1 fun h2 I2 e2=>⟨σ,H',x,cls,dx,rfl,I2,e2.any,w⟩
def pB(P:Program)(w:World):pA:=fun outer H s E e s'=>∃x cls dx H',e = .ref x∧s'.os=s.os∧AllBare s'.gens∧Un (gJ outer) [] H H' s.heap s'.heap∧eY P w H' s'.heap∧lU s.heap s'.heap H' x cls dx true∧E cls dx H'
end
structure qC(X:Cx)(W:WX):Prop where
 top:qB X
 ex:X.ex=[]
 to:∀e s',XE X W e s'→X.xe e s'
 passes:PassesOwn (model X.prog X.w) X.A X.env X.xe
theorem qC.of{X:Cx}(t:qB X)(hx:X.ex=[])(W:WX):qC (X.oE (XE X W)) W where
 top:=⟨t.rS,t.LP,t.pn⟩
 ex:=hx
 to:=fun e s' ⟨σ,H',x,cls,dx,a,I,b,c⟩=>⟨σ,H',x,cls,dx,a,I.qN,b,c⟩
 passes:=alU t
theorem Inv.ZZ{X:Cx}{pins:List (Addr×Obj)}{σ:St}{H:Hp}{s:Shared}(I:Inv X pins σ H s):Inv X [] σ H s:=I.ZY fun p hp=>absurd hp (by simp)
theorem Inv.first{X:Cx}{pins:List (Addr×Obj)}{σ:St}{H:Hp}{s:Shared}(I:Inv X pins σ H s)(hx:X.ex=[]){b:Addr}(h:s.heap.get? b=none):X.s₀.heap.get? b=none:=by
 cases e:X.s₀.heap.get? b with
 | none=>rfl
 | some o =>
  obtain⟨o',e'⟩:=I.base.there b o e (by rw [hx];simp);rw [h]at e';cases e'
theorem lU.first{X:Cx}{pins:List (Addr×Obj)}{σ:St}{H H':Hp}{s:Shared}{h':Heap}{x:Addr}{cls:Value}{dx:Option Addr}{tb:Bool}(I:Inv X pins σ H s)(hx:X.ex=[])(e:lU s.heap h' H' x cls dx tb) :
  lU X.s₀.heap h' H' x cls dx tb:=by
 obtain⟨a,b,oe,vs,c1,c2,c3,c4,c5,c6⟩:=e;refine⟨I.first hx a,b,oe,vs,c1,c2,c3,c4,c5,c6.imp id fun⟨T,oT,ts,d1,d2,d3,d4,d5,d6,d7⟩=>⟨T,oT,ts,d1,d2,I.first hx d3,d4,d5,d6,d7⟩⟩
theorem gY.at{P:Program}{w:World}{H:Hp}{h:Heap}{a:Addr}{o:HO}(x:gY P w H h a o):∃ob,h.get? a=some ob:=by
 cases o with
 | lst xs=>obtain⟨_,_,_,_,e⟩:=x;exact⟨_,e⟩
 | tup xs=>obtain⟨_,_,_,_,e,_⟩:=x;exact⟨_,e⟩
 | dK kvs=>obtain⟨_,_,_,_,o,_,_,e,_⟩:=x;exact⟨_,e⟩
 | dT kvs=>obtain⟨_,_,_,_,o,_,_,e,_⟩:=x;exact⟨_,e⟩
 | set S n=>obtain⟨o,_,_,_,e,_⟩:=x;exact⟨_,e⟩
 | ins C dx fs=>obtain⟨_,_,_,e,_⟩:=x;exact⟨_,e⟩
 | own y=>exact x
 | xd fs=>obtain⟨_,⟨_,_,_,e,_⟩,_⟩:=x;exact⟨_,e⟩
 | QC lo hi=>obtain⟨_,_,_,e⟩:=x;exact⟨_,e⟩
 | dU ob u=>obtain⟨e,_⟩:=x;exact⟨_,e⟩
 | iQ ps=>exact⟨_,show h.get? a=some _ from x⟩
 | met f y=>exact⟨_,show h.get? a=some _ from x⟩
 | ext φ=>obtain⟨_,e,_⟩:=x;exact e
theorem eY.am7{P:Program}{w:World}{H:Hp}{h:Heap}{a:Addr}(x:eY P w H h)(e:h.get? a=none):H a=none:=by
 cases ea:H a with
 | none=>rfl
 | some o =>
  obtain⟨ob,e'⟩:=(x a o ea).at;rw [e]at e';cases e'
section
variable{P:Program}{w:World}{K:Frag}{mg:Str→Option Value}{base:Heap}
abbrev nE(P:Program)(w:World)(K:Frag)(mg:Str→Option Value)(base:Heap)(N:List Str)(qual:Str)(scope:Scope)(f:Addr)(cd:Value)(A:Around)(outer:List Env)(s:Shared)(H:Hp)(E:XK):Cx :=
 (mK (pB P w) P w K mg base N qual scope f cd A outer s H E).oE (XE (mK (pB P w) P w K mg base N qual scope f cd A outer s H E) fun _=>E)
theorem XJ{CX:pA}{N:List Str}{qual:Str}{scope:Scope}{f:Addr}{cd:Value}{A:Around}{outer:List Env}{s:Shared}{H:Hp}{E:XK}:qB (mK CX P w K mg base N qual scope f cd A outer s H E):=⟨rfl,rfl,rfl⟩
theorem bW{N:List Str}{qual:Str}{scope:Scope}{f:Addr}{cd:Value}{A:Around}{outer:List Env}{s:Shared}{H:Hp}{E:XK}:qC (nE P w K mg base N qual scope f cd A outer s H E) (fun _=>E):=qC.of XJ rfl _
theorem EY{N:List Str}{qual:Str}{scope:Scope}{f:Addr}{cd:Value}{A:Around}{outer:List Env}{s:Shared}{H:Hp}{E:XK}{st:List Stmt}{t:TS}(h:lT (nE P w K mg base N qual scope f cd A outer s H E) st t) :
  lT (mK (pB P w) P w K mg base N qual scope f cd A outer s H E) st t:=by
 intro pins s1 σ H1 D I hw;refine kJ (h pins s1 σ H1 D (I.oE _) hw) (fun _ _ q=>q.qN) fun e s' hx=>?_;obtain⟨σ',H',x,cls,dx,rfl,I',ex,q⟩:=hx;show wpAny _ _ (leaving _ _) _ _ _;unfold leaving;refine aZ (Qn (E:=fun e' IT=>pB P w outer H s E e' IT) I' XJ ex fun h1 I1 e1=>?_);refine Vn I1 XJ e1 fun h2 I2 e2=>?_;exact⟨x,cls,dx,H',rfl,I2.os,I2.bare,I2.base,I2.aH,e2,q⟩
structure DJ(P:Program)(w:World)(K:Frag)(mg:Str→Option Value)(base:Heap)(x:Str)(k:Nat)(ps:List Str)(sp:Sp):Prop where
 ex:∃f fd,iG P w K mg base (pB P w) k f fd ps sp∧mg x=some (.ref f)∧keepIn K (.ref f)=true∧Binds K fd ps []
theorem DJ.of{x:Str}{st:Stmt}{N ps:List Str}{k:Nat}{sp:Sp}(h:HasFn K mg x st)(S:dJ N ps (aX st))
  (bind:∀(kV doc pm:Value) (an:Option Addr) (aU ct:Value) (us:List Value),us.length=ps.length→bindArgs (fnOf x x (iV st) (dX st) (aX st) .none kV doc pm an aU ct) ⟨us,[]⟩=pure (ps.zip us))
  (len:∀vs H Q E,sp vs H Q E→vs.length=ps.length)
  (gH:∀(f:Addr) (aU:Value) (A:Around) (outer:List Env) (s:Shared) (H:Hp) (vs:List V) (Q:VK) (E:XK),cH k (A.deeper (envOfC x (aX st) s.heap.objs.size f aU))→sp vs H Q E →
   ∃t,lT (nE P w K mg base N x (aX st) f aU A outer s H E) (dX st) t∧t { nx:=fun _ H'=>Q .bR H',rt:=Q } (start N vs) H):DJ P w K mg base x (k+1) ps sp:=by
 obtain⟨f,fd,hm,F⟩:=h.ex;refine⟨f,fd,?_,hm,F.kp,F.binds bind⟩;obtain⟨oc,od,kV,doc,pm,an,aU,ct,gD,rfl,lk,fN⟩:=F.ex;refine FY lk fN S len fun A outer s H vs Q E hr gF=>?_;obtain⟨t,h,q⟩:=gH f aU A outer s H vs Q E hr gF;exact⟨t,EY h,q⟩
end
section
variable{X:Cx}{W:WX}{x:Str}{p pos np iD:Pos}{e:Expr}{es:List Expr}{t:TA}
def ac9(sp:Sp)(W:WX)(t:TA):TE:=fun σ H Q=>t σ H fun vs H1=>sp vs H1 Q fun cls dx H'=>W σ cls dx H'
theorem alJ{k:Nat}{ps:List Str}{sp:Sp}(T:qC X W)(D:DJ X.prog X.w X.K X.mg X.base x k ps sp)(hr:cH k X.A)(hg:Gl X x)(ha:PA X (e::es) t)
  (gW:(x == ("__debug__" : Str))=false:=by decide) (he:starEach (e::es) X.env=(false,eval e X.env)::starEach es X.env:=by rfl) (fJ:(backTo pos (starEach es X.env)).any (·.1)=false:=by rfl) :
  PE X (.Call (.Name x p) (e::es) [] pos) (ac9 sp W t):=by
 obtain⟨f,fd,F,hm,hk,hb⟩:=D.ex;intro pins s σ H Q I h;refine vH (EZ I hg hm ?_ gW);refine callWith_K (h₀:=X.base) I.ok.mod.qX hk (bG (ha pos pins s σ H _ I h) fun us s1 ⟨vs,H1,I1,r,q⟩=>⟨I1.gU,?_⟩) he fJ;have hl:us.length=ps.length:=by rw [← r.length];exact F.len _ _ _ _ q
 have mH:=hb s1 us I1.gU (by rw [zJ];exact hl);rw [zJ]at mH;refine xM (yX (F.run X.A X.stack s1 H1 ⟨us,[]⟩ us vs Q _ hr I1.GC mH r q) fun r s' hq=>?_);cases r with
 | error ev =>
  obtain⟨a,cls,dx,H',rfl,os,bare,un,aH,ex,q'⟩:=hq;have I2:=(I1.GI os un aH bare (fun b z=>absurd z (by simp))).ZZ;exact T.to _ _ ⟨σ,H',a,cls,dx,rfl,I2,(ex.first I1 T.ex).any,q'⟩
 | ok fl =>
  cases fl with
  | ret u=>exact I1.after hq
  | next=>exact False.elim hq
  | brk=>exact False.elim hq
  | cont=>exact False.elim hq
abbrev MG:List Value:=[.type "ValueError",.type "Exception",.type "BaseException",.type "object"]
structure MZ(K:Frag)(C:Addr):Prop where
 Cr:excIn K C MG "ValueError.__new__" = true
theorem MZ.obj{K:Frag}{C:Addr}(O:MZ K C){h:Heap}(X:K.In h):∃bm N nm q bs hdct sn sub ab col dd k0 k1 k2 k3 k5 mN,h.get? C=some (excClassObj nm q C N bs bm hdct sn sub ab col dd k0 k1 k2 k3 k5 "ValueError.__new__")∧h.Ns N mN∧mN "__init__" = none∧OwnTail h MG bm:=by
 have q:=O.Cr;unfold excIn at q;split at q
 ·rename_i dd cd sl ho;split at q
  ·rename_i C' bm k0 k1 k2 k3 n k5 hm hs;simp only [nK,CQ,Bool.not_eq_true']at q;obtain⟨⟨⟨⟨⟨rfl,rfl⟩,KR⟩,ht⟩,aH⟩,BO⟩:=q;obtain⟨nm,bs,mro,ns,qn,hd,sn,sub,ab,col,del⟩:=cd;dsimp only at hm KR aH BO;subst hm KR;have mZ:sl = #[k0,k1,k2,k3,some (.builtin "ValueError.__new__"),k5]:=by
    obtain⟨l⟩:=sl;simp only at hs;rw [hs]
   subst mZ;exact⟨bm,ns,nm,qn,bs,hd,sn,sub,ab,col,dd,k0,k1,k2,k3,k5,_,X _ _ ho,.of_isNs (isNs_of_in X aH),PySem.W.nsMap_none_of_in X aH BO,PySem.W.tail_of_in X ht⟩
  ·cases q
 ·cases q
def acR(W:WX)(C:Addr)(t:TA):TS:=fun _ σ H=>t σ H fun vs H1=>vs.length≤sizeLine∧W σ (.ref C) none H1
theorem ajW{C:Addr}(T:qC X W)(hc:X.calm=true)(O:MZ X.K C)(hg:Gl X x)(hm:X.mg x=some (.ref C))(ha:PA X (e::es) t)
  (gW:(x == ("__debug__" : Str))=false:=by decide) (he:starEach (e::es) X.env=(false,eval e X.env)::starEach es X.env:=by rfl) (fJ:(backTo iD (starEach (e::es) X.env)).any (·.1)=false:=by rfl) :
  PS X (.Raise (some (.Call (.Name x np) (e::es) [] iD)) none pos) (acR W C t):=by
 intro pins s σ H D I h;obtain⟨bm,N,nm,q,bs,hdct,sn,sub,ab,col,dd,k0,k1,k2,k3,k5,mN,hC,hN,BO,hT⟩:=O.obj I.ok.mod.qX;have wO:bm.contains (.type "BaseException")=true:=hT.hasType (by decide);refine wpAny_Raise_call_subT (nm:=nm) (q:=q) (N:=N) (bs:=bs) (hdct:=hdct) (sn:=sn) (sub:=sub) (ab:=ab) (col:=col) (dd:=dd) (k0:=k0) (k1:=k1) (k2:=k2) (k3:=k3) (k5:=k5) PySem.F.excBase_ValueError wO (I.ok.hd hc) fJ BO (EZ I hg hm ⟨rfl,?_⟩ gW);rw [he];refine aaG ?_;have Um:=ha iD pins s σ H _ I h;rw [he]at Um;refine bG Um fun us s1 ⟨vs,H1,I1,r,hz,q1⟩=>⟨rfl,by rw [← r.length];exact hz,I1.bk _ _ hC,hN.keeps I1.bk,hT.keeps I1.bk,fun h' a M=>?_⟩
 obtain⟨tt,ht,htn,_⟩:=M.there;have hH:H1 a=none:=I1.aH.am7 M.new;refine T.to _ _ ⟨σ,H1,a,.ref C,none,rfl,(I1.kept (t':=s1.toks) M.keeps).ZZ,⟨I1.first T.ex M.new,hH,_,_,ht,rfl,rfl,rfl,by simp,.inl ⟨rfl,rfl⟩⟩,q1⟩
end
structure XC(K:Frag)(C:Addr):Prop where
 ob:∃nm q N bs bm hdct sn sub ab col dd k0 k1 k2 k3 k5,K.lookup C=some (excClassObj nm q C N bs bm hdct sn sub ab col dd k0 k1 k2 k3 k5 "ValueError.__new__")
 ga:findIn K (.ref C) "__getattribute__" = some (some (.builtin "BaseException.__getattribute__"))
 gt:findIn K (.ref C) "__getattr__" = some none
 cl:findIn K (.ref C) "__class__" = some (some (.builtin "object.__class__"))
 be:subIn K (.ref C) (.type "BaseException")=some true
 oj:subIn K (.ref C) (.type "object")=some true
section
variable{K:Frag}{C D x:Addr}{oe:Obj}{b:Bool}
theorem XC.get(c:XC K C):∃cd,clsIn K C=some cd∧cd.mro.isEmpty=false∧cd.mro.contains (.ref C)=true∧typeIn K (.ref C)=some (.type "type"):=by
 obtain⟨nm,q,N,bs,bm,hdct,sn,sub,ab,col,dd,k0,k1,k2,k3,k5,e⟩:=c.ob;refine⟨{ name:=nm,bases:=bs,mro := .ref C::bm,ns:=N,qualname:=q,hasDict:=hdct,slotNames:=sn,subclasses:=sub,abstract:=ab,collection:=col,hasDel:=false },?_,rfl,?_,?_⟩
 ·unfold clsIn;rw [e]
 ·simp
 ·show(K.lookup C).map (·.cls)=_;rw [e];rfl
theorem aoW(cD:XC K D)(cC:XC K C)(s:subIn K (.ref D) (.ref C)=some b):kitOne K (.ref D) (.ref C)=some b:=by
 unfold kitOne;split
 ·rename_i q;have e:D=C:=Value.ref.inj (CQ.mp q);subst e;obtain⟨cd,h1,h2,h3,_⟩:=cD.get;change mroIn K D (.ref D)=some b at s;unfold mroIn at s;rw [h1]at s;simp only [Option.bind_some,h2,h3]at s;simpa using s
 ·obtain⟨cd,h1,_,_,h4⟩:=cC.get;unfold PySem.W.kitCls;simp only [h1,h4];exact s
end
def Cx.uP(X:Cx)(x:Addr)(oe:Obj):Cx:={ X with A:=X.A.mark (some (.ref x)),calm:=false,pn:=X.pn++[(x,oe)],xe:=fun _ _=>False }
theorem Cx.Ok.uP{X:Cx}(ok:X.Ok)(x:Addr)(oe:Obj):(X.uP x oe).Ok :=
 ⟨ok.mod,ok.kind,ok.glob,ok.blt,ok.above,ok.inj,ok.has,ok.CP,fun h=>Bool.noConfusion h,ok.frames,ok.rS,ok.CJ,ok.bs,ok.pN,ok.uB,ok.yU,ok.nT,ok.sG⟩
section
variable{X:Cx}{σ:St}{H:Hp}{s:Shared}{x:Addr}{oe:Obj}
theorem Inv.uP(I:Inv X [] σ H s)(p:s.heap.get? x=some oe∧H x=none∧x≠X.env.locals∧x∉X.fs∧∀v,oe.data ≠ .cell v):Inv (X.uP x oe) [] σ H s :=
 ⟨I.ok.uP x oe,I.os,I.bare,I.base,I.loc,I.cell,I.free,I.mJ,fun q hq=>by
  have hq:q∈(X.pn++[(x,oe)])++[]:=hq;rw [zJ]at hq
  rcases oZ.mp hq with z | z
  ·exact I.pin q (xB _ z)
  ·rw [tT.mp z];exact p,I.aH,I.len⟩
theorem lU.pin{cls:Value}{dx:Option Addr}{tb:Bool}(I:Inv X [] σ H s)(t:qB X)(e:lU X.s₀.heap s.heap H x cls dx tb):∃oe vs,oe.cls=cls∧oe.dict=dx∧oe.data = .fields vs∧s.heap.get? x=some oe∧H x=none∧x≠X.env.locals∧x∉X.fs∧∀v,oe.data ≠ .cell v:=by
 obtain⟨_,tF,oe,vs,he,hc,RB,hd,_⟩:=e;have nf:=lU.QL I he hd;exact⟨oe,vs,hc,RB,hd,he,tF,fun z=>nf (t.mem.mpr (.inl z)),fun z=>nf (t.mem.mpr (.inr z)),fun v z=>by rw [hd]at z;cases z⟩
end
def Iv(X:Cx)(st:List Stmt)(t:TS):Prop:=∀(s:Shared) (σ:St) (H:Hp) (D:Ends),Inv X [] σ H s→t D σ H→wpAny (model X.prog X.w) X.A (execs st X.env) (SP X [] D) X.xe s
abbrev TH:=Addr→Value→Option Addr→TS
def Ends.drop(D:Ends)(i:Nat):Ends:=⟨fun σ H=>D.nx (σ.set i none) H,D.rt,fun σ H=>D.bk (σ.set i none) H,fun σ H=>D.ct (σ.set i none) H⟩
section
variable{P:Program}{w:World}{K:Frag}{mg:Str→Option Value}{base:Heap}
theorem Iv.qT{X:Cx}{st:List Stmt}{t:TS}(h:Iv X.qT st t):Iv X st t:=fun s σ H D I hw =>
 kJ (h s σ H D (I.oE _) hw) (fun _ _ q=>q.qN) fun _ _ z=>False.elim z
end
def Bb(scope sc:Scope)(N:List Str)(js:List Nat):Bool :=
 scope.kind == .function&&(scope.names.all fun y=>y.2 != .cell&&(y.2 != .local||scope.names.lookup y.1 == some .local)&&(y.2 != .free||(sc.names.lookup y.1 == some .cell||sc.names.lookup y.1 == some .free))) &&
 js.all fun j=>match N[j]? with
  | some x=>scope.names.lookup x == some .free
  | none=>false
theorem zK.of{X:Cx}{scope:Scope}{ls:List Str}{js:List Nat}(sc:Scope)(N:List Str)(Cy:X.env.scope=sc)(hN:X.N=N)(ok:Bb scope sc N js=true):zK X scope ls js:=by
 unfold Bb at ok;rw [nK,nK]at ok;obtain⟨⟨h1,h2⟩,h3⟩:=ok;rw [UQ]at h2 h3;refine⟨by simpa using h1,fun y hy=>?_,fun y hy hl=>?_,fun y hy hf=>?_,fun j hj=>?_⟩
 ·have q:=h2 y hy;rw [nK,nK]at q;simpa using q.1.1
 ·have q:=h2 y hy;rw [nK,nK]at q;simpa [hl]using q.1.2
 ·have q:=h2 y hy;rw [nK,nK]at q;have q2:=q.2;rw [hf]at q2;unfold Env.kindOf;rw [Cy];simpa using q2
 ·have q:=h3 j hj;rw [hN];cases e:N[j]? with
  | none=>rw [e]at q;cases q
  | some x=>rw [e]at q;exact⟨x,rfl,by simpa using q⟩
theorem Kept.same{l:Addr}{H H':Hp}(e:Kept l H H')(hl:H l=none):jB H H':=fun b o h=>e b o (gT h hl) h
section
variable{X:Cx}
theorem avZ(hc:X.calm=true):nJ X (.builtin "sorted") (fun xs H Q=>∃d kvs ks,xs=[.ref d]∧H d=some (.dK kvs)∧kvs.map (·.1)=ks.map Sum.inl∧ks.length<64 ∧
  ∀(ms:List Int) (l:Addr),ms.Perm ks→ms.Pairwise (· ≤ ·)→H l=none→Q (.ref l) (upd H l (.lst (ms.map V.int)))):=by
 intro pins s σ H xs us Q I r h;obtain⟨d,kvs,ks,rfl,hd,hk,Uu,q⟩:=h;obtain⟨u,rfl,ru⟩:=vals1 r;cases ru;obtain⟨z,lo,vs,rel,dd⟩:=Gi I.aH hd;obtain⟨ep,uK⟩:=dd.dictAt;have hlv:vs.length=ks.length:=by
  rw [← rel.length,← kQ (f:=(·.1)),hk,kQ]
 have hsz:(64:Nat)≤sizeLine:=by decide
 refine Calls.call_function_entry kind_sorted plain_sorted entry_sorted (args_sorted1 _) ?_;unfold Builtin.«sorted»;refine aZ (m:=checkCount "sorted" 1 1 _) (dM ?_);refine aZ (PySem.W.kdu_collect (A:=X.A.in1) (PySem.W.kdl_dict (knd:=lO X.prog X.w) (kvs:=vs) (ep:=ep) lo) (I.ok.hd hc) uK (by omega) fun h' tk acc hkp Uj=>?_);have hl:acc.toList.length=ks.length:=by rw [Ku,Uj.1,hlv]
 have hI:IntsAre acc.toList ks:=by
  refine intsAre_of (ns:=ks) ?_;have key:∀(js:List Int) (us:List Value),us.length=js.length→(∀(i:Nat) (v:Value),us[i]? = some v→∃(j:Int) (t:Tok),js[i]? = some j∧v=Value.int j t)→Vals (js.map V.int) us:=by
   intro js
   induction js with
   | nil=>intro us hl _;cases us with
    | nil=>exact .nil
    | cons _ _=>simp at hl
   | cons j js ih =>
    intro us hl hv;cases us with
    | nil=>simp at hl
    | cons v us =>
     obtain⟨j',t,e1,e2⟩:=hv 0 v rfl;cases e1;exact .cons ⟨t,e2⟩ (ih us (by simpa using hl) fun i w hw=>hv (i+1) w (by simpa using hw))
  refine key ks acc.toList hl fun i v hv=>?_;obtain⟨k,x,e1,e2⟩:=Uj.2 i v (by rw [← Array.getElem?_toList];exact hv);have e3:(vs.map (·.1))[i]? = some k:=by rw [kG,e1];rfl
  rw [← rel.keys,hk,kG]at e3;cases e4:ks[i]? with
  | none=>rw [e4]at e3;cases e3
  | some j =>
   rw [e4]at e3;have e5:(Sum.inl j:Key)=k:=jJ e3;subst e5
   rcases sZ (k:=Sum.inl j) (v:=v) e2 with⟨i',t,q1,q2⟩ | ⟨_,_,q1,_⟩
   ·cases q1;exact⟨j,t,rfl,q2⟩
   ·cases q1
 refine aZ (wpAny_newList ?_ (by rw [hl];omega));have JV:(h'.push (seqObj "list" acc.toList.toArray 0)).get? h'.objs.size=some (seqObj "list" acc.toList.toArray 0):=kH _ rfl;refine aZ (xK (NX slot_list_sort ⟨_,JV,rfl⟩ entry_list_sort (list_sort_tree JV hI (by omega) fun out ER a1 a2 a3=>⟨_,rfl,?_⟩) (args_list_sort _)));refine dM ⟨_,rfl,?_⟩;have I1:Inv X pins σ H { s with heap:=h',toks:=tk }:=I.kept hkp;have hf:H h'.objs.size=none:=I1.aH.fresh cJ;obtain⟨e1,ho1⟩:∃e1,((h'.push (seqObj "list" acc.toList.toArray 0)).update h'.objs.size (Obj.mapSeq fun _=>#[])).get? h'.objs.size=some (seqObj "list" #[] e1):=⟨_,get?_update_seq JV (fun _=>#[])⟩;have yK:=eL (seqObj "list" #[] 0) (eL (seqObj "tuple" acc.toList.toArray 0) ho1);obtain⟨e2,BM⟩:∃e2,(sortedHeap (h'.push (seqObj "list" acc.toList.toArray 0)) h'.objs.size acc.toList out).get? h'.objs.size=some (seqObj "list" out e2):=⟨_,get?_update_seq yK (fun _=>out)⟩;have kp:∀b u,h'.get? b=some u→(sortedHeap (h'.push (seqObj "list" acc.toList.toArray 0)) h'.objs.size acc.toList out).get? b=some u:=fun b u e=>by
  have hb:b≠h'.objs.size:=iE (dA e);unfold sortedHeap;exact(DF _ _ (cQ hb)).trans (eL _ (eL _ ((DF _ _ (cQ hb)).trans (eL _ e))))
 have hv:Vals (ER.map V.int) out.toList:=WM a1;have hln:ER.length=ks.length:=a2.length_eq;refine⟨.ref h'.objs.size,upd H h'.objs.size (.lst (ER.map V.int)),I1.laid (t':=tk) kp cJ ?_,rfl,q ER _ a2 a3 hf⟩;exact⟨by rw [kQ];omega,out.toList,e2,hv,BM⟩
end
theorem Rows.take{K:Frag}{H:Hp}:∀{xs:List V} {rs:List (List Int)} (k:Nat),Rows K H xs rs→Rows K H (xs.take k) (rs.take k)
 | _,_,0,_ => .nil
 | _,_,_+1,.nil => .nil
 | _,_,k+1,.cons q t => .cons q (Rows.take k t)
theorem Rows.drop{K:Frag}{H:Hp}:∀{xs:List V} {rs:List (List Int)} (k:Nat),Rows K H xs rs→Rows K H (xs.drop k) (rs.drop k)
 | _,_,0,h=>h
 | _,_,_+1,.nil => .nil
 | _,_,k+1,.cons _ t=>Rows.drop k t
theorem Rows.append{K:Frag}{H:Hp}:∀{xs ys:List V} {rs qs:List (List Int)},Rows K H xs rs→Rows K H ys qs→Rows K H (xs++ys) (rs++qs)
 | _,_,_,_,.nil,h=>h
 | _,_,_,_,.cons q t,h => .cons q (Rows.append t h)
end L2
namespace V2
open PySem PySem.Spec PyProof.Rows L2
inductive A where
 | int (i:Int) | bl (b:Bool) | str (x:Str) | bR | ty (n:String) | adr (p:Addr) | LU (p d:Addr) (f:Str) (i:Int) | gl (x:Str) | dB (ns:List Int)
 | tup (ds:List A) | lst (ds:List A) | aD (k:Nat)
inductive Fd where
 | val (a:A) | lst (ds:List A) | cW (kvs:List (Key×A))
@[simp] def Fd.own:Fd→Bool
 | .val _=>false
 | _=>true
inductive Cell where
 | lst (ds:List A) | cW (kvs:List (Key×A)) | ins (cls:Str) (fs:List (Str×Fd)) | tab (x:Str) (pos:Pos) (qual:Str) | dead
@[simp] def Cell.noOwn:Cell→Bool
 | .ins _ fs=>fs.all fun p=>!p.2.own
 | _=>true
structure Exc where
 cls:Str
 fs:List (Str×A)
inductive Rs(α:Type)where
 | ok (a:α) | exc (x:Exc)
abbrev aF:=List Cell
abbrev Ev:=List (Option A)
abbrev Mo(α:Type):=aF→Option (Rs α×aF)
@[simp] def ret{α:Type}(a:α):Mo α:=fun Ω=>some (.ok a,Ω)
@[simp] def mb{α β:Type}(m:Mo α)(k:α→Mo β):Mo β:=fun Ω =>
 match m Ω with
 | some (.ok a,Ω1)=>k a Ω1
 | some (.exc x,Ω1)=>some (.exc x,Ω1)
 | none=>none
@[simp] def stuck{α:Type}:Mo α:=fun _=>none
@[simp] def need{α:Type}(o:Option α):Mo α:=fun Ω=>o.map fun a=>(.ok a,Ω)
@[simp] def oX(p:Prop) [Decidable p]:Mo Unit:=fun Ω=>if p then some (.ok (),Ω)else none
mutual
def Den(K:Frag)(G:Hp)(ι:List Addr):V→A→Prop
 | v,.int j=>v = .int j
 | v,.bl b=>v = .bl b
 | v,.str x=>v = .str x
 | v,.bR=>v = .bR
 | v,.ty n=>v = .ty n
 | v,.adr p=>v = .ref p
 | v, .LU p d f i=>v = .ref p∧G d=some (.xd [(f,.int i)])
 | v,.gl x=>∃C,nsIn K mainGlobals x=some (some (.ref C))∧v = .ref C
 | v,.dB ns=>∃a,v = .ref a∧dG K G a (ns.map V.int)
 | v,.tup ds=>∃a xs,v = .ref a∧G a=some (.tup xs)∧bD K G ι xs ds
 | v,.lst ds=>∃a xs,v = .ref a∧G a=some (.lst xs)∧bD K G ι xs ds
 | v,.aD k=>∃a,v = .ref a∧ι[k]? = some a
def bD(K:Frag)(G:Hp)(ι:List Addr):List V→List A→Prop
 | xs,[]=>xs=[]
 | xs,d::ds=>∃x r,xs=x::r∧Den K G ι x d∧bD K G ι r ds
end
structure Ext(G:Hp)(ι:List Addr)(G':Hp)(ι':List Addr):Prop where
 same:jB G G'
 pre:∀(k:Nat) (a:Addr),ι[k]? = some a→ι'[k]? = some a
theorem Ext.refl(G:Hp)(ι:List Addr):Ext G ι G ι:=⟨jB.refl _,fun _ _ h=>h⟩
theorem Ext.trans{G G1 G2:Hp}{ι ι1 ι2:List Addr}(a:Ext G ι G1 ι1)(b:Ext G1 ι1 G2 ι2):Ext G ι G2 ι2:=⟨a.same.trans b.same,fun k x h=>b.pre k x (a.pre k x h)⟩
section
variable{K:Frag}{G G':Hp}{ι ι':List Addr}
mutual
theorem Den.ext(e:Ext G ι G' ι'):∀{v:V} {d:A},Den K G ι v d→Den K G' ι' v d
 | _,.int _,h=>by simpa only [Den]using h
 | _,.bl _,h=>by simpa only [Den]using h
 | _,.str _,h=>by simpa only [Den]using h
 | _,.bR,h=>by simpa only [Den]using h
 | _,.ty _,h=>by simpa only [Den]using h
 | _,.adr _,h=>by simpa only [Den]using h
 | _, .LU _ _ _ _,h=>by
  simp only [Den]at h ⊢;exact⟨h.1,e.same _ _ h.2⟩
 | _,.gl _,h=>by simpa only [Den]using h
 | _,.dB _,h=>by
  simp only [Den]at h ⊢;obtain⟨a,h1,h2⟩:=h;exact⟨a,h1,e.same.seq h2⟩
 | _,.tup ds,h=>by
  simp only [Den]at h ⊢;obtain⟨a,xs,h1,h2,h3⟩:=h;exact⟨a,xs,h1,e.same _ _ h2,bD.ext e h3⟩
 | _,.lst ds,h=>by
  simp only [Den]at h ⊢;obtain⟨a,xs,h1,h2,h3⟩:=h;exact⟨a,xs,h1,e.same _ _ h2,bD.ext e h3⟩
 | _,.aD k,h=>by
  simp only [Den]at h ⊢;obtain⟨a,h1,h2⟩:=h;exact⟨a,h1,e.pre _ _ h2⟩
theorem bD.ext(e:Ext G ι G' ι'):∀{xs:List V} {ds:List A},bD K G ι xs ds→bD K G' ι' xs ds
 | _,[],h=>by simpa only [bD]using h
 | _,d::ds,h=>by
  simp only [bD]at h ⊢;obtain⟨x,r,h1,h2,h3⟩:=h;exact⟨x,r,h1,Den.ext e h2,bD.ext e h3⟩
end
theorem uO{xs:List V}:bD K G ι xs []↔xs=[]:=by simp only [bD]
theorem bD.length:∀{xs:List V} {ds:List A},bD K G ι xs ds→xs.length=ds.length
 | _,[],h=>by simp only [bD]at h;subst h;rfl
 | _,d::ds,h=>by
  simp only [bD]at h;obtain⟨x,r,rfl,h2,h3⟩:=h;simp only [gO,bD.length h3]
theorem bD.nil:bD K G ι [] []:=by simp only [bD]
theorem bD.cons{x:V}{xs:List V}{d:A}{ds:List A}(h:Den K G ι x d)(t:bD K G ι xs ds):bD K G ι (x::xs) (d::ds):=by
 simp only [bD];exact⟨x,xs,rfl,h,t⟩
theorem bD.nM{xs:List V}{d:A}{ds:List A}(h:bD K G ι xs (d::ds)):∃x r,xs=x::r∧Den K G ι x d∧bD K G ι r ds:=by simpa only [bD]using h
theorem bD.get:∀{xs:List V} {ds:List A} {i:Nat} {d:A},bD K G ι xs ds→ds[i]? = some d→∃x,xs[i]? = some x∧Den K G ι x d
 | _,[],_,_,_,e=>by simp at e
 | _,_::_,0,_,h,e=>by
  obtain⟨x,r,rfl,h2,h3⟩:=h.nM;simp at e;subst e;exact⟨x,rfl,h2⟩
 | _,_::_,i+1,_,h,e=>by
  obtain⟨x,r,rfl,h2,h3⟩:=h.nM;simp at e;obtain⟨y,q1,q2⟩:=bD.get h3 e;exact⟨y,by simpa using q1,q2⟩
theorem bD.append:∀{xs ys:List V} {ds es:List A},bD K G ι xs ds→bD K G ι ys es→bD K G ι (xs++ys) (ds++es)
 | _,_,[],_,h,t=>by rw [uO]at h;subst h;exact t
 | _,_,d::ds,_,h,t=>by
  obtain⟨x,r,rfl,h2,h3⟩:=h.nM;exact .cons h2 (bD.append h3 t)
theorem bD.take:∀{xs:List V} {ds:List A} (n:Nat),bD K G ι xs ds→bD K G ι (xs.take n) (ds.take n)
 | _,_,0,_=>by simpa using bD.nil
 | _,[],n+1,h=>by rw [uO]at h;subst h;exact bD.nil
 | _,d::ds,n+1,h=>by
  obtain⟨x,r,rfl,h2,h3⟩:=h.nM;exact .cons h2 (bD.take n h3)
theorem bD.drop:∀{xs:List V} {ds:List A} (n:Nat),bD K G ι xs ds→bD K G ι (xs.drop n) (ds.drop n)
 | _,_,0,h=>by simpa using h
 | _,[],n+1,h=>by rw [uO]at h;subst h;exact bD.nil
 | _,d::ds,n+1,h=>by
  obtain⟨x,r,rfl,h2,h3⟩:=h.nM;exact bD.drop n h3
theorem bD.set{x:V}{d:A}(hx:Den K G ι x d):∀{xs:List V} {ds:List A} (n:Nat),bD K G ι xs ds→bD K G ι (xs.set n x) (ds.set n d)
 | _,[],n,h=>by rw [uO]at h;subst h;exact bD.nil
 | _,e::ds,0,h=>by
  obtain⟨y,r,rfl,h2,h3⟩:=h.nM;exact .cons hx h3
 | _,e::ds,n+1,h=>by
  obtain⟨y,r,rfl,h2,h3⟩:=h.nM;exact .cons h2 (bD.set hx n h3)
theorem Gk:∀(ns:List Int),bD K G ι (ns.map V.int) (ns.map A.int)
 | [] => .nil
 | n::ns => .cons (by simp only [Den]) (Gk ns)
end
def aw4(K:Frag)(G H:Hp)(a:Addr)(x:Str)(pos:Pos)(qual:Str):Prop :=
 G a=none∧(∃c,tabIn K x=some (c,a))∧∃ps,H a=some (.iQ ps)∧TriplesOk ps.toList ∧
  (codeAmong pos ps.toList=none∨∃c' oc vs t,codeAmong pos ps.toList=some (.ref c')∧G c'=some (.dU oc (.own 0))∧oc.data = .fields vs∧vs[1]? = some (.str qual t))
def jS(K:Frag)(G:Hp)(ι:List Addr)(H:Hp)(v:V):Fd→Prop
 | .val a=>Den K G ι v a
 | .lst ds=>∃b xs,v = .ref b∧G b=none∧b∉ι∧H b=some (.lst xs)∧bD K G ι xs ds
 | .cW kvs=>∃b,∃ws:List (Key×V),v = .ref b∧G b=none∧b∉ι∧H b=some (.dK ws)∧ws.map (·.1)=kvs.map (·.1)∧bD K G ι (ws.map (·.2)) (kvs.map (·.2))
def jM(K:Frag)(G:Hp)(ι:List Addr)(H:Hp):List (Str×V)→List (Str×Fd)→Prop
 | [],[]=>True
 | (f,v)::ws,(g,d)::fs=>f=g∧jS K G ι H v d∧jM K G ι H ws fs
 | _,_=>False
def rH(K:Frag)(G:Hp)(ι:List Addr)(H:Hp)(a:Addr):Cell→Prop
 | .lst ds=>G a=none∧∃xs,H a=some (.lst xs)∧bD K G ι xs ds
 | .cW kvs=>G a=none∧∃ws:List (Key×V),H a=some (.dK ws)∧ws.map (·.1)=kvs.map (·.1)∧bD K G ι (ws.map (·.2)) (kvs.map (·.2))
 | .ins cls fs=>G a=none∧∃C dx,∃ws:List (Str×V),nsIn K mainGlobals cls=some (some (.ref C))∧H a=some (.ins C dx ws)∧jM K G ι H ws fs
 | .tab x pos qual=>aw4 K G H a x pos qual
 | .dead=>True
def jI(H:Hp)(ι:List Addr)(Ω:aF)(k i:Nat)(b:Addr):Prop:=∃a cls fs C dx ws g h fd,ι[k]? = some a∧Ω[k]? = some (.ins cls fs)∧H a=some (.ins C dx ws)∧fs[i]? = some (g,fd)∧fd.own=true∧ws[i]? = some (h,.ref b)
structure Wd(K:Frag)(G:Hp)(ι:List Addr)(Ω:aF)(H:Hp):Prop where
 sub:jB G H
 inj:ι.Nodup
 len:ι.length=Ω.length
 live:∀a∈ι,∃o,H a=some o
 aD:∀(k:Nat) (c:Cell) (a:Addr),Ω[k]? = some c→ι[k]? = some a→rH K G ι H a c
 sep:∀(b:Addr) (k i k' i':Nat),jI H ι Ω k i b→jI H ι Ω k' i' b→k=k'∧i=i'
section
variable{K:Frag}{G G' H H':Hp}{ι ι':List Addr}{Ω:aF}{a p:Addr}
theorem jS.mono{v:V}{fd:Fd}(h:jS K G ι H v fd)(e:Ext G ι G' ι')(ho:∀b o,b∉ι→G b=none→H b=some o→b∉ι'∧G' b=none∧H' b=some o):jS K G' ι' H' v fd:=by
 cases fd with
 | val a=>exact Den.ext e h
 | lst ds =>
  obtain⟨b,xs,h1,h2,h3,h4,h5⟩:=h;obtain⟨q1,q2,q3⟩:=ho b _ h3 h2 h4;exact⟨b,xs,h1,q2,q1,q3,h5.ext e⟩
 | cW kvs =>
  obtain⟨b,ws,h1,h2,h3,h4,h5,h6⟩:=h;obtain⟨q1,q2,q3⟩:=ho b _ h3 h2 h4;exact⟨b,ws,h1,q2,q1,q3,h5,h6.ext e⟩
theorem jM.map{K':Frag}{G' H':Hp}{ι':List Addr}(f:∀v fd,jS K G ι H v fd→jS K' G' ι' H' v fd):∀{ws:List (Str×V)} {fs:List (Str×Fd)},jM K G ι H ws fs→jM K' G' ι' H' ws fs
 | [],[],_=>trivial
 | (_,_)::_,(_,_)::_,h=>⟨h.1,f _ _ h.2.1,jM.map f h.2.2⟩
 | [],_::_,h=>h.elim
 | _::_,[],h=>h.elim
theorem rH.mono{c:Cell}(h:rH K G ι H a c)(e:Ext G ι G' ι')(hg:G' a=G a)(hh:H' a=H a)(ho:∀b o,b∉ι→G b=none→H b=some o→b∉ι'∧G' b=none∧H' b=some o):rH K G' ι' H' a c:=by
 cases c with
 | lst ds=>obtain⟨g,xs,h1,h2⟩:=h;exact⟨hg.trans g,xs,hh.trans h1,h2.ext e⟩
 | cW kvs=>obtain⟨g,ws,h1,h2,h3⟩:=h;exact⟨hg.trans g,ws,hh.trans h1,h2,h3.ext e⟩
 | ins cls fs=>obtain⟨g,C,dx,ws,h0,h1,h2⟩:=h;exact⟨hg.trans g,C,dx,ws,h0,hh.trans h1,h2.map fun _ _ q=>q.mono e ho⟩
 | tab x pos qual =>
  obtain⟨g,hc,ps,h1,h2,h3⟩:=h;exact⟨hg.trans g,hc,ps,hh.trans h1,h2,h3.imp id fun⟨c',oc,vs,t,q1,q2,q3⟩=>⟨c',oc,vs,t,q1,e.same _ _ q2,q3⟩⟩
 | dead=>trivial
theorem Wd.addr(w:Wd K G ι Ω H){k:Nat}{c:Cell}(h:Ω[k]? = some c):∃a,ι[k]? = some a:=by
 have hk:=(dI.mp h).1;exact⟨ι[k]'(by rw [w.len];exact hk),eX _⟩
theorem Wd.ne(w:Wd K G ι Ω H)(hp:H p=none)(ha:a∈ι):a≠p:=by
 obtain⟨o,ho⟩:=w.live a ha;exact gT ho hp
theorem Wd.lA(w:Wd K G ι Ω H)(hp:H p=none):G p=none:=by
 cases e:G p with
 | none=>rfl
 | some o=>rw [w.sub _ _ e]at hp;cases hp
theorem jI.to{k i:Nat}{b:Addr}{ι':List Addr}{Ω Ω':aF}(h:jI H ι Ω k i b)(h1:∀a,ι[k]? = some a→ι'[k]? = some a∧∀o,H a=some o→H' a=some o)(h2:∀cls fs,Ω[k]? = some (.ins cls fs)→Ω'[k]? = some (.ins cls fs)):jI H' ι' Ω' k i b:=by
 obtain⟨a,cls,fs,C,dx,ws,g,h',fd,q1,q2,q3,q4,q5,q6⟩:=h;exact⟨a,cls,fs,C,dx,ws,g,h',fd,(h1 a q1).1,h2 _ _ q2,(h1 a q1).2 _ q3,q4,q5,q6⟩
theorem jI.no{k i:Nat}{b:Addr}{c:Cell}(h:jI H ι Ω k i b)(hc:Ω[k]? = some c)(hn:c.noOwn=true):False:=by
 obtain⟨a,cls,fs,C,dx,ws,g,h',fd,q1,q2,q3,q4,q5,q6⟩:=h;rw [hc]at q2;cases q2;simp only [Cell.noOwn,UQ]at hn;have:=hn _ (nH q4);simp only []at this;rw [q5]at this;cases this
theorem Wd.grow(w:Wd K G ι Ω H)(s:jB H H'):Wd K G ι Ω H' where
 sub:=w.sub.trans s
 inj:=w.inj
 len:=w.len
 live:=fun a ha=>let ⟨o,ho⟩:=w.live a ha; ⟨o,s _ _ ho⟩
 aD:=fun k c a h1 h2=>by
  have q:=w.aD k c a h1 h2;cases c with
  | lst ds=>obtain⟨g,xs,h1,h2⟩:=q;exact⟨g,xs,s _ _ h1,h2⟩
  | cW kvs=>obtain⟨g,ws,h1,h2,h3⟩:=q;exact⟨g,ws,s _ _ h1,h2,h3⟩
  | ins cls fs=>obtain⟨g,C,dx,ws,h0,h1,h2⟩:=q;exact⟨g,C,dx,ws,h0,s _ _ h1,h2.map fun _ _ q=>q.mono (Ext.refl _ _) fun b o x y z=>⟨x,y,s _ _ z⟩⟩
  | tab x pos qual =>
   obtain⟨g,hc,ps,h1,h2⟩:=q;exact⟨g,hc,ps,s _ _ h1,h2⟩
  | dead=>trivial
 sep:=fun b k i k' i' h1 h2=>by
  have back:∀{k i},jI H' ι Ω k i b→jI H ι Ω k i b:=fun h=>h.to (fun a ha=>⟨ha,fun o ho=>by
   obtain⟨o',iZ⟩:=w.live a (nH ha);have:=s _ _ iZ;rw [ho]at this;cases this;exact iZ⟩) fun _ _ q=>q
  exact w.sep b k i k' i' (back h1) (back h2)
theorem AS{α:Type}:∀{l:List α} {i j:Nat} {x:α},l.Nodup→l[i]? = some x→l[j]? = some x→i=j
 | [],_,_,_,_,h,_=>by simp at h
 | y::l,0,0,_,_,_,_=>rfl
 | y::l,0,j+1,x,n,h1,h2=>by
  simp at h1 h2;subst h1;exact absurd (nH h2) (zI.mp n).1
 | y::l,i+1,0,x,n,h1,h2=>by
  simp at h1 h2;subst h2;exact absurd (nH h1) (zI.mp n).1
 | y::l,i+1,j+1,x,n,h1,h2=>by
  simp at h1 h2;rw [AS (zI.mp n).2 h1 h2]
theorem ET{α:Type}{l:List α}{k:Nat}{x:α}(h:l[k]? = some x):x∈l:=nH h
theorem Ext.new(hp:G p=none)(o:HO):Ext G ι (upd G p o) ι:=⟨jB.new hp,fun _ _ h=>h⟩
theorem Wd.new(w:Wd K G ι Ω H)(hp:H p=none)(o:HO):Wd K (upd G p o) ι Ω (upd H p o)where
 sub:=fun b u h=>by
  by_cases e:b=p
  ·subst e;rw [eA]at h ⊢;exact h
  ·rw [bP e]at h ⊢;exact w.sub _ _ h
 inj:=w.inj
 len:=w.len
 live:=fun a ha=>by rw [bP (w.ne hp ha)];exact w.live a ha
 aD:=fun k c a h1 h2=>by
  have n:=w.ne hp (ET h2);exact(w.aD k c a h1 h2).mono (Ext.new (w.lA hp) o) (bP n) (bP n) fun b u x y z=>by
   have nb:b≠p:=gT z hp;exact⟨x,by rw [bP nb];exact y,by rw [bP nb];exact z⟩
 sep:=fun b k i k' i' h1 h2=>by
  have back:∀{k i},jI (upd H p o) ι Ω k i b→jI H ι Ω k i b:=fun h=>h.to (fun a ha=>⟨ha,fun u hu=>by rwa [bP (w.ne hp (nH ha))]at hu⟩) fun _ _ q=>q;exact w.sep b k i k' i' (back h1) (back h2)
theorem Ext.cell(x:Addr):Ext G ι G (ι++[x]):=⟨jB.refl _,fun k a h=>by
 rw [jL (dI.mp h).1];exact h⟩
theorem Wd.cell(w:Wd K G ι Ω H)(hp:H p=none){o:HO}{c:Cell}(hc:rH K G (ι++[p]) (upd H p o) p c)(JX:c.noOwn=true:=by rfl):Wd K G (ι++[p]) (Ω++[c]) (upd H p o)where
 sub:=fun b u h=>by
  have e:b≠p:=fun e=>by subst e;rw [w.sub _ _ h]at hp;cases hp
  rw [bP e];exact w.sub _ _ h
 inj:=by
  rw [UM];exact⟨w.inj,by simp,fun a ha b hb=>by simp at hb;subst hb;exact w.ne hp ha⟩
 len:=by simp [w.len]
 live:=fun a ha=>by
  rcases oZ.mp ha with h | h
  ·rw [bP (w.ne hp h)];exact w.live a h
  ·simp at h;subst h;exact⟨o,eA⟩
 aD:=fun k c' a h1 h2=>by
  by_cases hk:k<ι.length
  ·rw [jL hk]at h2;rw [jL (by rw [← w.len];exact hk)]at h1;exact(w.aD k c' a h1 h2).mono (Ext.cell p) rfl (bP (w.ne hp (ET h2))) fun b u x y z=>by
    have nb:b≠p:=gT z hp;exact⟨by simp [x,nb],y,by rw [bP nb];exact z⟩
  ·have kM:k=ι.length:=by
    have:=(dI.mp h2).1;simp at this;omega
   subst kM;simp at h2;subst h2;rw [w.len]at h1;simp at h1;subst h1;exact hc
 sep:=fun b k i k' i' h1 h2=>by
  have back:∀{k i},jI (upd H p o) (ι++[p]) (Ω++[c]) k i b→jI H ι Ω k i b:=fun{k i} h=>by
   have h0:=h;obtain⟨a,cls,fs,C,dx,ws,g,h',fd,q1,q2,q3,q4,q5,q6⟩:=h
   by_cases hk:k<Ω.length
   ·rw [jL hk]at q2;rw [jL (by rw [w.len];exact hk)]at q1;rw [bP (w.ne hp (ET q1))]at q3;exact⟨a,cls,fs,C,dx,ws,g,h',fd,q1,q2,q3,q4,q5,q6⟩
   ·have kM:k=Ω.length:=by
     have:=(dI.mp q2).1;simp at this;omega
    subst kM;exact(h0.no (by simp) JX).elim
  exact w.sep b k i k' i' (back h1) (back h2)
theorem Wd.put(w:Wd K G ι Ω H){k:Nat}{c:Cell}{o:HO}(hk:ι[k]? = some a)(hg:G a=none)(hc:rH K G ι (upd H a o) a c)(JX:c.noOwn=true:=by rfl):Wd K G ι (Ω.set k c) (upd H a o)where
 sub:=fun b u h=>by
  have e:b≠a:=fun e=>by subst e;rw [hg]at h;cases h
  rw [bP e];exact w.sub _ _ h
 inj:=w.inj
 len:=by rw [HC];exact w.len
 live:=fun b hb=>by
  by_cases e:b=a
  ·subst e;exact⟨o,eA⟩
  ·rw [bP e];exact w.live b hb
 aD:=fun j c' b h1 h2=>by
  by_cases hj:j=k
  ·subst hj;rw [hk]at h2;cases h2;have hl:j<Ω.length:=by rw [← w.len];exact(dI.mp hk).1
   rw [eT hl]at h1;cases h1;exact hc
  ·rw [dZ (cQ hj)]at h1;have eW:b≠a:=fun e=>by
    subst e;exact hj (AS w.inj h2 hk)
   exact(w.aD j c' b h1 h2).mono (Ext.refl _ _) rfl (bP eW) fun b u x y z=>by
    have nb:b≠a:=fun e=>by subst e;exact x (ET hk)
    exact⟨x,y,by rw [bP nb];exact z⟩
 sep:=fun b j i j' i' h1 h2=>by
  have back:∀{j i},jI (upd H a o) ι (Ω.set k c) j i b→jI H ι Ω j i b:=fun{j i} h=>by
   have h0:=h;obtain⟨a',cls,fs,C,dx,ws,g,h',fd,q1,q2,q3,q4,q5,q6⟩:=h
   by_cases hj:j=k
   ·subst hj;have hl:j<Ω.length:=by rw [← w.len];exact(dI.mp hk).1
    exact(h0.no (by rw [eT hl]) JX).elim
   ·rw [dZ (cQ hj)]at q2;have eW:a'≠a:=fun e=>by subst e;exact hj (AS w.inj q1 hk)
    rw [bP eW]at q3;exact⟨a',cls,fs,C,dx,ws,g,h',fd,q1,q2,q3,q4,q5,q6⟩
  exact w.sep b j i j' i' (back h1) (back h2)
theorem Wd.freeze(w:Wd K G ι Ω H){k:Nat}{o:HO}(hk:ι[k]? = some a)(hg:G a=none)(ho:H a=some o):Wd K (upd G a o) ι (Ω.set k .dead) H where
 sub:=fun b u h=>by
  by_cases e:b=a
  ·subst e;rw [eA]at h;cases h;exact ho
  ·rw [bP e]at h;exact w.sub _ _ h
 inj:=w.inj
 len:=by rw [HC];exact w.len
 live:=w.live
 aD:=fun j c' b h1 h2=>by
  by_cases hj:j=k
  ·subst hj;have hl:j<Ω.length:=by rw [← w.len];exact(dI.mp hk).1
   rw [eT hl]at h1;cases h1;trivial
  ·rw [dZ (cQ hj)]at h1;have eW:b≠a:=fun e=>by
    subst e;exact hj (AS w.inj h2 hk)
   exact(w.aD j c' b h1 h2).mono (Ext.new hg o) (bP eW) rfl fun b u x y z=>by
    have nb:b≠a:=fun e=>by subst e;exact x (ET hk)
    exact⟨x,by rw [bP nb];exact y,z⟩
 sep:=fun b j i j' i' h1 h2=>by
  have back:∀{j i},jI H ι (Ω.set k .dead) j i b→jI H ι Ω j i b:=fun{j i} h=>by
   have h0:=h;obtain⟨a',cls,fs,C,dx,ws,g,h',fd,q1,q2,q3,q4,q5,q6⟩:=h
   by_cases hj:j=k
   ·subst hj;have hl:j<Ω.length:=by rw [← w.len];exact(dI.mp hk).1
    exact(h0.no (by rw [eT hl]) rfl).elim
   ·rw [dZ (cQ hj)]at q2;exact⟨a',cls,fs,C,dx,ws,g,h',fd,q1,q2,q3,q4,q5,q6⟩
  exact w.sep b j i j' i' (back h1) (back h2)
end
def iN(K:Frag)(G:Hp)(ι:List Addr)(σ:L2.St)(ρ:Ev):Prop:=σ.length=ρ.length∧∀(i:Nat) (d:A),ρ[i]? = some (some d)→∃v,σ[i]? = some (some v)∧Den K G ι v d
theorem iN.ext{K:Frag}{G G':Hp}{ι ι':List Addr}{σ:L2.St}{ρ:Ev}(r:iN K G ι σ ρ)(e:Ext G ι G' ι'):iN K G' ι' σ ρ:=⟨r.1,fun i d h=>let ⟨v,h1,h2⟩:=r.2 i d h; ⟨v,h1,h2.ext e⟩⟩
theorem iN.set{K:Frag}{G:Hp}{ι:List Addr}{σ:L2.St}{ρ:Ev}(r:iN K G ι σ ρ)(j:Nat){v:V}{d:A}(h:Den K G ι v d):iN K G ι (σ.set j (some v)) (ρ.set j (some d)):=by
 refine⟨by rw [HC,HC];exact r.1,fun i e he=>?_⟩
 by_cases BQ:i=j
 ·subst BQ;have hl:i<ρ.length:=by
   have:=(dI.mp he).1;rwa [HC]at this
  rw [eT hl]at he;cases he;exact⟨v,eT (by rw [r.1];exact hl),h⟩
 ·rw [dZ (cQ BQ)]at he ⊢;exact r.2 i e he
def aaD(K:Frag)(G:Hp)(ι:List Addr)(H:Hp)(x:Exc)(cls:Value)(dx:Option Addr):Prop :=
 (∃C,nsIn K mainGlobals x.cls=some (some (.ref C))∧cls = .ref C)∧((x.fs=[]∧dx=none)∨∃d f i,dx=some d∧x.fs=[(f,.int i)]∧G d=some (.xd [(f,.int i)]))
abbrev Rl(α β:Type):=Hp→List Addr→β→α→Prop
def bQ{α β:Type}(K:Frag)(rel:Rl α β)(W:WX)(G:Hp)(ι:List Addr)(σ:L2.St)(Q:β→Hp→Prop):Option (Rs α×aF)→Prop
 | some (.ok a,Ω')=>∀v H' G' ι',Ext G ι G' ι'→Wd K G' ι' Ω' H'→rel G' ι' v a→Q v H'
 | some (.exc x,Ω')=>∀cls dx H' G' ι',Ext G ι G' ι'→Wd K G' ι' Ω' H'→aaD K G' ι' H' x cls dx→W σ cls dx H'
 | none=>False
theorem bQ.ext{α β:Type}{K:Frag}{rel:Rl α β}{W:WX}{G G1:Hp}{ι ι1:List Addr}{σ:L2.St}{Q:β→Hp→Prop}{r:Option (Rs α×aF)}(h:bQ K rel W G ι σ Q r)(e:Ext G ι G1 ι1):bQ K rel W G1 ι1 σ Q r:=by
 match r,h with
 | some (.ok a,Ω'),h=>exact fun v H' G' ι' x w d=>h v H' G' ι' (e.trans x) w d
 | some (.exc x,Ω'),h=>exact fun cls dx H' G' ι' x w d=>h cls dx H' G' ι' (e.trans x) w d
theorem bQ.mb{α β γ δ:Type}{K:Frag}{rel:Rl α β}{yB:Rl γ δ}{W:WX}{G:Hp}{ι:List Addr}{σ:L2.St}{Q:δ→Hp→Prop}{Q1:β→Hp→Prop}{m:Mo α}{k:α→Mo γ}{Ω:aF}(h:bQ K yB W G ι σ Q (mb m k Ω))
  (hk:∀a Ω1 v H1 G1 ι1,Ext G ι G1 ι1→Wd K G1 ι1 Ω1 H1→rel G1 ι1 v a→bQ K yB W G1 ι1 σ Q (k a Ω1)→Q1 v H1):bQ K rel W G ι σ Q1 (m Ω):=by
 unfold V2.mb at h
 revert h
 generalize m Ω=r;intro h
 match r,h with
 | some (.ok a,Ω1),h=>exact fun v H1 G1 ι1 x w d=>hk a Ω1 v H1 G1 ι1 x w d (bQ.ext h x)
 | some (.exc x,Ω1),h=>exact h
theorem bQ.need{α β γ:Type}{K:Frag}{yB:Rl α β}{W:WX}{G:Hp}{ι:List Addr}{σ:L2.St}{Q:β→Hp→Prop}{o:Option γ}{k:γ→Mo α}{Ω:aF}(h:bQ K yB W G ι σ Q (V2.mb (need o) k Ω)):∃a,o=some a∧bQ K yB W G ι σ Q (k a Ω):=by
 cases o with
 | none=>exact False.elim h
 | some a=>exact⟨a,rfl,h⟩
theorem bQ.oX{α β:Type}{K:Frag}{yB:Rl α β}{W:WX}{G:Hp}{ι:List Addr}{σ:L2.St}{Q:β→Hp→Prop}{p:Prop} [Decidable p]{k:Unit→Mo α}{Ω:aF}(h:bQ K yB W G ι σ Q (V2.mb (oX p) k Ω)):p∧bQ K yB W G ι σ Q (k () Ω):=by
 unfold V2.mb V2.oX at h
 by_cases hp:p
 ·rw [if_pos hp]at h;exact⟨hp,h⟩
 ·rw [if_neg hp]at h;exact False.elim h
def fK{α β:Type}(K:Frag)(rel:Rl α β)(W:WX)(t:L2.St→Hp→(β→Hp→Prop)→Prop)(f:Ev→Mo α):Prop :=
 ∀G ι Ω H σ ρ Q,Wd K G ι Ω H→iN K G ι σ ρ→bQ K rel W G ι σ Q (f ρ Ω)→t σ H Q
def AK:Rl Bool Bool:=fun _ _ b c=>b=c
def VE(X:Cx)(W:WX)(e:Expr)(f:Ev→Mo A):Prop:=∃t,PE X e t∧fK X.K (Den X.K) W t f
def VT(X:Cx)(W:WX)(e:Expr)(f:Ev→Mo Bool):Prop:=∃t,PT X e t∧fK X.K AK W t f
def VW(X:Cx)(W:WX)(e:Expr)(f:Ev→Mo Bool):Prop:=∃t,PW X e t∧fK X.K AK W t f
def VA(X:Cx)(W:WX)(es:List Expr)(f:Ev→Mo (List A)):Prop:=∃t,PA X es t∧fK X.K (bD X.K) W t f
end V2
namespace V2
open PySem PySem.Spec PyProof.Rows L2
section
variable{K:Frag}{G H:Hp}{ι:List Addr}{Ω:aF}{v:V}{a:A}
def cK(Ω:aF):A→Option (List A)
 | .lst ds=>some ds
 | .dB ns=>some (ns.map A.int)
 | .aD k=>match Ω[k]? with
  | some (.lst ds)=>some ds
  | _=>none
 | _=>none
def dO(Ω:aF):A→Option (List A)
 | .tup ds=>some ds
 | a=>cK Ω a
theorem qV(w:Wd K G ι Ω H)(d:Den K G ι v a){ds:List A}(h:cK Ω a=some ds):∃p xs,v = .ref p∧dG K H p xs∧bD K G ι xs ds:=by
 cases a with
 | lst es =>
  simp only [cK,kD]at h;subst h;simp only [Den]at d;obtain⟨p,xs,h1,h2,h3⟩:=d;exact⟨p,xs,h1,dG.of (w.sub _ _ h2),h3⟩
 | dB ns =>
  simp only [cK,kD]at h;subst h;simp only [Den]at d;obtain⟨p,h1,h2⟩:=d;exact⟨p,_,h1,w.sub.seq h2,Gk ns⟩
 | aD k =>
  simp only [cK]at h;cases e:Ω[k]? with
  | none=>rw [e]at h;cases h
  | some c =>
   rw [e]at h;cases c with
   | lst es =>
    simp only [kD]at h;subst h;simp only [Den]at d;obtain⟨p,h1,h2⟩:=d;obtain⟨g,xs,h3,h4⟩:=w.aD k _ p e h2;exact⟨p,xs,h1,dG.of h3,h4⟩
   | _=>cases h
 | _=>simp [cK]at h
theorem OZ(w:Wd K G ι Ω H)(d:Den K G ι v a){ds:List A}(h:dO Ω a=some ds):∃p xs,v = .ref p∧(dG K H p xs∨gA K H p xs)∧bD K G ι xs ds:=by
 cases a with
 | tup es =>
  simp only [dO,kD]at h;subst h;simp only [Den]at d;obtain⟨p,xs,h1,h2,h3⟩:=d;exact⟨p,xs,h1,.inr (gA.of (w.sub _ _ h2)),h3⟩
 | _ =>
  obtain⟨p,xs,h1,h2,h3⟩:=qV w d h;exact⟨p,xs,h1,.inl h2,h3⟩
theorem Ph(w:Wd K G ι Ω H)(d:Den K G ι v a){ds:List A}(h:cK Ω a=some ds)(hs:∀ns,a ≠ .dB ns):∃p xs,v = .ref p∧H p=some (.lst xs)∧bD K G ι xs ds:=by
 cases a with
 | lst es =>
  simp only [cK,kD]at h;subst h;simp only [Den]at d;obtain⟨p,xs,h1,h2,h3⟩:=d;exact⟨p,xs,h1,w.sub _ _ h2,h3⟩
 | dB ns=>exact absurd rfl (hs ns)
 | aD k =>
  simp only [cK]at h;cases e:Ω[k]? with
  | none=>rw [e]at h;cases h
  | some c =>
   rw [e]at h;cases c with
   | lst es =>
    simp only [kD]at h;subst h;simp only [Den]at d;obtain⟨p,h1,h2⟩:=d;obtain⟨g,xs,h3,h4⟩:=w.aD k _ p e h2;exact⟨p,xs,h1,h3,h4⟩
   | _=>cases h
 | _=>simp [cK]at h
end
@[simp] def nO(c:Bool)(ds:List A):Mo A:=fun Ω=>if c then some (.ok (.aD Ω.length),Ω++[.lst ds])else some (.ok (.lst ds),Ω)
section
variable{K:Frag}{G H:Hp}{ι:List Addr}{Ω:aF}{W:WX}{σ:L2.St}{Q:VK}
theorem JG{c:Bool}{ds:List A}{xs:List V}{p:Addr}(w:Wd K G ι Ω H)(hp:H p=none)(d:bD K G ι xs ds)(h:bQ K (Den K) W G ι σ Q (nO c ds Ω)):Q (.ref p) (upd H p (.lst xs)):=by
 cases c with
 | true =>
  refine h _ _ G (ι++[p]) (Ext.cell p) (w.cell hp ⟨w.lA hp,xs,eA,d.ext (Ext.cell p)⟩) ?_;simp only [Den];exact⟨p,rfl,by rw [← w.len];simp⟩
 | false =>
  refine h _ _ _ _ (Ext.new (w.lA hp) (.lst xs)) (w.new hp _) ?_;simp only [Den];exact⟨p,xs,rfl,eA,d.ext (Ext.new (w.lA hp) _)⟩
@[simp] def Al(ds:List A):Mo A:=ret (.tup ds)
theorem Ak{ds:List A}{xs:List V}{p:Addr}(w:Wd K G ι Ω H)(hp:H p=none)(d:bD K G ι xs ds)(h:bQ K (Den K) W G ι σ Q (Al ds Ω)):Q (.ref p) (upd H p (.tup xs)):=by
 refine h _ _ _ _ (Ext.new (w.lA hp) (.tup xs)) (w.new hp _) ?_;simp only [Den];exact⟨p,xs,rfl,eA,d.ext (Ext.new (w.lA hp) _)⟩
theorem gQ{α β:Type}{rel:Rl α β}{Q:β→Hp→Prop}{a:α}{b:β}(w:Wd K G ι Ω H)(d:rel G ι b a)(h:bQ K rel W G ι σ Q (ret a Ω)):Q b H:=h b H G ι (Ext.refl _ _) w d
end
section
variable{X:Cx}{W:WX}{e a b:Expr}{es:List Expr}{pos:Pos}{fa fb:Ev→Mo A}{fs:Ev→Mo (List A)}
@[simp] def fS(i:Nat):Ev→Mo A:=fun ρ=>need (ρ[i]?).join
theorem join_some{α:Type}{o:Option (Option α)}{x:α}(h:o.join=some x):o=some (some x):=by
 cases o with
 | none=>cases h
 | some y=>cases y with
  | none=>cases h
  | some z=>cases h;rfl
theorem ah2{K:Frag}{i:Nat}:fK K (Den K) W (XT i) (fS i):=by
 intro G ι Ω H σ ρ Q w r h;unfold fS need at h;cases e:(ρ[i]?).join with
 | none=>rw [e]at h;exact False.elim h
 | some d =>
  rw [e]at h;obtain⟨v,h1,h2⟩:=r.2 i d (join_some e);exact⟨v,h1,h v H G ι (Ext.refl _ _) w h2⟩
theorem vv(i:Nat){x:Str}(hN:X.N[i]? = some x:=by rfl)(hv:MU X.env.scope x:=by first | exact Or.inl rfl | exact Or.inr (Or.inl rfl) | exact Or.inr (Or.inr rfl))(hd:(x == ("__debug__" : Str))=false:=by decide)
  (fN:(x == ("__classdict__" : Str))=false:=by decide):VE X W (.Name x pos) (fS i):=⟨_,Aa hN hv hd fN,ah2⟩
@[simp] def DT(i:Nat):Ev→Mo A:=fun ρ Ω=>match (ρ[i]?).join with
 | some (.aD k)=>match Ω[k]? with
  | some (.lst ds)=>some (.ok (.lst ds),Ω.set k .dead)
  | _=>none
 | _=>none
theorem ah4{K:Frag}{i:Nat}:fK K (Den K) W (XT i) (DT i):=by
 intro G ι Ω H σ ρ Q w r h;unfold DT at h;cases e:(ρ[i]?).join with
 | none=>rw [e]at h;exact False.elim h
 | some d =>
  rw [e]at h;cases d with
  | aD k =>
   simp only at h;cases e2:Ω[k]? with
   | none=>rw [e2]at h;exact False.elim h
   | some c =>
    rw [e2]at h;cases c with
    | lst ds =>
     obtain⟨v,h1,h2⟩:=r.2 i _ (join_some e);simp only [Den]at h2;obtain⟨p,rfl,h4⟩:=h2;obtain⟨g,xs,h5,h6⟩:=w.aD k _ p e2 h4;refine⟨_,h1,h _ H (upd G p (.lst xs)) ι (Ext.new g _) (w.freeze h4 g h5) ?_⟩;simp only [Den];exact⟨p,xs,rfl,eA,h6.ext (Ext.new g _)⟩
    | _=>exact False.elim h
  | _=>exact False.elim h
theorem vf(i:Nat){x:Str}(hN:X.N[i]? = some x:=by rfl)(hv:MU X.env.scope x:=by first | exact Or.inl rfl | exact Or.inr (Or.inl rfl) | exact Or.inr (Or.inr rfl))(hd:(x == ("__debug__" : Str))=false:=by decide)
  (fN:(x == ("__classdict__" : Str))=false:=by decide):VE X W (.Name x pos) (DT i):=⟨_,Aa hN hv hd fN,ah4⟩
theorem EG{K:Frag}{v:V}{d:A}(h:∀G ι,Den K G ι v d):fK K (Den K) W (tC v) (fun _=>ret d):=fun G ι _ _ _ _ _ w _ q=>gQ w (h G ι) q
theorem aJ{i:Int}{j}:VE X W (.Constant (.int i) j pos) (fun _=>ret (.int i)):=⟨_,alC,EG fun _ _=>by simp only [Den]⟩
theorem xQ{i:Bool}{j}:VE X W (.Constant (.bool i) j pos) (fun _=>ret (.bl i)):=⟨_,alS,EG fun _ _=>by simp only [Den]⟩
theorem WJ{j}:VE X W (.Constant .none j pos) (fun _=>ret .bR):=⟨_,ak4,EG fun _ _=>by simp only [Den]⟩
theorem OF{x:Str}{j}:VE X W (.Constant (.str x) j pos) (fun _=>ret (.str x)):=⟨_,akY,EG fun _ _=>by simp only [Den]⟩
theorem abB{x:Str}{i:Int}(hg:Gl X x)(hm:∃t,X.mg x=some (.int i t))(hd:(x == ("__debug__" : Str))=false:=by decide):VE X W (.Name x pos) (fun _=>ret (.int i)):=by
 obtain⟨t,hm⟩:=hm;exact⟨_,alE (v := .int i) hg hm ⟨t,rfl⟩ hd,EG fun _ _=>by simp only [Den]⟩
theorem WH{x:Str}{n:String}(hg:Gl X x)(hm:X.mg x=none)(hv:bootBuiltins x=some (.type n))(hn:x ≠ "__name__":=by decide)(hd:(x == ("__debug__" : Str))=false:=by decide):VE X W (.Name x pos) (fun _=>ret (.ty n)) :=
 ⟨_,alR (v := .ty n) hg hm hv rfl hn hd,EG fun _ _=>by simp only [Den]⟩
theorem aO:VA X W [] (fun _=>ret []):=⟨_,IW,fun _ _ _ _ _ _ _ w _ q=>gQ w .nil q⟩
@[simp] def aC(f:Ev→Mo A)(g:Ev→Mo (List A)):Ev→Mo (List A):=fun ρ=>mb (f ρ) fun x=>mb (g ρ) fun xs=>ret (x::xs)
theorem aG(h1:VE X W e fa)(h2:VA X W es fs)(hs:starEach (e::es) X.env=(false,eval e X.env)::starEach es X.env:=by rfl):VA X W (e::es) (aC fa fs):=by
 obtain⟨t,p1,s1⟩:=h1;obtain⟨u,p2,s2⟩:=h2;refine⟨_,AM p1 p2 hs,fun G ι Ω H σ ρ Q w r h=>?_⟩;refine s1 G ι Ω H σ ρ _ w r (bQ.mb h fun x Ω1 v H1 G1 ι1 x1 w1 d1 h1=>?_);refine s2 G1 ι1 Ω1 H1 σ ρ _ w1 (r.ext x1) (bQ.mb h1 fun xs Ω2 vs H2 G2 ι2 x2 w2 d2 h2=>?_);exact gQ w2 (.cons (d1.ext x2) d2) h2
@[simp] def qL(g:Ev→Mo (List A)):Ev→Mo A:=fun ρ=>mb (g ρ) fun xs=>mb (oX (xs.length≤sizeLine)) fun _=>Al xs
theorem rP{k}(h:VA X W es fs):VE X W (.Tuple es k pos) (qL fs):=by
 obtain⟨t,p,s⟩:=h;refine⟨_,akX p,fun G ι Ω H σ ρ Q w r h=>?_⟩;refine s G ι Ω H σ ρ _ w r (bQ.mb h fun xs Ω1 vs H1 G1 ι1 x1 w1 d1 h1=>?_);obtain⟨hl,h2⟩:=bQ.oX h1;exact⟨by rw [d1.length];exact hl,fun p hp=>Ak w1 hp d1 h2⟩
@[simp] def gL(c:Bool)(g:Ev→Mo (List A)):Ev→Mo A:=fun ρ=>mb (g ρ) fun xs=>mb (oX (xs.length≤sizeLine)) fun _=>nO c xs
theorem kS(c:Bool)(h:VA X W es fs):VE X W (.List es pos) (gL c fs):=by
 obtain⟨t,p,s⟩:=h;refine⟨_,ak8 p,fun G ι Ω H σ ρ Q w r h=>?_⟩;refine s G ι Ω H σ ρ _ w r (bQ.mb h fun xs Ω1 vs H1 G1 ι1 x1 w1 d1 h1=>?_);obtain⟨hl,h2⟩:=bQ.oX h1;exact⟨by rw [d1.length];exact hl,fun p hp=>JG w1 hp d1 h2⟩
def rB(K:Frag)(W:WX)(r:R2)(g:A→A→Mo A):Prop :=
 ∀G ι Ω H σ x y a b Q,Wd K G ι Ω H→Den K G ι x a→Den K G ι y b→bQ K (Den K) W G ι σ Q (g a b Ω)→r x y H Q
def jQ(X:Cx)(W:WX)(f:Value→Value→Sem Value)(g:A→A→Mo A):Prop:=∃r,fU X f r∧rB X.K W r g
@[simp] def aB(g:A→A→Mo A)(f h:Ev→Mo A):Ev→Mo A:=fun ρ=>mb (f ρ) fun x=>mb (h ρ) fun y=>g x y
theorem PB{K:Frag}{r:R2}{g:A→A→Mo A}{ta tb:TE}(ho:rB K W r g)(h1:fK K (Den K) W ta fa)(h2:fK K (Den K) W tb fb):fK K (Den K) W (IA r ta tb) (aB g fa fb):=by
 intro G ι Ω H σ ρ Q w q h;refine h1 G ι Ω H σ ρ _ w q (bQ.mb h fun x Ω1 v H1 G1 ι1 x1 w1 d1 h1=>?_);refine h2 G1 ι1 Ω1 H1 σ ρ _ w1 (q.ext x1) (bQ.mb h1 fun y Ω2 u H2 G2 ι2 x2 w2 d2 h2=>?_);exact ho G2 ι2 Ω2 H2 σ v u x y Q w2 (d1.ext x2) d2 h2
theorem aY{op:Operator}{g:A→A→Mo A}(ho:jQ X W (binaryOp op) g)(ha:VE X W a fa)(hb:VE X W b fb):VE X W (.BinOp a op b pos) (aB g fa fb):=by
 obtain⟨r,o1,o2⟩:=ho;obtain⟨t,p1,s1⟩:=ha;obtain⟨u,p2,s2⟩:=hb;exact⟨_,ak1 o1 p1 p2,PB o2 s1 s2⟩
@[simp] def gI(C:Int→Int→Prop) [∀i j,Decidable (C i j)](g:Int→Int→A):A→A→Mo A
 | .int i,.int j=>mb (oX (C i j)) fun _=>ret (g i j)
 | _,_=>stuck
theorem IZ{K:Frag}{C:Int→Int→Prop} [∀i j,Decidable (C i j)]{g:Int→Int→V}{g':Int→Int→A}(hg:∀G ι i j,Den K G ι (g i j) (g' i j)):rB K W (rI C g) (gI C g'):=by
 intro G ι Ω H σ x y a b Q w d1 d2 h;cases a with
 | int i =>
  cases b with
  | int j =>
   simp only [Den]at d1 d2;obtain⟨hc,h2⟩:=bQ.oX h;exact⟨i,j,d1,d2,hc,gQ w (hg _ _ _ _) h2⟩
  | _=>exact False.elim h
 | _=>exact False.elim h
@[simp] def FW(g:Int→Int→A):A→A→Mo A
 | .int i,.int j=>ret (g i j)
 | _,_=>stuck
theorem IY{K:Frag}{g:Int→Int→V}{g':Int→Int→A}(hg:∀G ι i j,Den K G ι (g i j) (g' i j)):rB K W (vT g) (FW g'):=by
 intro G ι Ω H σ x y a b Q w d1 d2 h;cases a with
 | int i =>
  cases b with
  | int j =>
   simp only [Den]at d1 d2;exact⟨i,j,d1,d2,gQ w (hg _ _ _ _) h⟩
  | _=>exact False.elim h
 | _=>exact False.elim h
instance:∀i j,Decidable (kI i j):=fun i j=>by unfold kI;infer_instance
instance:∀i j,Decidable (lH i j):=fun i j=>by unfold lH;infer_instance
instance:∀i j,Decidable (DN i j):=fun i j=>by unfold DN;infer_instance
@[simp] def eO:=FW fun i j => .int (i - j)
@[simp] def fX:=gI kI fun i j => .int (i*j)
@[simp] def jF:=gI lH fun i j => .int (i/j)
@[simp] def fO:=gI (fun _ j=>0<j) fun i j => .int (i%j)
@[simp] def yQ:=gI DN fun i j => .int (i ^ j.toNat)
theorem lN:jQ X W (binaryOp .Sub) eO:=⟨_,al3,IY fun _ _ _ _=>by simp only [Den]⟩
theorem oM:jQ X W (binaryOp .Mult) fX:=⟨_,al8,IZ fun _ _ _ _=>by simp only [Den]⟩
theorem oN:jQ X W (binaryOp .FloorDiv) jF:=⟨_,amG,IZ fun _ _ _ _=>by simp only [Den]⟩
theorem iR:jQ X W (binaryOp .Mod) fO:=⟨_,al9,IZ fun _ _ _ _=>by simp only [Den]⟩
theorem JB:jQ X W (binaryOp .Pow) yQ:=⟨_,al4,IZ fun _ _ _ _=>by simp only [Den]⟩
@[simp] def FE:A→Bool
 | .dB _=>true
 | _=>false
theorem Qo{a:A}(h:FE a=false):∀ns,a ≠ .dB ns:=fun ns e=>by subst e;cases h
@[simp] def RL(c:Bool)(a b:A):Mo A:=fun Ω=>match cK Ω a,cK Ω b with
  | some xs,some ys=>if FE a||FE b||decide (sizeLine<xs.length+ys.length)then none else nO c (xs++ys) Ω
  | _,_=>none
@[simp] def Fs(c:Bool):A→A→Mo A
 | .int i,.int j=>ret (.int (i+j))
 | .tup xs,.tup ys=>mb (oX (0<xs.length∧xs.length+ys.length≤sizeLine)) fun _=>Al (xs++ys)
 | a,b=>RL c a b
theorem al2{K:Frag}{c:Bool}:rB K W Ow (RL c):=by
 intro G ι Ω H σ x y a b Q w d1 d2 h;unfold RL at h
 match e1:cK Ω a,e2:cK Ω b with
 | none,_=>rw [e1]at h;exact False.elim h
 | some xs,none=>rw [e1,e2]at h;exact False.elim h
 | some xs,some ys =>
  rw [e1,e2]at h;simp only at h
  by_cases hb:(FE a||FE b||decide (sizeLine<xs.length+ys.length))=true
  ·rw [if_pos hb]at h;exact False.elim h
  ·rw [if_neg hb]at h;simp only [Bool.or_eq_true,Wj,not_or,Bool.not_eq_true]at hb;obtain⟨p,us,rfl,h2,h3⟩:=Ph w d1 e1 (Qo hb.1.1);obtain⟨q,ws,rfl,h5,h6⟩:=Ph w d2 e2 (Qo hb.1.2);exact⟨p,q,us,ws,rfl,rfl,h2,h5,by rw [h3.length,h6.length];omega,fun r hr=>JG w hr (h3.append h6) h⟩
theorem eG(c:Bool):jQ X W (binaryOp .Add) (Fs c):=by
 refine⟨_,amK.or (amJ.or amI),?_⟩;intro G ι Ω H σ x y a b Q w d1 d2 h;unfold Fs at h;split at h
 ·simp only [Den]at d1 d2;exact .inl ⟨_,_,d1,d2,gQ w (by simp only [Den]) h⟩
 ·rename_i xs ys;simp only [Den]at d1 d2;obtain⟨p,us,rfl,h2,h3⟩:=d1;obtain⟨q,ws,rfl,h5,h6⟩:=d2;obtain⟨⟨c1,c2⟩,h⟩:=bQ.oX h;refine .inr (.inr ⟨p,q,us,ws,rfl,rfl,gA.of (w.sub _ _ h2),gA.of (w.sub _ _ h5),?_,by rw [h3.length,h6.length];exact c2,fun e=>?_,fun _ r hr=>Ak w hr (h3.append h6) h⟩)
  ·intro e;subst e;have:=h3.length;simp at this;omega
  ·subst e;refine gQ w ?_ h;simp only [Den];exact⟨p,us,rfl,h2,by simpa using h3.append h6⟩
 ·exact .inr (.inl (al2 G ι Ω H σ x y _ _ Q w d1 d2 h))
end
def fF:Nat→A→Bool
 | _,.int _=>true
 | _,.bl _=>true
 | _,.bR=>true
 | _,.str x=>PyData.canLay0 (.str x)
 | n+1,.tup ds=>ds.all (fF n)
 | n+1,.lst ds=>ds.all (fF n)
 | _,_=>false
def GA(f:A→A→Bool):List A→List A→Bool
 | [],[]=>true
 | x::xs,y::ys=>f x y&&GA f xs ys
 | _,_=>false
def kO:Nat→A→A→Bool
 | _,.int i,.int j=>i == j
 | _,.bl i,.bl j=>i == j
 | _,.bl i,.int j=>(if i then 1 else 0) == j
 | _,.int i,.bl j=>i == (if j then 1 else 0)
 | _,.bR,.bR=>true
 | _,.str x,.str y=>x == y
 | n+1,.tup xs,.tup ys=>GA (kO n) xs ys
 | n+1,.lst xs,.lst ys=>GA (kO n) xs ys
 | _,_,_=>false
def toPy:Nat→A→PyData
 | _,.int i => .int i
 | _,.bl i => .bool i
 | _,.str x => .str x
 | n+1,.tup ds => .tuple (ds.map (toPy n))
 | n+1,.lst ds => .list (ds.map (toPy n))
 | _,_ => .none
theorem SE:∀(ds:List A) (n:Nat),(∀d∈ds,fF n d=true→PyData.canLay0 (toPy n d)=true)→ds.all (fF n)=true→PyData.canLayAll0 (ds.map (toPy n))=true
 | [],_,_,_=>rfl
 | d::ds,n,ih,h=>by
  simp only [Jn,nK]at h;simp only [dH,PyData.canLayAll0,nK];exact⟨ih d nP h.1,SE ds n (fun e he=>ih e (jK _ he)) h.2⟩
theorem EC:∀(n:Nat) (a:A),fF n a=true→PyData.canLay0 (toPy n a)=true:=by
 intro n
 induction n with
 | zero=>intro a h;cases a <;> first | rfl | exact h | cases h
 | succ n ih =>
  intro a h;cases a with
  | tup ds=>exact SE ds n (fun d _=>ih d) h
  | lst ds=>exact SE ds n (fun d _=>ih d) h
  | str x=>exact h
  | int i=>rfl
  | bl b=>rfl
  | bR=>rfl
  | _=>cases h
theorem Gj:∀(ds:List A) (n:Nat),(∀d∈ds,(toPy n d).depth≤n)→PyData.depthAll (ds.map (toPy n))≤n
 | [],_,_=>CW _
 | d::ds,n,ih=>by
  simp only [dH,PyData.depthAll];exact Nat.max_le.mpr ⟨ih d nP,Gj ds n fun e he=>ih e (jK _ he)⟩
theorem XQ:∀(n:Nat) (a:A),(toPy n a).depth≤n:=by
 intro n
 induction n with
 | zero=>intro a;cases a <;> exact rC _
 | succ n ih =>
  intro a;cases a with
  | tup ds=>exact Nat.succ_le_succ (Gj ds n fun d _=>ih d)
  | lst ds=>exact Nat.succ_le_succ (Gj ds n fun d _=>ih d)
  | _=>exact CW _
theorem Vy:∀(xs ys:List A) (n:Nat),(∀x∈xs,∀y∈ys,PyData.eqv (toPy n x) (toPy n y)=kO n x y)→PyData.eqvAll (xs.map (toPy n)) (ys.map (toPy n))=GA (kO n) xs ys
 | [],[],_,_=>rfl
 | [],_::_,_,_=>rfl
 | _::_,[],_,_=>rfl
 | x::xs,y::ys,n,ih=>by
  simp only [dH,PyData.eqvAll,GA];rw [ih x nP y nP,Vy xs ys n fun a ha b hb=>ih a (jK _ ha) b (jK _ hb)]
theorem XO:∀(n:Nat) (a b:A),fF n a=true→fF n b=true→PyData.eqv (toPy n a) (toPy n b)=kO n a b:=by
 intro n
 induction n with
 | zero=>intro a b ha hb;cases a <;> cases b <;> first | rfl | (simp [fF]at ha;done) | (simp [fF]at hb;done)
 | succ n ih =>
  intro a b ha hb;have lst:∀xs ys:List A,xs.all (fF n)=true→ys.all (fF n)=true→PyData.eqvAll (xs.map (toPy n)) (ys.map (toPy n))=GA (kO n) xs ys:=fun xs ys h1 h2 =>
   Vy xs ys n fun x hx y hy=>ih x y (UQ.mp h1 x hx) (UQ.mp h2 y hy)
  cases a <;> cases b <;> first | rfl | (simp [fF]at ha;done) | (simp [fF]at hb;done) | exact lst _ _ ha hb
section
variable{X:Cx}{pins:List (Addr×Obj)}{σ:L2.St}{H:Hp}{s:Shared}{ι:List Addr}
theorem readsAll(n:Nat)(ih:∀(v:V) (u:Value) (a:A),fF n a=true→Den X.K H ι v a→RelV v u→∃as,Reads s.heap u (toPy n a) as) :
  ∀(ds:List A) (xs:List V) (us:List Value),ds.all (fF n)=true→bD X.K H ι xs ds→Vals xs us→∃as,ReadsAll s.heap us (ds.map (toPy n)) as
 | [],xs,us,_,d,r=>by
  rw [uO]at d;subst d;cases r;exact⟨_,.nil⟩
 | a::ds,xs,us,h,d,r=>by
  obtain⟨x,t,rfl,d1,d2⟩:=d.nM;simp only [Jn,nK]at h;cases r with
  | cons r1 r2 =>
   obtain⟨as,q1⟩:=ih _ _ _ h.1 d1 r1;obtain⟨bs,q2⟩:=readsAll n ih ds _ _ h.2 d2 r2;exact⟨_,.cons q1 q2⟩
theorem EM(I:Inv X pins σ H s):∀(n:Nat) (v:V) (u:Value) (a:A),fF n a=true→Den X.K H ι v a→RelV v u→∃as,Reads s.heap u (toPy n a) as:=by
 intro n
 induction n with
 | zero =>
  intro v u a h d r;cases a with
  | int i=>simp only [Den]at d;subst d;obtain⟨t,rfl⟩:=r;exact⟨_,.int i t⟩
  | bl b=>simp only [Den]at d;subst d;cases r;exact⟨_,.bool b⟩
  | str x=>simp only [Den]at d;subst d;obtain⟨t,rfl⟩:=r;exact⟨_,.str x t⟩
  | bR=>simp only [Den]at d;subst d;cases r;exact⟨_,.none⟩
  | _=>cases h
 | succ n ih =>
  intro v u a h d r;cases a with
  | int i=>simp only [Den]at d;subst d;obtain⟨t,rfl⟩:=r;exact⟨_,.int i t⟩
  | bl b=>simp only [Den]at d;subst d;cases r;exact⟨_,.bool b⟩
  | str x=>simp only [Den]at d;subst d;obtain⟨t,rfl⟩:=r;exact⟨_,.str x t⟩
  | bR=>simp only [Den]at d;subst d;cases r;exact⟨_,.none⟩
  | tup ds =>
   simp only [Den]at d;obtain⟨p,xs,rfl,h2,h3⟩:=d;cases r;obtain⟨aQ,rv,pl,hz⟩:=I.tuple (gA.of h2);obtain⟨as,q⟩:=readsAll n ih ds xs aQ h h3 rv;obtain⟨o,ho,hc,m,hd⟩:=(show s.heap.IsTuple p aQ.toArray from pl);exact⟨_,.tuple ho hc hd (by simpa using q)⟩
  | lst ds =>
   simp only [Den]at d;obtain⟨p,xs,rfl,h2,h3⟩:=d;cases r;obtain⟨aQ,rv,pl,hz⟩:=I.list (dG.of h2);obtain⟨as,q⟩:=readsAll n ih ds xs aQ h h3 rv;obtain⟨o,ho,hc,m,hd⟩:=pl.isList;exact⟨_,.list ho hc hd (by simpa using q)⟩
  | _=>cases h
end
def ZS(K:Frag)(neg:Bool):R2:=fun x y H Q=>∃ι a b,fF 8 a=true∧fF 8 b=true∧Den K H ι x a∧Den K H ι y b∧Q (.bl (if neg then !kO 8 a b else kO 8 a b)) H
theorem amH{X:Cx}(hu:X.A.units+64<cLine):fU X (compareOp .Eq) (ZS X.K false):=by
 intro pins s σ H x y v u Q I rx ry h;obtain⟨ι,a,b,h1,h2,d1,d2,q⟩:=h;obtain⟨as,q1⟩:=EM I 8 x v a h1 d1 rx;obtain⟨bs,q2⟩:=EM I 8 y u b h2 d2 ry;have e1:=XQ 8 a;refine SeqAt.compareEq_reads q1 q2 (EC 8 a h1) (EC 8 b h2) (by omega) ?_;rw [XO 8 a b h1 h2];exact⟨.bl (kO 8 a b),H,I,rfl,q⟩
theorem al7{X:Cx}(hu:X.A.units+64<cLine):fU X (compareOp .NotEq) (ZS X.K true):=by
 intro pins s σ H x y v u Q I rx ry h;obtain⟨ι,a,b,h1,h2,d1,d2,q⟩:=h;obtain⟨as,q1⟩:=EM I 8 x v a h1 d1 rx;obtain⟨bs,q2⟩:=EM I 8 y u b h2 d2 ry;have e1:=XQ 8 a;refine SeqAt.compareNe_reads q1 q2 (EC 8 a h1) (EC 8 b h2) (by omega) ?_;rw [XO 8 a b h1 h2];exact⟨.bl (!kO 8 a b),H,I,rfl,q⟩
def uC(f:A→Option A):List A→Option (List A)
 | []=>some []
 | x::xs=>match f x,uC f xs with
  | some y,some ys=>some (y::ys)
  | _,_=>none
def res(Ω:aF):Nat→A→Option A
 | 0,a=>if fF 8 a=true then some a else none
 | n+1,a=>if fF 8 a=true then some a else match a with
  | .tup ds=>(uC (res Ω n) ds).map .tup
  | .lst ds=>(uC (res Ω n) ds).map .lst
  | .aD k=>match Ω[k]? with
   | some (.lst ds)=>(uC (res Ω n) ds).map .lst
   | _=>none
  | _=>none
section
variable{K:Frag}{G H:Hp}{ι:List Addr}{Ω:aF}
theorem Wd.Vu(w:Wd K G ι Ω H):Ext G ι H ι:=⟨w.sub,fun _ _ h=>h⟩
theorem QO{f:A→Option A}(ih:∀v a b,Den K G ι v a→f a=some b→Den K H ι v b):∀(ds es:List A) (xs:List V),bD K G ι xs ds→uC f ds=some es→bD K H ι xs es
 | [],es,xs,d,h=>by
  simp only [uC,kD]at h;subst h;rw [uO]at d ⊢;exact d
 | a::ds,es,xs,d,h=>by
  obtain⟨x,t,rfl,d1,d2⟩:=d.nM;simp only [uC]at h;split at h
  ·rename_i y ys e1 e2;cases h;exact .cons (ih _ _ _ d1 e1) (QO ih ds ys t d2 e2)
  ·cases h
theorem QG(w:Wd K G ι Ω H):∀(n:Nat) (v:V) (a b:A),Den K G ι v a→res Ω n a=some b→Den K H ι v b:=by
 intro n
 induction n with
 | zero =>
  intro v a b d h;simp only [res]at h;split at h
  ·cases h;exact d.ext w.Vu
  ·cases h
 | succ n ih =>
  intro v a b d h;simp only [res]at h;split at h
  ·cases h;exact d.ext w.Vu
  ·split at h
   ·rename_i ds _;simp only [zF]at h;obtain⟨es,h1,rfl⟩:=h;simp only [Den]at d ⊢;obtain⟨p,xs,q1,q2,q3⟩:=d;exact⟨p,xs,q1,w.sub _ _ q2,QO ih ds es xs q3 h1⟩
   ·rename_i ds _;simp only [zF]at h;obtain⟨es,h1,rfl⟩:=h;simp only [Den]at d ⊢;obtain⟨p,xs,q1,q2,q3⟩:=d;exact⟨p,xs,q1,w.sub _ _ q2,QO ih ds es xs q3 h1⟩
   ·rename_i k _;split at h
    ·rename_i ds e;simp only [zF]at h;obtain⟨es,h1,rfl⟩:=h;simp only [Den]at d ⊢;obtain⟨p,q1,q2⟩:=d;obtain⟨g,xs,q3,q4⟩:=w.aD k _ p e q2;exact⟨p,xs,q1,q3,QO ih ds es xs q4 h1⟩
    ·cases h
   ·cases h
end
def CD(neg:Bool)(a b:A):Mo A:=fun Ω=>match res Ω 6 a,res Ω 6 b with
 | some x,some y=>if(fF 8 x&&fF 8 y)=true then some (.ok (.bl (if neg then !kO 8 x y else kO 8 x y)),Ω)else none
 | _,_=>none
def iA:=CD false
def CC:=CD true
section
variable{X:Cx}{W:WX}{e a b c:Expr}{pos:Pos}{fa fb fc:Ev→Mo A}{ta tb:Ev→Mo Bool}
theorem Qb{K:Frag}{neg:Bool}:rB K W (ZS K neg) (CD neg):=by
 intro G ι Ω H σ x y a b Q w d1 d2 h;unfold CD at h;split at h
 ·rename_i a' b' e1 e2;split at h
  ·rename_i hp;rw [nK]at hp;exact⟨ι,a',b',hp.1,hp.2,QG w 6 x a a' d1 e1,QG w 6 y b b' d2 e2,h _ H G ι (Ext.refl _ _) w (by simp only [Den])⟩
  ·exact False.elim h
 ·exact False.elim h
theorem nN(hu:X.A.units+64<cLine):jQ X W (compareOp .Eq) iA:=⟨_,amH hu,Qb⟩
theorem Ad(hu:X.A.units+64<cLine):jQ X W (compareOp .NotEq) CC:=⟨_,al7 hu,Qb⟩
@[simp] def mI:=FW fun i j => .bl (decide (i<j))
@[simp] def nS:=FW fun i j => .bl (decide (i≤j))
@[simp] def yS:=FW fun i j => .bl (decide (j<i))
@[simp] def FX:=FW fun i j => .bl (decide (j≤i))
theorem sX:jQ X W (compareOp .Lt) mI:=⟨_,amA,IY fun _ _ _ _=>by simp only [Den]⟩
theorem qS:jQ X W (compareOp .LtE) nS:=⟨_,amB,IY fun _ _ _ _=>by simp only [Den]⟩
theorem JC:jQ X W (compareOp .Gt) yS:=⟨_,amD,IY fun _ _ _ _=>by simp only [Den]⟩
theorem Qk:jQ X W (compareOp .GtE) FX:=⟨_,amE,IY fun _ _ _ _=>by simp only [Den]⟩
def sC:A→Option Bool
 | .bR=>some true
 | _=>some false
theorem Si{K:Frag}{G:Hp}{ι:List Addr}{v:V}{a:A}(d:Den K G ι v a):sC a=some (decide (v = .bR)):=by
 cases a with
 | bR=>simp only [Den]at d;subst d;rfl
 | tup ds=>simp only [Den]at d;obtain⟨p,xs,rfl,_⟩:=d;rfl
 | lst ds=>simp only [Den]at d;obtain⟨p,xs,rfl,_⟩:=d;rfl
 | dB ds=>simp only [Den]at d;obtain⟨p,rfl,_⟩:=d;rfl
 | aD ds=>simp only [Den]at d;obtain⟨p,rfl,_⟩:=d;rfl
 | gl x=>simp only [Den]at d;obtain⟨p,_,rfl⟩:=d;rfl
 | LU p d' f i=>simp only [Den]at d;obtain⟨rfl,_⟩:=d;rfl
 | _=>simp only [Den]at d;subst d;rfl
@[simp] def LJ(neg:Bool):A→A→Mo A
 | a,.bR=>mb (need (sC a)) fun k=>ret (.bl (if neg then !k else k))
 | _,_=>stuck
theorem amY:jQ X W (compareOp .Is) (LJ false):=by
 refine⟨_,amC,?_⟩;intro G ι Ω H σ x y a b Q w d1 d2 h;cases b with
 | bR =>
  simp only [Den]at d2;obtain⟨k,e,h⟩:=bQ.need h;rw [Si d1]at e;cases e;exact⟨d2,gQ w (by simp only [Den];rfl) h⟩
 | _=>exact False.elim h
theorem amW:jQ X W (compareOp .IsNot) (LJ true):=by
 refine⟨_,al5,?_⟩;intro G ι Ω H σ x y a b Q w d1 d2 h;cases b with
 | bR =>
  simp only [Den]at d2;obtain⟨k,e,h⟩:=bQ.need h;rw [Si d1]at e;cases e;exact⟨d2,gQ w (by simp only [Den];rfl) h⟩
 | _=>exact False.elim h
@[simp] def yT:A→Mo Bool
 | .bl b=>ret b
 | _=>stuck
@[simp] def bY(f:Ev→Mo A):Ev→Mo Bool:=fun ρ=>mb (f ρ) yT
theorem YF{K:Frag}{t:TE}(h:fK K (Den K) W t fa):fK K AK W (XU t) (bY fa):=by
 intro G ι Ω H σ ρ Q w r q;refine h G ι Ω H σ ρ _ w r (bQ.mb q fun x Ω1 v H1 G1 ι1 x1 w1 d1 h1=>?_);cases x with
 | bl b=>simp only [Den]at d1;exact⟨b,d1,gQ w1 rfl h1⟩
 | _=>exact False.elim h1
theorem sT{op:CmpOp}{g:A→A→Mo A}(ho:jQ X W (compareOp op) g)(ha:VE X W a fa)(hb:VE X W b fb)(hm:behindInMarks op b=false):VE X W (.Compare a [op] [b] pos) (aB g fa fb):=by
 obtain⟨r,o1,o2⟩:=ho;obtain⟨t,p1,s1⟩:=ha;obtain⟨u,p2,s2⟩:=hb;exact⟨_,alL o1 p1 p2 hm,PB o2 s1 s2⟩
theorem fR{op:CmpOp}{g:A→A→Mo A}(ho:jQ X W (compareOp op) g)(ha:VE X W a fa)(hb:VE X W b fb)(hm:behindInMarks op b=false):VT X W (.Compare a [op] [b] pos) (bY (aB g fa fb)):=by
 obtain⟨r,o1,o2⟩:=ho;obtain⟨t,p1,s1⟩:=ha;obtain⟨u,p2,s2⟩:=hb;exact⟨_,ajN o1 p1 p2 hm,YF (PB o2 s1 s2)⟩
@[simp] def DW(g g':A→A→Mo A)(f1 f2 f3:Ev→Mo A):Ev→Mo A:=fun ρ=>mb (f1 ρ) fun x=>mb (f2 ρ) fun y=>mb (g x y) fun z=>mb (yT z) fun k=>if k then mb (f3 ρ) fun u=>g' y u else ret (.bl false)
theorem ah7{K:Frag}{r r':R2}{g g':A→A→Mo A}{t1 t2 t3:TE}(ho:rB K W r g)(iZ:rB K W r' g')(h1:fK K (Den K) W t1 fa)(h2:fK K (Den K) W t2 fb)(h3:fK K (Den K) W t3 fc):fK K (Den K) W (Mw r r' t1 t2 t3) (DW g g' fa fb fc):=by
 intro G ι Ω H σ ρ Q w q h;refine h1 G ι Ω H σ ρ _ w q (bQ.mb h fun x Ω1 v H1 G1 ι1 x1 w1 d1 h1=>?_);refine h2 G1 ι1 Ω1 H1 σ ρ _ w1 (q.ext x1) (bQ.mb h1 fun y Ω2 u H2 G2 ι2 x2 w2 d2 h2=>?_);refine ho G2 ι2 Ω2 H2 σ v u x y _ w2 (d1.ext x2) d2 (bQ.mb h2 fun z Ω3 z' H3 G3 ι3 x3 w3 d3 CA=>?_);cases z with
 | bl k =>
  simp only [Den]at d3;refine⟨k,d3,?_⟩;cases k with
  | true=>exact h3 G3 ι3 Ω3 H3 σ ρ _ w3 (q.ext ((x1.trans x2).trans x3)) (bQ.mb CA fun m Ω4 m' H4 G4 ι4 x4 w4 d4 h4=>iZ G4 ι4 Ω4 H4 σ u m' y m Q w4 (d2.ext (x3.trans x4)) d4 h4)
  | false=>exact gQ w3 (by simp only [Den]) CA
 | _=>exact False.elim CA
theorem Lj{op pF:CmpOp}{g g':A→A→Mo A}(ho:jQ X W (compareOp op) g)(iZ:jQ X W (compareOp pF) g')(ha:VE X W a fa)(hb:VE X W b fb)(hc:VE X W c fc)
  (hm:lastMarks [op,pF] [b,c]=false:=by with_unfolding_all rfl):VT X W (.Compare a [op,pF] [b,c] pos) (bY (DW g g' fa fb fc)):=by
 obtain⟨r,o1,o2⟩:=ho;obtain⟨r',Af,Ae⟩:=iZ;obtain⟨t,p1,s1⟩:=ha;obtain⟨u,p2,s2⟩:=hb;obtain⟨u',p3,s3⟩:=hc;exact⟨_,ajO o1 Af p1 p2 p3 hm,YF (ah7 o2 Ae s1 s2 s3)⟩
theorem sQ(h:VE X W e fa)(he:∀whole,isTrue e X.env whole=(do let v ← whole;standAt e.pos;holding [v] (truthy v)):=by intro _;rfl):VT X W e (bY fa):=by
 obtain⟨t,p,s⟩:=h;exact⟨_,ajL p he,YF s⟩
@[simp] def Mc(f g:Ev→Mo Bool):Ev→Mo Bool:=fun ρ=>mb (f ρ) fun c=>if c then g ρ else ret false
@[simp] def oG(f g:Ev→Mo Bool):Ev→Mo Bool:=fun ρ=>mb (f ρ) fun c=>if c then ret true else g ρ
@[simp] def qM(f:Ev→Mo Bool):Ev→Mo Bool:=fun ρ=>mb (f ρ) fun c=>ret (!c)
variable{rest:List Expr}
theorem aaX(h:VT X W a ta):VW X W (.BoolOp .And [a] pos) ta:=let ⟨t,p,s⟩:=h; ⟨t,pw_and1 p,s⟩
theorem xN(h:VT X W a ta):VW X W (.BoolOp .Or [a] pos) ta:=let ⟨t,p,s⟩:=h; ⟨t,pw_or1 p,s⟩
theorem aaY(h1:VT X W a ta)(h2:VW X W (.BoolOp .And (b::rest) pos) tb):VW X W (.BoolOp .And (a::b::rest) pos) (Mc ta tb):=by
 obtain⟨t,p1,s1⟩:=h1;obtain⟨u,p2,s2⟩:=h2;refine⟨_,pw_and p1 p2,fun G ι Ω H σ ρ Q w r h=>?_⟩;refine s1 G ι Ω H σ ρ _ w r (bQ.mb h fun c Ω1 c' H1 G1 ι1 x1 w1 d1 h1=>?_);cases(show c'=c from d1);cases c with
 | true=>exact s2 G1 ι1 Ω1 H1 σ ρ Q w1 (r.ext x1) h1
 | false=>exact gQ w1 rfl h1
theorem rN(h1:VT X W a ta)(h2:VW X W (.BoolOp .Or (b::rest) pos) tb):VW X W (.BoolOp .Or (a::b::rest) pos) (oG ta tb):=by
 obtain⟨t,p1,s1⟩:=h1;obtain⟨u,p2,s2⟩:=h2;refine⟨_,pw_or p1 p2,fun G ι Ω H σ ρ Q w r h=>?_⟩;refine s1 G ι Ω H σ ρ _ w r (bQ.mb h fun c Ω1 c' H1 G1 ι1 x1 w1 d1 h1=>?_);cases(show c'=c from d1);cases c with
 | false=>exact s2 G1 ι1 Ω1 H1 σ ρ Q w1 (r.ext x1) h1
 | true=>exact gQ w1 rfl h1
theorem VW.vt(h:VW X W e ta):VT X W e ta:=let ⟨t,p,s⟩:=h; ⟨t,p.pt,s⟩
theorem rO(h:VT X W a ta):VT X W (.UnaryOp .Not a pos) (qM ta):=by
 obtain⟨t,p,s⟩:=h;refine⟨_,ajM p,fun G ι Ω H σ ρ Q w r h=>?_⟩;refine s G ι Ω H σ ρ _ w r (bQ.mb h fun c Ω1 c' H1 G1 ι1 x1 w1 d1 h1=>?_);cases(show c'=c from d1);exact gQ w1 rfl h1
@[simp] def zY(f g:Ev→Mo A):Ev→Mo A:=fun ρ=>mb (f ρ) fun x=>mb (yT x) fun c=>if c then g ρ else ret (.bl false)
@[simp] def Lx(f g:Ev→Mo A):Ev→Mo A:=fun ρ=>mb (f ρ) fun x=>mb (yT x) fun c=>if c then ret (.bl true)else g ρ
@[simp] def Ly(f:Ev→Mo A):Ev→Mo A:=fun ρ=>mb (f ρ) fun x=>mb (yT x) fun c=>ret (.bl (!c))
theorem HV{op}(h:VE X W a fa):VE X W (.BoolOp op [a] pos) fa:=let ⟨t,p,s⟩:=h; ⟨t,ak2 p,s⟩
theorem OI(h1:VE X W a fa)(h2:VE X W (.BoolOp .And (b::rest) pos) fb):VE X W (.BoolOp .And (a::b::rest) pos) (zY fa fb):=by
 obtain⟨t,p1,s1⟩:=h1;obtain⟨u,p2,s2⟩:=h2;refine⟨_,alT p1 p2,fun G ι Ω H σ ρ Q w r h=>?_⟩;refine s1 G ι Ω H σ ρ _ w r (bQ.mb h fun x Ω1 v H1 G1 ι1 x1 w1 d1 h1=>?_);cases x with
 | bl c =>
  simp only [Den]at d1;refine⟨c,d1,?_⟩;cases c with
  | true=>exact s2 G1 ι1 Ω1 H1 σ ρ Q w1 (r.ext x1) h1
  | false=>exact gQ w1 (by simp only [Den]) h1
 | _=>exact False.elim h1
theorem aa7(h1:VE X W a fa)(h2:VE X W (.BoolOp .Or (b::rest) pos) fb):VE X W (.BoolOp .Or (a::b::rest) pos) (Lx fa fb):=by
 obtain⟨t,p1,s1⟩:=h1;obtain⟨u,p2,s2⟩:=h2;refine⟨_,ak0 p1 p2,fun G ι Ω H σ ρ Q w r h=>?_⟩;refine s1 G ι Ω H σ ρ _ w r (bQ.mb h fun x Ω1 v H1 G1 ι1 x1 w1 d1 h1=>?_);cases x with
 | bl c =>
  simp only [Den]at d1;refine⟨c,d1,?_⟩;cases c with
  | false=>exact s2 G1 ι1 Ω1 H1 σ ρ Q w1 (r.ext x1) h1
  | true=>exact gQ w1 (by simp only [Den]) h1
 | _=>exact False.elim h1
theorem aa8(h:VE X W a fa):VE X W (.UnaryOp .Not a pos) (Ly fa):=by
 obtain⟨t,p,s⟩:=h;refine⟨_,ak3 p,fun G ι Ω H σ ρ Q w r h=>?_⟩;refine s G ι Ω H σ ρ _ w r (bQ.mb h fun x Ω1 v H1 G1 ι1 x1 w1 d1 h1=>?_);cases x with
 | bl c =>
  simp only [Den]at d1;exact⟨c,d1,gQ w1 (by simp only [Den]) h1⟩
 | _=>exact False.elim h1
@[simp] def WU(t:Ev→Mo Bool)(f g:Ev→Mo A):Ev→Mo A:=fun ρ=>mb (t ρ) fun c=>if c then f ρ else g ρ
theorem Lq(hc:VT X W c ta)(h1:VE X W a fa)(h2:VE X W b fb):VE X W (.IfExp c a b pos) (WU ta fa fb):=by
 obtain⟨t0,p0,s0⟩:=hc;obtain⟨t,p1,s1⟩:=h1;obtain⟨u,p2,s2⟩:=h2;refine⟨_,alD p0 p1 p2,fun G ι Ω H σ ρ Q w r h=>?_⟩;refine s0 G ι Ω H σ ρ _ w r (bQ.mb h fun c Ω1 c' H1 G1 ι1 x1 w1 d1 h1=>?_);cases(show c'=c from d1);cases c with
 | true=>exact s1 G1 ι1 Ω1 H1 σ ρ Q w1 (r.ext x1) h1
 | false=>exact s2 G1 ι1 Ω1 H1 σ ρ Q w1 (r.ext x1) h1
@[simp] def HW(f:Ev→Mo A):Ev→Mo A:=fun ρ=>mb (f ρ) fun x=>match x with
 | .int i=>ret (.int (-i))
 | _=>stuck
theorem Lo(h:VE X W a fa):VE X W (.UnaryOp .USub a pos) (HW fa):=by
 obtain⟨t,p,s⟩:=h;refine⟨_,akW abQ p,fun G ι Ω H σ ρ Q w r h=>?_⟩;refine s G ι Ω H σ ρ _ w r (bQ.mb h fun x Ω1 v H1 G1 ι1 x1 w1 d1 h1=>?_);cases x with
 | int c =>
  simp only [Den]at d1;exact⟨c,d1,gQ w1 (by simp only [Den]) h1⟩
 | _=>exact False.elim h1
end
inductive Out where
 | nx | bk | ct | ret (a:A) | exc (x:Exc)
abbrev OS:=Option (Out×Ev×aF)
abbrev MS:=Ev→aF→OS
def aw8(K:Frag)(W:WX)(G:Hp)(ι:List Addr)(D:Ends)(σ:L2.St)(H:Hp):Out→Prop
 | .nx=>D.nx σ H
 | .bk=>D.bk σ H
 | .ct=>D.ct σ H
 | .ret a=>∀v,Den K G ι v a→D.rt v H
 | .exc x=>∀cls dx,aaD K G ι H x cls dx→W σ cls dx H
def eZ(K:Frag)(W:WX)(G:Hp)(ι:List Addr)(D:Ends):OS→Prop
 | some (o,ρ',Ω')=>∀σ' H' G' ι',Ext G ι G' ι'→Wd K G' ι' Ω' H'→iN K G' ι' σ' ρ'→aw8 K W G' ι' D σ' H' o
 | none=>False
@[simp] def sM{α:Type}(m:Mo α)(ρ:Ev)(k:α→aF→OS):aF→OS:=fun Ω=>match m Ω with
 | some (.ok a,Ω1)=>k a Ω1
 | some (.exc x,Ω1)=>some (.exc x,ρ,Ω1)
 | none=>none
section
variable{K:Frag}{W:WX}{G:Hp}{ι:List Addr}{Ω:aF}{σ:L2.St}{ρ:Ev}{D:Ends}
theorem eZ.ext{G1:Hp}{ι1:List Addr}{r:OS}(h:eZ K W G ι D r)(e:Ext G ι G1 ι1):eZ K W G1 ι1 D r:=by
 match r,h with
 | some (o,ρ',Ω'),h=>exact fun σ' H' G' ι' x w d=>h σ' H' G' ι' (e.trans x) w d
theorem eZ.sM{α β:Type}{rel:Rl α β}{m:Mo α}{k:α→aF→OS}{Q1:β→Hp→Prop}(h:eZ K W G ι D (V2.sM m ρ k Ω))(r:iN K G ι σ ρ)
  (hk:∀a Ω1 v H1 G1 ι1,Ext G ι G1 ι1→Wd K G1 ι1 Ω1 H1→rel G1 ι1 v a→eZ K W G1 ι1 D (k a Ω1)→Q1 v H1):bQ K rel W G ι σ Q1 (m Ω):=by
 unfold V2.sM at h
 revert h
 generalize m Ω=q;intro h
 match q,h with
 | some (.ok a,Ω1),h=>exact fun v H1 G1 ι1 x w d=>hk a Ω1 v H1 G1 ι1 x w d (eZ.ext h x)
 | some (.exc x,Ω1),h=>exact fun cls dx H' G' ι' e w d=>h σ H' G' ι' e w (r.ext e) cls dx d
end
def tR(K:Frag)(W:WX)(t:TS)(f:MS):Prop:=∀G ι Ω H σ ρ D,Wd K G ι Ω H→iN K G ι σ ρ→eZ K W G ι D (f ρ Ω)→t D σ H
def VS(X:Cx)(W:WX)(st:Stmt)(f:MS):Prop:=∃t,PS X st t∧tR X.K W t f
def jG(X:Cx)(W:WX)(st:List Stmt)(f:MS):Prop:=∃t,lT X st t∧tR X.K W t f
def MW(K:Frag)(W:WX)(t:TG)(g:A→MS):Prop:=∀G ι Ω H σ ρ v a D,Wd K G ι Ω H→iN K G ι σ ρ→Den K G ι v a→eZ K W G ι D (g a ρ Ω)→t v σ H D.nx
def aw5(K:Frag)(W:WX)(t:zD)(g:List A→MS):Prop:=∀G ι Ω H σ ρ vs as D,Wd K G ι Ω H→iN K G ι σ ρ→bD K G ι vs as→eZ K W G ι D (g as ρ Ω)→t vs σ H D.nx
def VG(X:Cx)(W:WX)(tg:Expr)(g:A→MS):Prop:=∃t,PG X tg t∧MW X.K W t g
def TU(X:Cx)(W:WX)(tgs:List Expr)(g:List A→MS):Prop:=∃t,MY X tgs t∧aw5 X.K W t g
@[simp] def gB:MS:=fun ρ Ω=>some (.nx,ρ,Ω)
@[simp] def aV(f g:MS):MS:=fun ρ Ω=>match f ρ Ω with
 | some (.nx,ρ1,Ω1)=>g ρ1 Ω1
 | r=>r
section
variable{X:Cx}{W:WX}{st:Stmt}{rest:List Stmt}{f g:MS}{e:Expr}{fe:Ev→Mo A}{pos:Pos}
theorem sY{K:Frag}{G H:Hp}{ι:List Addr}{Ω:aF}{σ:L2.St}{ρ:Ev}{D:Ends}(w:Wd K G ι Ω H)(r:iN K G ι σ ρ)(h:eZ K W G ι D (some (.nx,ρ,Ω))):D.nx σ H:=h σ H G ι (Ext.refl _ _) w r
theorem jC:jG X W [] gB:=⟨_,ajQ,fun _ _ _ _ _ _ _ w r h=>sY w r h⟩
theorem ah3{K:Frag}{t u:TS}(h1:tR K W t f)(h2:tR K W u g):tR K W (Mt t u) (aV f g):=by
 intro G ι Ω H σ ρ D w r h;refine h1 G ι Ω H σ ρ _ w r ?_;unfold aV at h
 revert h
 generalize f ρ Ω=q;intro h
 match q,h with
 | some (.nx,ρ1,Ω1),h=>exact fun σ' H' G' ι' x w' r'=>h2 G' ι' Ω1 H' σ' ρ1 D w' r' (eZ.ext h x)
 | some (.bk,ρ1,Ω1),h=>exact h
 | some (.ct,ρ1,Ω1),h=>exact h
 | some (.ret a,ρ1,Ω1),h=>exact h
 | some (.exc a,ρ1,Ω1),h=>exact h
theorem bE(h1:VS X W st f)(h2:jG X W rest g):jG X W (st::rest) (aV f g):=by
 obtain⟨t,p1,s1⟩:=h1;obtain⟨u,p2,s2⟩:=h2;exact⟨_,ajR p1 p2,ah3 s1 s2⟩
theorem bU(h1:VS X W st f):jG X W [st] f:=let ⟨t,p,s⟩:=h1; ⟨t,ajP p,s⟩
@[simp] def hX(fe:Ev→Mo A):MS:=fun ρ=>sM (fe ρ) ρ fun _ Ω=>some (.nx,ρ,Ω)
theorem pR(h:VE X W e fe)(hs:swapsWith e none pos.line X.env=pure false:=by rfl):VS X W (.Expr e pos) (hX fe):=by
 obtain⟨t,p,s⟩:=h;refine⟨_,aj1 p hs,fun G ι Ω H σ ρ D w r h=>?_⟩;exact s G ι Ω H σ ρ _ w r (eZ.sM h r fun a Ω1 v H1 G1 ι1 x1 w1 d1 h1=>sY w1 (r.ext x1) h1)
@[simp] def cX(fe:Ev→Mo A):MS:=fun ρ=>sM (fe ρ) ρ fun a Ω=>some (.ret a,ρ,Ω)
theorem eN(h:VE X W e fe):VS X W (.Return (some e) pos) (cX fe):=by
 obtain⟨t,p,s⟩:=h;refine⟨_,ajV p,fun G ι Ω H σ ρ D w r h=>?_⟩;exact s G ι Ω H σ ρ _ w r (eZ.sM h r fun a Ω1 v H1 G1 ι1 x1 w1 d1 h1=>h1 σ H1 G1 ι1 (Ext.refl _ _) w1 (r.ext x1) v d1)
@[simp] def eV(c:Ev→Mo Bool)(f g:MS):MS:=fun ρ=>sM (c ρ) ρ fun b Ω=>if b then f ρ Ω else g ρ Ω
theorem iO{c:Expr}{a b:List Stmt}{fc:Ev→Mo Bool}(hc:VT X W c fc)(h1:jG X W a f)(h2:jG X W b g):VS X W (.If c a b pos) (eV fc f g):=by
 obtain⟨t0,p0,s0⟩:=hc;obtain⟨t,p1,s1⟩:=h1;obtain⟨u,p2,s2⟩:=h2;refine⟨_,ajY p0 p1 p2,fun G ι Ω H σ ρ D w r h=>?_⟩;refine s0 G ι Ω H σ ρ _ w r (eZ.sM h r fun c Ω1 c' H1 G1 ι1 x1 w1 d1 h1=>?_);cases(show c'=c from d1);cases c with
 | true=>exact s1 G1 ι1 Ω1 H1 σ ρ D w1 (r.ext x1) h1
 | false=>exact s2 G1 ι1 Ω1 H1 σ ρ D w1 (r.ext x1) h1
@[simp] def gN(i:Nat):A→MS:=fun a ρ Ω=>some (.nx,ρ.set i (some a),Ω)
theorem fE{i:Nat}{x:Str}(hN:X.N.Nodup)(hi:X.N[i]? = some x)(hx:Loc X.env.scope x)(hf:X.fn x=true∨X.env.scope.names.lookup x=some .local:=by first | exact .inl rfl | exact .inr rfl | assumption):VG X W (.Name x pos) (gN i) :=
 ⟨_,Pw hN hi hx hf,fun _ _ _ _ _ _ _ _ _ w r d h=>sY w (r.set i d) h⟩
@[simp] def lC:List A→MS:=fun as ρ Ω=>match as with
 | []=>some (.nx,ρ,Ω)
 | _=>none
@[simp] def eR(g:A→MS)(gs:List A→MS):List A→MS:=fun as=>match as with
 | a::r=>aV (g a) (gs r)
 | []=>fun _ _=>none
theorem vK:TU X W [] lC:=⟨_,akS,fun G ι Ω H σ ρ vs as D w r d h=>by
 cases as with
 | nil=>rw [uO]at d;exact⟨d,sY w r h⟩
 | cons=>exact False.elim h⟩
theorem lX{es:List Expr}{g:A→MS}{gs:List A→MS}(h1:VG X W e g)(h2:TU X W es gs)
  (hs:(assignEach (e::es) X.env).map (·.2)=assign e X.env::(assignEach es X.env).map (·.2):=by rfl):TU X W (e::es) (eR g gs):=by
 obtain⟨t,p1,s1⟩:=h1;obtain⟨u,p2,s2⟩:=h2;refine⟨_,akT p1 p2 hs,fun G ι Ω H σ ρ vs as D w r d h=>?_⟩;cases as with
 | nil=>exact False.elim h
 | cons a as =>
  obtain⟨x,xs,rfl,d1,d2⟩:=d.nM;refine⟨x,xs,rfl,s1 G ι Ω H σ ρ x a { D with nx:=fun σ' H'=>u xs σ' H' D.nx } w r d1 ?_⟩;simp only [eR,aV]at h
  revert h
  generalize g a ρ Ω=q;intro h
  match q,h with
  | some (.nx,ρ1,Ω1),h=>exact fun σ' H' G' ι' x w' r'=>s2 G' ι' Ω1 H' σ' ρ1 xs as D w' r' (d2.ext x) (eZ.ext h x)
  | some (.bk,ρ1,Ω1),h=>exact h
  | some (.ct,ρ1,Ω1),h=>exact h
  | some (.ret a,ρ1,Ω1),h=>exact h
  | some (.exc a,ρ1,Ω1),h=>exact h
@[simp] def kN(n:Nat)(gs:List A→MS):A→MS:=fun a ρ Ω=>match a with
 | .tup ds=>if ds.length=n then gs ds ρ Ω else none
 | _=>none
theorem vL{es:List Expr}{k:Nat}{n:Nat}{gs:List A→MS}(hc:X.calm=true)(h:TU X W es gs)
  (hn:(assignEach es X.env).length=n:=by rfl) (oQ:(assignEach es X.env).findIdx? (·.1)=none:=by rfl):VG X W (.Tuple es k pos) (kN n gs):=by
 obtain⟨t,p,s⟩:=h;refine⟨_,akU hc p hn oQ,fun G ι Ω H σ ρ v a D w r d h=>?_⟩;unfold kN at h;cases a with
 | tup ds =>
  simp only at h
  by_cases hl:ds.length=n
  ·rw [if_pos hl]at h;simp only [Den]at d;obtain⟨p,xs,rfl,h2,h3⟩:=d;exact⟨p,xs,rfl,gA.of (w.sub _ _ h2),by rw [h3.length];exact hl,s G ι Ω H σ ρ xs ds D w r h3 h⟩
  ·rw [if_neg hl]at h;exact False.elim h
 | _=>exact False.elim h
@[simp] def setCell(o i v:A)(Ω:aF):Option aF:=match o,i with
 | .aD k,.int n=>match Ω[k]? with
  | some (.lst ds)=>match pH ds.length n with
   | some j=>some (Ω.set k (.lst (ds.set j v)))
   | none=>none
  | _=>none
 | _,_=>none
@[simp] def RH(fo fi:Ev→Mo A):A→MS:=fun a ρ=>sM (fo ρ) ρ fun o=>sM (fi ρ) ρ fun i Ω=>match setCell o i a Ω with
 | some Ω'=>some (.nx,ρ,Ω')
 | none=>none
theorem Ln{o i:Expr}{fo fi:Ev→Mo A}(ho:VE X W o fo)(hi:VE X W i fi)
  (ha:∀v,assign (.Subscript o i pos) X.env v=(do
   let ov ← holding [v] (eval o X.env)
   let iv ← holding [v,ov] (eval i X.env)
   standAt pos
   holding [v,ov,iv] (setItem ov iv v)
   release [v,ov,iv] []):=by intro _;rfl):VG X W (.Subscript o i pos) (RH fo fi):=by
 obtain⟨t,p1,s1⟩:=ho;obtain⟨u,p2,s2⟩:=hi;refine⟨_,akV p1 p2 set_list ha,fun G ι Ω H σ ρ v a D w r d h=>?_⟩;refine s1 G ι Ω H σ ρ _ w r (eZ.sM h r fun x Ω1 v1 H1 G1 ι1 x1 w1 d1 h1=>?_);refine s2 G1 ι1 Ω1 H1 σ ρ _ w1 (r.ext x1) (eZ.sM h1 (r.ext x1) fun y Ω2 v2 H2 G2 ι2 x2 w2 d2 h2=>?_);unfold setCell at h2;cases x with
 | aD k =>
  cases y with
  | int n =>
   simp only at h2;cases e:Ω2[k]? with
   | none=>rw [e]at h2;exact False.elim h2
   | some c =>
    rw [e]at h2;cases c with
    | lst ds =>
     simp only at h2;cases e2:pH ds.length n with
     | none=>rw [e2]at h2;exact False.elim h2
     | some j =>
      rw [e2]at h2;have Wm:=d1.ext x2;simp only [Den]at Wm d2;obtain⟨p,rfl,hk⟩:=Wm;obtain⟨gg,xs,h5,h6⟩:=w2.aD k _ p e hk;refine⟨p,xs,n,j,rfl,d2,h5,by rw [h6.length];exact e2,?_⟩;refine sY (w2.put (c := .lst (ds.set j a)) hk gg ⟨gg,_,eA,?_⟩) (r.ext (x1.trans x2)) h2;exact bD.set (d.ext (x1.trans x2)) j h6
    | _=>exact False.elim h2
  | _=>exact False.elim h2
 | _=>exact False.elim h2
@[simp] def bK(fe:Ev→Mo A)(g:A→MS):MS:=fun ρ=>sM (fe ρ) ρ fun a Ω=>g a ρ Ω
theorem YG{K:Frag}{te:TE}{t:TG}{g:A→MS}(h1:fK K (Den K) W te fe)(h2:MW K W t g):tR K W (OU te t) (bK fe g):=by
 intro G ι Ω H σ ρ D w r h;exact h1 G ι Ω H σ ρ _ w r (eZ.sM h r fun a Ω1 v H1 G1 ι1 x1 w1 d1 h1=>h2 G1 ι1 Ω1 H1 σ ρ v a D w1 (r.ext x1) d1 h1)
theorem WE{tg:Expr}{g:A→MS}(he:VE X W e fe)(hg:VG X W tg g)(hs:swapsWithSole [tg] e pos.line X.env=pure false:=by rfl)(hw:swappedStores [tg] e X.env=pure none:=by rfl)
  (h1:(assignEach [tg] X.env).map (·.2)=[assign tg X.env]:=by rfl):VS X W (.Assign [tg] e pos) (bK fe g):=by
 obtain⟨t,p1,s1⟩:=he;obtain⟨u,p2,s2⟩:=hg;exact⟨_,aj5 p1 p2 hs hw h1,YG s1 s2⟩
theorem cA{i:Nat}{x:Str}{pos':Pos}(hN:X.N.Nodup)(hi:X.N[i]? = some x)(hx:Loc X.env.scope x)(he:VE X W e fe)(hs:swapsWith e (some (.Name x pos')) pos.line X.env=pure false:=by rfl)(hf:X.fn x=true∨X.env.scope.names.lookup x=some .local:=by first | exact .inl rfl | exact .inr rfl | assumption) :
  VS X W (.Assign [.Name x pos'] e pos) (bK fe (gN i)):=by
 obtain⟨t,p1,s1⟩:=he;exact⟨_,ajU hN hi hx p1 hs hf,YG s1 fun _ _ _ _ _ _ _ _ _ w r d h=>sY w (r.set i d) h⟩
structure Src where
 ds:List A
 ok:aF→Prop
structure tU(K:Frag)(G:Hp)(ι:List Addr)(J:It)(S:Src):Prop where
 go:∀G' ι' Ω' H',Ext G ι G' ι'→Wd K G' ι' Ω' H'→S.ok Ω'→∀i,i<S.ds.length→J.go i H'
 stop:∀G' ι' Ω' H',Ext G ι G' ι'→Wd K G' ι' Ω' H'→S.ok Ω'→∀i,S.ds.length≤i→J.stop i H'
 xJ:∀G' ι' Ω' H',Ext G ι G' ι'→Wd K G' ι' Ω' H'→S.ok Ω'→∀i x H2 d,S.ds[i]? = some d→J.xJ i H' x H2→∃G2,Ext G' ι' G2 ι'∧Wd K G2 ι' Ω' H2∧Den K G2 ι' x d
def ZQ(K:Frag):Rl Src It:=fun G ι J S=>tU K G ι J S
theorem tU.ext{K:Frag}{G G1:Hp}{ι ι1:List Addr}{J:It}{S:Src}(h:tU K G ι J S)(e:Ext G ι G1 ι1):tU K G1 ι1 J S :=
 ⟨fun G' ι' Ω' H' x=>h.go G' ι' Ω' H' (e.trans x),fun G' ι' Ω' H' x=>h.stop G' ι' Ω' H' (e.trans x),fun G' ι' Ω' H' x=>h.xJ G' ι' Ω' H' (e.trans x)⟩
def VI(X:Cx)(W:WX)(tg iter:Expr)(f:Ev→Mo Src):Prop:=∃t,PI X tg iter t∧fK X.K (ZQ X.K) W t f
open Classical in
noncomputable def dS(ok:aF→Prop)(g:A→MS)(b:MS):List A→MS
 | [],ρ,Ω=>if ok Ω then some (.nx,ρ,Ω)else none
 | x::xs,ρ,Ω=>if ok Ω then(match g x ρ Ω with
  | some (.nx,ρ0,Ω0)=>(match b ρ0 Ω0 with
   | some (.nx,ρ1,Ω1)=>dS ok g b xs ρ1 Ω1
   | some (.ct,ρ1,Ω1)=>dS ok g b xs ρ1 Ω1
   | some (.bk,ρ1,Ω1)=>some (.nx,ρ1,Ω1)
   | r=>r)
  | some (.exc e,ρ0,Ω0)=>some (.exc e,ρ0,Ω0)
  | _=>none)else none
@[simp] noncomputable def kK(fi:Ev→Mo Src)(g:A→MS)(b:MS):MS:=fun ρ=>sM (fi ρ) ρ fun S Ω=>dS S.ok g b S.ds ρ Ω
theorem atQ{K:Frag}{G:Hp}{ι:List Addr}{D:Ends}{ok:aF→Prop}{g:A→MS}{b:MS}{xs:List A}{ρ:Ev}{Ω:aF}(h:eZ K W G ι D (dS ok g b xs ρ Ω)):ok Ω:=by
 cases xs with
 | nil =>
  unfold dS at h
  by_cases hp:ok Ω
  ·exact hp
  ·rw [if_neg hp]at h;exact False.elim h
 | cons =>
  unfold dS at h
  by_cases hp:ok Ω
  ·exact hp
  ·rw [if_neg hp]at h;exact False.elim h
theorem ah5{K:Frag}{wi:TI}{tg:TG}{tb:TS}{fi:Ev→Mo Src}{g:A→MS}{b:MS}(hi:fK K (ZQ K) W wi fi)(hg:MW K W tg g)(hb:tR K W tb b):tR K W (Mu wi tg tb) (kK fi g b):=by
 intro G ι Ω H σ ρ D w r h;refine hi G ι Ω H σ ρ _ w r (eZ.sM h r fun S Ω1 J H1 G1 ι1 x1 w1 j1 h1=>?_);refine⟨fun i m σ' H'=>m=S.ds.length - i∧i≤S.ds.length∧∃G' ι' Ω' ρ',Ext G1 ι1 G' ι'∧Wd K G' ι' Ω' H'∧iN K G' ι' σ' ρ'∧eZ K W G' ι' D (dS S.ok g b (S.ds.drop i) ρ' Ω'),
  ⟨_,rfl,CW _,G1,ι1,Ω1,ρ,Ext.refl _ _,w1,r.ext x1,by simpa using h1⟩,?_⟩
 rintro i m σ' H' ⟨rfl,hil,G',ι',Ω',ρ',e',w',r',h'⟩;have aH:=atQ h'
 by_cases iT:i<S.ds.length
 ·right
  refine⟨j1.go G' ι' Ω' H' e' w' aH i iT,fun σ2 H2=>∃G2 ι2 Ω2 ρ2,Ext G1 ι1 G2 ι2∧Wd K G2 ι2 Ω2 H2∧iN K G2 ι2 σ2 ρ2∧eZ K W G2 ι2 D (dS S.ok g b (S.ds.drop (i+1)) ρ2 Ω2),fun σ2 H2 n=>?_,fun x H2 y=>?_⟩
  ·exact⟨S.ds.length - (i+1),by omega,rfl,iT,n⟩
  ·obtain⟨G2,e2,w2,d2⟩:=j1.xJ G' ι' Ω' H' e' w' aH i x H2 S.ds[i] (eX iT) y;rw [List.drop_eq_getElem_cons iT]at h';unfold dS at h';rw [if_pos aH]at h';refine hg G2 ι' Ω' H2 σ' ρ' x S.ds[i] { D with nx:=fun σ3 H3=>tb _ σ3 H3 } w2 (r'.ext e2) d2 ?_
   revert h'
   generalize g S.ds[i] ρ' Ω'=q;intro h'
   match q,h' with
   | some (.nx,ρ3,Ω3),h' =>
    intro σ3 H3 G3 ι3 x3 w3 r3;refine hb G3 ι3 Ω3 H3 σ3 ρ3 _ w3 r3 ?_;simp only at h'
    revert h'
    generalize b ρ3 Ω3=q2;intro h'
    match q2,h' with
    | some (.nx,ρ4,Ω4),h'=>exact fun σ4 H4 G4 ι4 x4 w4 r4=>⟨G4,ι4,Ω4,ρ4,(e'.trans (e2.trans x3)).trans x4,w4,r4,eZ.ext h' ((e2.trans x3).trans x4)⟩
    | some (.ct,ρ4,Ω4),h'=>exact fun σ4 H4 G4 ι4 x4 w4 r4=>⟨G4,ι4,Ω4,ρ4,(e'.trans (e2.trans x3)).trans x4,w4,r4,eZ.ext h' ((e2.trans x3).trans x4)⟩
    | some (.bk,ρ4,Ω4),h'=>exact fun σ4 H4 G4 ι4 x4 w4 r4=>h' σ4 H4 G4 ι4 ((e2.trans x3).trans x4) w4 r4
    | some (.ret a,ρ4,Ω4),h'=>exact fun σ4 H4 G4 ι4 x4 w4 r4=>h' σ4 H4 G4 ι4 ((e2.trans x3).trans x4) w4 r4
    | some (.exc a,ρ4,Ω4),h'=>exact fun σ4 H4 G4 ι4 x4 w4 r4=>h' σ4 H4 G4 ι4 ((e2.trans x3).trans x4) w4 r4
   | some (.exc a,ρ3,Ω3),h'=>exact fun σ4 H4 G4 ι4 x4 w4 r4=>h' σ4 H4 G4 ι4 (e2.trans x4) w4 r4
 ·have KI:i=S.ds.length:=by omega
  subst KI
  left
  rw [List.drop_length]at h';unfold dS at h';rw [if_pos aH]at h';exact⟨j1.stop G' ι' Ω' H' e' w' aH _ cJ,sY w' r' h'⟩
theorem oF{tg iter:Expr}{body:List Stmt}{fi:Ev→Mo Src}{g:A→MS}{b:MS}(hp:PassesOwn (model X.prog X.w) X.A X.env X.xe)(hc:X.calm=true)(hi:VI X W tg iter fi)(hg:VG X W tg g)(hb:jG X W body b)
  (hs:∀x,foldedSetIterable iter X.env x=pure x:=by intro _;rfl):VS X W (.For tg iter body [] pos) (kK fi g b):=by
 obtain⟨t1,p1,s1⟩:=hi;obtain⟨t2,p2,s2⟩:=hg;obtain⟨t3,p3,s3⟩:=hb;exact⟨_,ajZ hp hc p1 p2 p3 hs,ah5 s1 s2 s3⟩
def nD(c:Ev→Mo Bool)(b:MS):Nat→MS
 | 0,_,_=>none
 | n+1,ρ,Ω=>sM (c ρ) ρ (fun k Ω1=>if k then(match b ρ Ω1 with
   | some (.nx,ρ1,Ω2)=>nD c b n ρ1 Ω2
   | some (.ct,ρ1,Ω2)=>nD c b n ρ1 Ω2
   | some (.bk,ρ1,Ω2)=>some (.nx,ρ1,Ω2)
   | r=>r)else some (.nx,ρ,Ω1)) Ω
theorem ah1{K:Frag}{tc:TT}{tb:TS}{c:Ev→Mo Bool}{b:MS}(n:Ev→aF→Nat)(hc:fK K AK W tc c)(hb:tR K W tb b):tR K W (Ms tc tb) (fun ρ Ω=>nD c b (n ρ Ω) ρ Ω):=by
 intro G ι Ω H σ ρ D w r h;refine⟨fun m σ' H'=>∃G' ι' Ω' ρ',Ext G ι G' ι'∧Wd K G' ι' Ω' H'∧iN K G' ι' σ' ρ'∧eZ K W G' ι' D (nD c b m ρ' Ω'),⟨_,G,ι,Ω,ρ,Ext.refl _ _,w,r,h⟩,?_⟩;rintro m σ' H' ⟨G',ι',Ω',ρ',e',w',r',h'⟩;cases m with
 | zero=>exact False.elim h'
 | succ m =>
  unfold nD at h';refine hc G' ι' Ω' H' σ' ρ' _ w' r' (eZ.sM h' r' fun k Ω1 k' H1 G1 ι1 x1 w1 d1 h1=>?_);cases(show k'=k from d1);cases k with
  | false=>exact sY w1 (r'.ext x1) h1
  | true =>
   refine⟨fun σ2 H2=>∃G2 ι2 Ω2 ρ2,Ext G ι G2 ι2∧Wd K G2 ι2 Ω2 H2∧iN K G2 ι2 σ2 ρ2∧eZ K W G2 ι2 D (nD c b m ρ2 Ω2),fun σ2 H2 q=>⟨m,Iz _,q⟩,?_⟩;refine hb G1 ι1 Ω1 H1 σ' ρ' _ w1 (r'.ext x1) ?_;simp only [fW]at h1
   revert h1
   generalize b ρ' Ω1=q;intro h1
   match q,h1 with
   | some (.nx,ρ4,Ω4),h1=>exact fun σ4 H4 G4 ι4 x4 w4 r4=>⟨G4,ι4,Ω4,ρ4,(e'.trans x1).trans x4,w4,r4,eZ.ext h1 x4⟩
   | some (.ct,ρ4,Ω4),h1=>exact fun σ4 H4 G4 ι4 x4 w4 r4=>⟨G4,ι4,Ω4,ρ4,(e'.trans x1).trans x4,w4,r4,eZ.ext h1 x4⟩
   | some (.bk,ρ4,Ω4),h1=>exact fun σ4 H4 G4 ι4 x4 w4 r4=>h1 σ4 H4 G4 ι4 x4 w4 r4
   | some (.ret a,ρ4,Ω4),h1=>exact fun σ4 H4 G4 ι4 x4 w4 r4=>h1 σ4 H4 G4 ι4 x4 w4 r4
   | some (.exc a,ρ4,Ω4),h1=>exact fun σ4 H4 G4 ι4 x4 w4 r4=>h1 σ4 H4 G4 ι4 x4 w4 r4
theorem Lk{ce:Expr}{body:List Stmt}{c:Ev→Mo Bool}{b:MS}(n:Ev→aF→Nat)(hp:PassesOwn (model X.prog X.w) X.A X.env X.xe)(hc:VT X W ce c)(hb:jG X W body b):VS X W (.While ce body [] pos) (fun ρ Ω=>nD c b (n ρ Ω) ρ Ω):=by
 obtain⟨t1,p1,s1⟩:=hc;obtain⟨t2,p2,s2⟩:=hb;exact⟨_,ajS hp p1 p2,ah1 n s1 s2⟩
@[simp] def srcOf(a:A)(ds:List A):Src:=⟨ds,fun Ω=>dO Ω a=some ds⟩
theorem Rp{Ω:aF}{a:A}{ds:List A}(h:dO Ω a=some ds)(ha:∀es,a ≠ .tup es):cK Ω a=some ds:=by
 cases a with
 | tup es=>exact absurd rfl (ha es)
 | _=>exact h
theorem akN{tg l:Expr}{tl:TE}(hl:PE X l tl):PI X tg l (fun σ H R=>tl σ H fun x H1=>∃a,x = .ref a∧(((∃xs,dG X.K H1 a xs)∧R (Jt X.K a) H1)∨((∃xs,gA X.K H1 a xs)∧R (Js X.K a) H1))):=by
 intro pins s σ H R I h;refine bG (hl pins s σ H _ I h) fun v s1 ⟨x,H1,I1,r1,q1⟩=>?_;obtain⟨a,e,q⟩:=q1;subst e;cases r1
 rcases q with⟨⟨xs,hq⟩,q⟩ | ⟨⟨xs,hq⟩,q⟩
 ·obtain⟨aQ,rv,p,hz⟩:=I1.list hq;refine VR p.isList ?_;refine⟨s1.heap.objs.size,[s1.heap.objs.size],_,_,H1,rfl,I1.kept (t':=s1.toks) fun b o e=>eL _ e,abY a _,⟨_,kH _ rfl,rfl,rfl⟩,fun b hb=>?_,q⟩;have e:b=s1.heap.objs.size:=by simpa using hb
  subst e;exact I1.pX cJ (I1.aH.fresh cJ)
 ·obtain⟨aQ,rv,p,hz⟩:=I1.tuple hq;refine wpAny_pyIter_tuple (show s1.heap.IsTuple a aQ.toArray from p) ?_;refine⟨s1.heap.objs.size,[s1.heap.objs.size],_,_,H1,rfl,I1.kept (t':=s1.toks) fun b o e=>eL _ e,abW a _,⟨_,kH _ rfl,rfl,rfl⟩,fun b hb=>?_,q⟩;have e:b=s1.heap.objs.size:=by simpa using hb
  subst e;exact I1.pX cJ (I1.aH.fresh cJ)
@[simp] def fV(f:Ev→Mo A):Ev→Mo Src:=fun ρ=>mb (f ρ) fun a Ω=>match dO Ω a with
 | some ds=>some (.ok (srcOf a ds),Ω)
 | none=>none
theorem apF{K:Frag}{G:Hp}{ι:List Addr}{p:Addr}{a:A}{ds:List A}(d:Den K G ι (.ref p) a)(ha:∀es,a ≠ .tup es):tU K G ι (Jt K p) (srcOf a ds):=by
 have key:∀G' ι' Ω' H',Ext G ι G' ι'→Wd K G' ι' Ω' H'→dO Ω' a=some ds→∃xs,dG K H' p xs∧bD K G' ι' xs ds:=fun G' ι' Ω' H' e w h=>by
  obtain⟨q,xs,h1,h2,h3⟩:=qV w (d.ext e) (Rp h ha);cases h1;exact⟨xs,h2,h3⟩
 refine⟨fun G' ι' Ω' H' e w h i hi=>?_,fun G' ι' Ω' H' e w h i hi=>?_,fun G' ι' Ω' H' e w h i x H2 y hy hd=>?_⟩
 ·obtain⟨xs,h2,h3⟩:=key G' ι' Ω' H' e w h;have hl:i<xs.length:=by rw [h3.length];exact hi
  exact⟨xs,xs[i],h2,eX hl⟩
 ·obtain⟨xs,h2,h3⟩:=key G' ι' Ω' H' e w h;exact⟨xs,h2,by rw [h3.length];exact hi⟩
 ·obtain⟨xs,h2,h3⟩:=key G' ι' Ω' H' e w h;obtain⟨e1,e2⟩:=hd;subst e1;obtain⟨z,q1,q2⟩:=h3.get hy;rw [e2 xs h2]at q1;cases q1;exact⟨G',Ext.refl _ _,w,q2⟩
theorem apE{K:Frag}{G:Hp}{ι:List Addr}{p:Addr}{ds es:List A}(d:Den K G ι (.ref p) (.tup es)):tU K G ι (Js K p) (srcOf (.tup es) ds):=by
 have key:∀G' ι' Ω' H',Ext G ι G' ι'→Wd K G' ι' Ω' H'→dO Ω' (.tup es)=some ds→∃xs,gA K H' p xs∧bD K G' ι' xs ds:=fun G' ι' Ω' H' e w h=>by
  simp only [dO,kD]at h;subst h;have d':=d.ext e;simp only [Den]at d';obtain⟨q,xs,h1,h2,h3⟩:=d';cases h1;exact⟨xs,gA.of (w.sub _ _ h2),h3⟩
 refine⟨fun G' ι' Ω' H' e w h i hi=>?_,fun G' ι' Ω' H' e w h i hi=>?_,fun G' ι' Ω' H' e w h i x H2 y hy hd=>?_⟩
 ·obtain⟨xs,h2,h3⟩:=key G' ι' Ω' H' e w h;have hl:i<xs.length:=by rw [h3.length];exact hi
  exact⟨xs,xs[i],h2,eX hl⟩
 ·obtain⟨xs,h2,h3⟩:=key G' ι' Ω' H' e w h;exact⟨xs,h2,by rw [h3.length];exact hi⟩
 ·obtain⟨xs,h2,h3⟩:=key G' ι' Ω' H' e w h;obtain⟨e1,e2⟩:=hd;subst e1;obtain⟨z,q1,q2⟩:=h3.get hy;rw [e2 xs h2]at q1;cases q1;exact⟨G',Ext.refl _ _,w,q2⟩
theorem lW{tg l:Expr}{fe:Ev→Mo A}(h:VE X W l fe):VI X W tg l (fV fe):=by
 obtain⟨t,p,s⟩:=h;refine⟨_,akN p,fun G ι Ω H σ ρ R w r h=>?_⟩;refine s G ι Ω H σ ρ _ w r (bQ.mb h fun a Ω1 v H1 G1 ι1 x1 w1 d1 h1=>?_);cases e:dO Ω1 a with
 | none=>simp only [e]at h1;exact False.elim h1
 | some ds =>
  simp only [e]at h1;obtain⟨q,xs,h2,h3,h4⟩:=OZ w1 d1 e;subst h2;refine⟨q,rfl,?_⟩;cases a with
  | tup es =>
   right
   simp only [Den]at d1;obtain⟨q',xs',e1,e2,e3⟩:=id d1;cases e1;exact⟨⟨_,gA.of (w1.sub _ _ e2)⟩,h1 _ H1 G1 ι1 (Ext.refl _ _) w1 (apE (by simpa only [Den]using d1))⟩
  | _ =>
   left
   obtain⟨q',xs',e1,e2,e3⟩:=qV w1 d1 (Rp e (by intro _ z;cases z));cases e1;exact⟨⟨_,e2⟩,h1 _ H1 G1 ι1 (Ext.refl _ _) w1 (apF d1 (by intro _ z;cases z))⟩
@[simp] def sW(lo:Int)(n:Nat):Src:=⟨(List.range n).map fun(i:Nat)=>A.int (lo+(i:Int)),fun _=>True⟩
def EF(i:Int):Prop:=-(2 ^ 62)≤i∧i<2 ^ 62
instance (i:Int):Decidable (EF i):=by unfold EF;infer_instance
theorem apG{K:Frag}{G:Hp}{ι:List Addr}{lo:Int}{n:Nat}:tU K G ι (US lo n) (sW lo n):=by
 refine⟨fun _ _ _ _ _ _ _ i hi=>show i<n by simpa [sW]using hi,fun _ _ _ _ _ _ _ i hi=>show n≤i by simpa [sW]using hi,fun G' ι' Ω' H' e w h i x H2 y hy hd=>?_⟩;obtain⟨e1,e2⟩:=hd;subst e1 e2;refine⟨G',Ext.refl _ _,w,?_⟩;simp only [sW,kG]at hy;cases e:(List.range n)[i]? with
 | none=>rw [e]at hy;cases hy
 | some j =>
  rw [e]at hy;cases hy;have:=(dI.mp e).2;simp at this;subst this;simp only [Den]
@[simp] def xR(f:Ev→Mo (List A)):Ev→Mo Src:=fun ρ=>mb (f ρ) fun as=>match as with
 | [.int j]=>mb (oX (EF j)) fun _=>ret (sW 0 j.toNat)
 | _=>stuck
theorem OE{tg a:Expr}{fs:Ev→Mo (List A)}{p:Pos}(hg:Gl X "range")(hm:X.mg "range" = none)(ha:VA X W [a] fs)(hs:starEach [a] X.env=[(false,eval a X.env)]:=by rfl):VI X W tg (.Call (.Name "range" p) [a] [] pos) (xR fs):=by
 obtain⟨t,p,s⟩:=ha;refine⟨_,akO hg hm p hs,fun G ι Ω H σ ρ R w r h=>?_⟩;refine s G ι Ω H σ ρ _ w r (bQ.mb h fun as Ω1 vs H1 G1 ι1 x1 w1 d1 h1=>?_);split at h1
 ·rename_i j;obtain⟨v,t,rfl,q1,q2⟩:=d1.nM;rw [uO]at q2;subst q2;simp only [Den]at q1;subst q1;obtain⟨hc,h2⟩:=bQ.oX h1;exact⟨j,rfl,hc.1,hc.2,gQ w1 apG h2⟩
 ·exact False.elim h1
end
section
variable{X:Cx}{W:WX}{e a b:Expr}{es:List Expr}{pos:Pos}{fa fb:Ev→Mo A}{fs:Ev→Mo (List A)}
@[simp] def aW(a i:A):Mo A:=fun Ω=>match dO Ω a,i with
 | some ds,.int n=>match dY ds n with
  | some d=>some (.ok d,Ω)
  | none=>none
 | _,_=>none
theorem awU{K:Frag}{G:Hp}{ι:List Addr}{xs:List V}{ds:List A}{n:Int}{d:A}(h:bD K G ι xs ds)(e:dY ds n=some d):∃x,dY xs n=some x∧Den K G ι x d:=by
 unfold dY at e ⊢;rw [h.length];cases q:pH ds.length n with
 | none=>rw [q]at e;cases e
 | some j=>rw [q]at e;exact h.get e
theorem bT(ha:VE X W a fa)(hb:VE X W b fb)(hs:Ze b):VE X W (.Subscript a b pos) (aB aW fa fb):=by
 obtain⟨t,p1,s1⟩:=ha;obtain⟨u,p2,s2⟩:=hb;refine⟨_,alB apB p1 p2 hs,PB ?_ s1 s2⟩;intro G ι Ω H σ x y a i Q w d1 d2 h;unfold aW at h;split at h
 ·rename_i ds n e1;split at h
  ·rename_i d e;simp only [Den]at d2;have fin:∀v,Den X.K G ι v d→Q v H:=fun v hv=>h v H G ι (Ext.refl _ _) w hv;obtain⟨p,xs,rfl,hq,hd⟩:=OZ w d1 e1;obtain⟨v,q1,q2⟩:=awU hd e
   rcases hq with hq | hq
   ·exact .inl ⟨p,xs,n,v,rfl,d2,hq,q1,fin v q2⟩
   ·exact .inr (.inl ⟨p,xs,n,v,rfl,d2,hq,q1,fin v q2⟩)
  ·exact False.elim h
 ·exact False.elim h
def VO(X:Cx)(W:WX)(e:Option Expr)(f:Ev→Mo (Option Int)):Prop:=∃t,PO X e t∧fK X.K (fun _ _ o o'=>o=o') W t f
theorem DS:VO X W none (fun _=>ret none):=⟨_,akC,fun _ _ _ _ _ _ _ w _ q=>gQ w rfl q⟩
@[simp] def lJ(f:Ev→Mo A):Ev→Mo (Option Int):=fun ρ=>mb (f ρ) fun x=>match x with
 | .int i=>ret (some i)
 | _=>stuck
theorem xP(h:VE X W e fa):VO X W (some e) (lJ fa):=by
 obtain⟨t,p,s⟩:=h;refine⟨_,akB p,fun G ι Ω H σ ρ Q w r h=>?_⟩;refine s G ι Ω H σ ρ _ w r (bQ.mb h fun x Ω1 v H1 G1 ι1 x1 w1 d1 h1=>?_);cases x with
 | int i=>simp only [Den]at d1;exact⟨i,d1,gQ w1 rfl h1⟩
 | _=>exact False.elim h1
def nF(ds:List A)(lo hi:Option Int):List A:=(ds.drop (HT.cR ds.length 0 lo)).take (HT.cR ds.length ds.length hi - HT.cR ds.length 0 lo)
theorem Wq{K:Frag}{G:Hp}{ι:List Addr}{xs:List V}{ds:List A}(h:bD K G ι xs ds)(lo hi:Option Int):bD K G ι (yW xs lo hi) (nF ds lo hi):=by
 unfold yW nF;rw [h.length];exact(h.drop _).take _
@[simp] def RI(c:Bool)(a:A)(lo hi:Option Int):Mo A:=fun Ω=>match a with
 | .tup ds=>if HT.cR ds.length 0 lo=0∧HT.cR ds.length ds.length hi=ds.length then none else some (.ok (.tup (nF ds lo hi)),Ω)
 | a=>match cK Ω a with
  | some ds=>nO c (nF ds lo hi) Ω
  | none=>none
@[simp] def mR(c:Bool)(f:Ev→Mo A)(l h:Ev→Mo (Option Int)):Ev→Mo A:=fun ρ=>mb (f ρ) fun a=>mb (l ρ) fun lo=>mb (h ρ) fun hi=>RI c a lo hi
theorem zW(c:Bool){lo hi:Option Expr}{fl fh:Ev→Mo (Option Int)}{p2:Pos}(he:VE X W e fa)(hl:VO X W lo fl)(hh:VO X W hi fh):VE X W (.Subscript e (.Slice lo hi none p2) pos) (mR c fa fl fh):=by
 obtain⟨t,p1,s1⟩:=he;obtain⟨u,p2,s2⟩:=hl;obtain⟨u',p3,s3⟩:=hh;refine⟨_,akZ (ah0.or ahZ) p1 p2 p3,fun G ι Ω H σ ρ Q w r h=>?_⟩;refine s1 G ι Ω H σ ρ _ w r (bQ.mb h fun x Ω1 v H1 G1 ι1 x1 w1 d1 h1=>?_);refine s2 G1 ι1 Ω1 H1 σ ρ _ w1 (r.ext x1) (bQ.mb h1 fun o Ω2 o' H2 G2 ι2 x2 w2 d2 h2=>?_);cases(show o'=o from d2);refine s3 G2 ι2 Ω2 H2 σ ρ _ w2 ((r.ext x1).ext x2) (bQ.mb h2 fun k Ω3 k' H3 G3 ι3 x3 w3 d3 h3=>?_);cases(show k'=k from d3);have d:=d1.ext (x2.trans x3);unfold RI at h3;cases x with
 | tup ds =>
  simp only at h3;split at h3
  ·exact False.elim h3
  ·rename_i hn;simp only [Den]at d;obtain⟨p,xs,rfl,q2,q3⟩:=d;exact .inr ⟨p,xs,rfl,gA.of (w3.sub _ _ q2),by rw [q3.length];exact hn,fun l hl=>Ak w3 hl (Wq q3 o k) h3⟩
 | _ =>
  simp only at h3;split at h3
  ·rename_i ds e;obtain⟨p,xs,rfl,q2,q3⟩:=qV w3 d e;exact .inl ⟨p,xs,rfl,q2,fun l hl=>JG w3 hl (Wq q3 o k) h3⟩
  ·exact False.elim h3
def aaI(K:Frag)(W:WX)(r:List V→Hp→VK→Prop)(g:List A→Mo A):Prop :=
 ∀G ι Ω H σ xs as Q,Wd K G ι Ω H→bD K G ι xs as→bQ K (Den K) W G ι σ Q (g as Ω)→r xs H Q
def rJ(X:Cx)(W:WX)(f:Value)(g:List A→Mo A):Prop:=∃r,nJ X f r∧aaI X.K W r g
@[simp] def aN(g:List A→Mo A)(f:Ev→Mo (List A)):Ev→Mo A:=fun ρ=>mb (f ρ) g
theorem Nt{K:Frag}{r:List V→Hp→VK→Prop}{g:List A→Mo A}{t:TA}(hg:aaI K W r g)(h:fK K (bD K) W t fs):fK K (Den K) W (YA r t) (aN g fs):=by
 intro G ι Ω H σ ρ Q w q h2;exact h G ι Ω H σ ρ _ w q (bQ.mb h2 fun as Ω1 vs H1 G1 ι1 x1 w1 d1 h1=>hg G1 ι1 Ω1 H1 σ vs as Q w1 d1 h1)
theorem eE{id:String}{x:Str}{g:List A→Mo A}{p:Pos}(hc:rJ X W (.builtin id) g)(hg:Gl X x)(hm:X.mg x=none)(hv:bootBuiltins x=some (.builtin id))(ha:VA X W (e::es) fs)(hn:x ≠ "__name__":=by decide)(gW:(x == ("__debug__" : Str))=false:=by decide)
  (he:starEach (e::es) X.env=(false,eval e X.env)::starEach es X.env:=by rfl) (fJ:(backTo pos (starEach es X.env)).any (·.1)=false:=by rfl):VE X W (.Call (.Name x p) (e::es) [] pos) (aN g fs):=by
 obtain⟨r,c1,c2⟩:=hc;obtain⟨t,p1,s1⟩:=ha;exact⟨_,alO c1 hg hm hv p1 hn gW he fJ,Nt c2 s1⟩
theorem WL{T:String}{x:Str}{g:List A→Mo A}{p:Pos}(hc:rJ X W (.type T) g)(hg:Gl X x)(hm:X.mg x=none)(hv:bootBuiltins x=some (.type T))(ha:VA X W (e::es) fs)(hn:x ≠ "__name__":=by decide)(gW:(x == ("__debug__" : Str))=false:=by decide)
  (he:starEach (e::es) X.env=(false,eval e X.env)::starEach es X.env:=by rfl) (fJ:(backTo pos (starEach es X.env)).any (·.1)=false:=by rfl):VE X W (.Call (.Name x p) (e::es) [] pos) (aN g fs):=by
 obtain⟨r,c1,c2⟩:=hc;obtain⟨t,p1,s1⟩:=ha;exact⟨_,alN c1 hg hm hv p1 hn gW he fJ,Nt c2 s1⟩
theorem sH{K:Frag}{G:Hp}{ι:List Addr}{xs:List V}{d:A}(h:bD K G ι xs [d]):∃x,xs=[x]∧Den K G ι x d:=by
 obtain⟨x,r,rfl,h1,h2⟩:=h.nM;rw [uO]at h2;subst h2;exact⟨x,rfl,h1⟩
theorem Gm{K:Frag}{G:Hp}{ι:List Addr}{xs:List V}{d d':A}(h:bD K G ι xs [d,d']):∃x y,xs=[x,y]∧Den K G ι x d∧Den K G ι y d':=by
 obtain⟨x,r,rfl,h1,h2⟩:=h.nM;obtain⟨y,rfl,h3⟩:=sH h2;exact⟨x,y,rfl,h1,h3⟩
@[simp] def dQ(as:List A):Mo A:=fun Ω=>match as with
 | [a]=>(match dO Ω a with
  | some ds=>some (.ok (.int ds.length),Ω)
  | none=>none)
 | _=>none
theorem jP:rJ X W (.builtin "len") dQ:=by
 refine⟨_,av4,?_⟩;intro G ι Ω H σ xs as Q w d h;unfold dQ at h;split at h
 ·rename_i a;split at h
  ·rename_i ds e;obtain⟨x,rfl,d1⟩:=sH d;obtain⟨p,ys,rfl,h2,h3⟩:=OZ w d1 e;exact⟨p,ys,rfl,h2,h _ H G ι (Ext.refl _ _) w (by simp only [Den,h3.length])⟩
  ·exact False.elim h
 ·exact False.elim h
@[simp] def FT(as:List A):Mo A:=match as with
 | [.int i,.int j]=>ret (.int (max i j))
 | _=>stuck
@[simp] def uL(as:List A):Mo A:=match as with
 | [.int i,.int j]=>ret (.int (min i j))
 | _=>stuck
theorem Hb(hc:X.calm=true):rJ X W (.builtin "max") FT:=by
 refine⟨_,av2 hc,?_⟩;intro G ι Ω H σ xs as Q w d h;unfold FT at h;split at h
 ·rename_i i j;obtain⟨x,y,rfl,d1,d2⟩:=Gm d;simp only [Den]at d1 d2;subst d1 d2;refine⟨i,j,rfl,?_⟩;have e:(if j>i then j else i)=max i j:=by split <;> omega
  rw [e];exact gQ w (by simp only [Den]) h
 ·exact False.elim h
theorem MF(hc:X.calm=true):rJ X W (.builtin "min") uL:=by
 refine⟨_,av1 hc,?_⟩;intro G ι Ω H σ xs as Q w d h;unfold uL at h;split at h
 ·rename_i i j;obtain⟨x,y,rfl,d1,d2⟩:=Gm d;simp only [Den]at d1 d2;subst d1 d2;refine⟨i,j,rfl,?_⟩;have e:(if j<i then j else i)=min i j:=by split <;> omega
  rw [e];exact gQ w (by simp only [Den]) h
 ·exact False.elim h
def intsOf:List A→Option (List Int)
 | []=>some []
 | .int i::r=>(intsOf r).map (i :: ·)
 | _=>none
theorem Cq{K:Frag}{G:Hp}{ι:List Addr}:∀{ds:List A} {xs:List V} {ns:List Int},intsOf ds=some ns→bD K G ι xs ds→xs=ns.map V.int
 | [],xs,ns,h,d=>by
  simp only [intsOf,kD]at h;subst h;rw [uO]at d;subst d;rfl
 | a::ds,xs,ns,h,d=>by
  obtain⟨x,t,rfl,d1,d2⟩:=d.nM;cases a with
  | int i =>
   simp only [intsOf,zF]at h;obtain⟨ms,h1,rfl⟩:=h;simp only [Den]at d1;subst d1;rw [Cq h1 d2];rfl
  | _=>simp [intsOf]at h
theorem JP(ns:List Int):intsOf (ns.map A.int)=some ns:=by
 induction ns with
 | nil=>rfl
 | cons n ns ih=>simp [intsOf,ih]
@[simp] def tM(as:List A):Mo A:=fun Ω=>match as with
 | [a]=>(match (cK Ω a).bind intsOf with
  | some ns=>some (.ok (.int ns.sum),Ω)
  | none=>none)
 | _=>none
theorem GJ(hc:X.calm=true):rJ X W (.builtin "sum") tM:=by
 refine⟨_,avY hc,?_⟩;intro G ι Ω H σ xs as Q w d h;unfold tM at h;split at h
 ·rename_i a;split at h
  ·rename_i ns e;obtain⟨x,rfl,d1⟩:=sH d;rw [Option.bind_eq_some_iff]at e;obtain⟨ds,e1,e2⟩:=e;obtain⟨p,ys,rfl,h2,h3⟩:=qV w d1 e1;rw [Cq e2 h3]at h2;exact⟨p,ns,rfl,h2,h _ H G ι (Ext.refl _ _) w (by simp only [Den])⟩
  ·exact False.elim h
 ·exact False.elim h
@[simp] def FV(c:Bool)(as:List A):Mo A:=fun Ω=>match as with
 | [a]=>(match dO Ω a with
  | some ds=>nO c ds Ω
  | none=>none)
 | _=>none
theorem Xm(c:Bool):rJ X W (.type "list") (FV c):=by
 refine⟨_,av3,?_⟩;intro G ι Ω H σ xs as Q w d h;unfold FV at h;split at h
 ·rename_i a;split at h
  ·rename_i ds e;obtain⟨x,rfl,d1⟩:=sH d;obtain⟨p,ys,rfl,h2,h3⟩:=OZ w d1 e;exact⟨p,ys,rfl,h2,fun l hl=>JG w hl h3 h⟩
  ·exact False.elim h
 ·exact False.elim h
def oH(Ω:aF):A→Option String
 | .int _=>some "int"
 | .bl _=>some "bool"
 | .str _=>some "str"
 | .bR=>some "NoneType"
 | .tup _=>some "tuple"
 | .lst _=>some "list"
 | .aD k=>match Ω[k]? with
  | some (.lst _)=>some "list"
  | some (.cW _)=>some "dict"
  | _=>none
 | _=>none
theorem abU{K:Frag}{G H:Hp}{ι:List Addr}{Ω:aF}{v:V}{a:A}{t:String}(w:Wd K G ι Ω H)(d:Den K G ι v a)(h:oH Ω a=some t):qA K H v (.type t):=by
 cases a with
 | int i=>simp only [oH,kD]at h;subst h;simp only [Den]at d;subst d;exact .int i
 | bl i=>simp only [oH,kD]at h;subst h;simp only [Den]at d;subst d;exact .bl i
 | str i=>simp only [oH,kD]at h;subst h;simp only [Den]at d;subst d;exact .str i
 | bR=>simp only [oH,kD]at h;subst h;simp only [Den]at d;subst d;exact .bR
 | tup ds=>simp only [oH,kD]at h;subst h;simp only [Den]at d;obtain⟨p,xs,rfl,h2,_⟩:=d;exact .tup (w.sub _ _ h2)
 | lst ds=>simp only [oH,kD]at h;subst h;simp only [Den]at d;obtain⟨p,xs,rfl,h2,_⟩:=d;exact .lst (w.sub _ _ h2)
 | aD k =>
  simp only [Den]at d;obtain⟨p,rfl,hk⟩:=d;simp only [oH]at h;split at h
  ·rename_i ds e;cases h;obtain⟨g,xs,h3,_⟩:=w.aD k _ p e hk;exact .lst h3
  ·rename_i ds e;cases h;obtain⟨g,xs,h3,_⟩:=w.aD k _ p e hk;exact .dK h3
  ·cases h
 | _=>simp [oH]at h
theorem Bx(K:Frag):kitOne K (.type "int") (.type "int")=some true:=by unfold kitOne;rw [if_pos (beq_self_eq_true _)]
theorem Cc(K:Frag):kitOne K (.type "bool") (.type "int")=some true:=by kernel_rfl
theorem Bn(K:Frag):kitOne K (.type "str") (.type "int")=some false:=by kernel_rfl
theorem Ci(K:Frag):kitOne K (.type "NoneType") (.type "int")=some false:=by kernel_rfl
theorem Bi(K:Frag):kitOne K (.type "tuple") (.type "int")=some false:=by kernel_rfl
theorem Bs(K:Frag):kitOne K (.type "list") (.type "int")=some false:=by kernel_rfl
theorem By(K:Frag):kitOne K (.type "int") (.type "bool")=some false:=by kernel_rfl
theorem Cd(K:Frag):kitOne K (.type "bool") (.type "bool")=some true:=by unfold kitOne;rw [if_pos (beq_self_eq_true _)]
theorem Bo(K:Frag):kitOne K (.type "str") (.type "bool")=some false:=by kernel_rfl
theorem Cj(K:Frag):kitOne K (.type "NoneType") (.type "bool")=some false:=by kernel_rfl
theorem Bj(K:Frag):kitOne K (.type "tuple") (.type "bool")=some false:=by kernel_rfl
theorem Bt(K:Frag):kitOne K (.type "list") (.type "bool")=some false:=by kernel_rfl
theorem Bu(K:Frag):kitOne K (.type "int") (.type "tuple")=some false:=by kernel_rfl
theorem Bz(K:Frag):kitOne K (.type "bool") (.type "tuple")=some false:=by kernel_rfl
theorem Bk(K:Frag):kitOne K (.type "str") (.type "tuple")=some false:=by kernel_rfl
theorem Ce(K:Frag):kitOne K (.type "NoneType") (.type "tuple")=some false:=by kernel_rfl
theorem Bf(K:Frag):kitOne K (.type "tuple") (.type "tuple")=some true:=by unfold kitOne;rw [if_pos (beq_self_eq_true _)]
theorem Bp(K:Frag):kitOne K (.type "list") (.type "tuple")=some false:=by kernel_rfl
theorem Bw(K:Frag):kitOne K (.type "int") (.type "list")=some false:=by kernel_rfl
theorem Cb(K:Frag):kitOne K (.type "bool") (.type "list")=some false:=by kernel_rfl
theorem Bm(K:Frag):kitOne K (.type "str") (.type "list")=some false:=by kernel_rfl
theorem Cg(K:Frag):kitOne K (.type "NoneType") (.type "list")=some false:=by kernel_rfl
theorem Bh(K:Frag):kitOne K (.type "tuple") (.type "list")=some false:=by kernel_rfl
theorem Br(K:Frag):kitOne K (.type "list") (.type "list")=some true:=by unfold kitOne;rw [if_pos (beq_self_eq_true _)]
theorem Bv(K:Frag):kitOne K (.type "int") (.type "str")=some false:=by kernel_rfl
theorem Ca(K:Frag):kitOne K (.type "bool") (.type "str")=some false:=by kernel_rfl
theorem Bl(K:Frag):kitOne K (.type "str") (.type "str")=some true:=by unfold kitOne;rw [if_pos (beq_self_eq_true _)]
theorem Cf(K:Frag):kitOne K (.type "NoneType") (.type "str")=some false:=by kernel_rfl
theorem Bg(K:Frag):kitOne K (.type "tuple") (.type "str")=some false:=by kernel_rfl
theorem Bq(K:Frag):kitOne K (.type "list") (.type "str")=some false:=by kernel_rfl
inductive gK:String→String→Bool→Prop where
 | Bx:gK "int" "int" true
 | Cc:gK "bool" "int" true
 | Bn:gK "str" "int" false
 | Ci:gK "NoneType" "int" false
 | Bi:gK "tuple" "int" false
 | Bs:gK "list" "int" false
 | By:gK "int" "bool" false
 | Cd:gK "bool" "bool" true
 | Bo:gK "str" "bool" false
 | Cj:gK "NoneType" "bool" false
 | Bj:gK "tuple" "bool" false
 | Bt:gK "list" "bool" false
 | Bu:gK "int" "tuple" false
 | Bz:gK "bool" "tuple" false
 | Bk:gK "str" "tuple" false
 | Ce:gK "NoneType" "tuple" false
 | Bf:gK "tuple" "tuple" true
 | Bp:gK "list" "tuple" false
 | Bw:gK "int" "list" false
 | Cb:gK "bool" "list" false
 | Bm:gK "str" "list" false
 | Cg:gK "NoneType" "list" false
 | Bh:gK "tuple" "list" false
 | Br:gK "list" "list" true
 | Bv:gK "int" "str" false
 | Ca:gK "bool" "str" false
 | Bl:gK "str" "str" true
 | Cf:gK "NoneType" "str" false
 | Bg:gK "tuple" "str" false
 | Bq:gK "list" "str" false
theorem gK.ok(K:Frag){t n:String}{b:Bool}(h:gK t n b):kitOne K (.type t) (.type n)=some b:=by
 cases h
 ·exact V2.Bx K
 ·exact V2.Cc K
 ·exact V2.Bn K
 ·exact V2.Ci K
 ·exact V2.Bi K
 ·exact V2.Bs K
 ·exact V2.By K
 ·exact V2.Cd K
 ·exact V2.Bo K
 ·exact V2.Cj K
 ·exact V2.Bj K
 ·exact V2.Bt K
 ·exact V2.Bu K
 ·exact V2.Bz K
 ·exact V2.Bk K
 ·exact V2.Ce K
 ·exact V2.Bf K
 ·exact V2.Bp K
 ·exact V2.Bw K
 ·exact V2.Cb K
 ·exact V2.Bm K
 ·exact V2.Cg K
 ·exact V2.Bh K
 ·exact V2.Br K
 ·exact V2.Bv K
 ·exact V2.Ca K
 ·exact V2.Bl K
 ·exact V2.Cf K
 ·exact V2.Bg K
 ·exact V2.Bq K
def uG(t n:String):Option Bool:=if t = "int"∧n = "int" then some true else if t = "bool"∧n = "int" then some true else if t = "str"∧n = "int" then some false else if t = "NoneType"∧n = "int" then some false else if t = "tuple"∧n = "int" then some false else if t = "list"∧n = "int" then some false else if t = "int"∧n = "bool" then some false else if t = "bool"∧n = "bool" then some true else if t = "str"∧n = "bool" then some false else if t = "NoneType"∧n = "bool" then some false else if t = "tuple"∧n = "bool" then some false else if t = "list"∧n = "bool" then some false else if t = "int"∧n = "tuple" then some false else if t = "bool"∧n = "tuple" then some false else if t = "str"∧n = "tuple" then some false else if t = "NoneType"∧n = "tuple" then some false else if t = "tuple"∧n = "tuple" then some true else if t = "list"∧n = "tuple" then some false else if t = "int"∧n = "list" then some false else if t = "bool"∧n = "list" then some false else if t = "str"∧n = "list" then some false else if t = "NoneType"∧n = "list" then some false else if t = "tuple"∧n = "list" then some false else if t = "list"∧n = "list" then some true else if t = "int"∧n = "str" then some false else if t = "bool"∧n = "str" then some false else if t = "str"∧n = "str" then some true else if t = "NoneType"∧n = "str" then some false else if t = "tuple"∧n = "str" then some false else if t = "list"∧n = "str" then some false else none
theorem apO{t n:String}{b:Bool}(h:uG t n=some b):gK t n b:=by
 unfold uG at h
 by_cases h0:t = "int"∧n = "int"
 ·rw [if_pos h0]at h;cases h;obtain⟨rfl,rfl⟩:=h0;exact .Bx
 rw [if_neg h0]at h
 by_cases h1:t = "bool"∧n = "int"
 ·rw [if_pos h1]at h;cases h;obtain⟨rfl,rfl⟩:=h1;exact .Cc
 rw [if_neg h1]at h
 by_cases h2:t = "str"∧n = "int"
 ·rw [if_pos h2]at h;cases h;obtain⟨rfl,rfl⟩:=h2;exact .Bn
 rw [if_neg h2]at h
 by_cases h3:t = "NoneType"∧n = "int"
 ·rw [if_pos h3]at h;cases h;obtain⟨rfl,rfl⟩:=h3;exact .Ci
 rw [if_neg h3]at h
 by_cases h4:t = "tuple"∧n = "int"
 ·rw [if_pos h4]at h;cases h;obtain⟨rfl,rfl⟩:=h4;exact .Bi
 rw [if_neg h4]at h
 by_cases h5:t = "list"∧n = "int"
 ·rw [if_pos h5]at h;cases h;obtain⟨rfl,rfl⟩:=h5;exact .Bs
 rw [if_neg h5]at h
 by_cases h6:t = "int"∧n = "bool"
 ·rw [if_pos h6]at h;cases h;obtain⟨rfl,rfl⟩:=h6;exact .By
 rw [if_neg h6]at h
 by_cases h7:t = "bool"∧n = "bool"
 ·rw [if_pos h7]at h;cases h;obtain⟨rfl,rfl⟩:=h7;exact .Cd
 rw [if_neg h7]at h
 by_cases h8:t = "str"∧n = "bool"
 ·rw [if_pos h8]at h;cases h;obtain⟨rfl,rfl⟩:=h8;exact .Bo
 rw [if_neg h8]at h
 by_cases h9:t = "NoneType"∧n = "bool"
 ·rw [if_pos h9]at h;cases h;obtain⟨rfl,rfl⟩:=h9;exact .Cj
 rw [if_neg h9]at h
 by_cases Fg:t = "tuple"∧n = "bool"
 ·rw [if_pos Fg]at h;cases h;obtain⟨rfl,rfl⟩:=Fg;exact .Bj
 rw [if_neg Fg]at h
 by_cases Ff:t = "list"∧n = "bool"
 ·rw [if_pos Ff]at h;cases h;obtain⟨rfl,rfl⟩:=Ff;exact .Bt
 rw [if_neg Ff]at h
 by_cases RE:t = "int"∧n = "tuple"
 ·rw [if_pos RE]at h;cases h;obtain⟨rfl,rfl⟩:=RE;exact .Bu
 rw [if_neg RE]at h
 by_cases Fe:t = "bool"∧n = "tuple"
 ·rw [if_pos Fe]at h;cases h;obtain⟨rfl,rfl⟩:=Fe;exact .Bz
 rw [if_neg Fe]at h
 by_cases Fc:t = "str"∧n = "tuple"
 ·rw [if_pos Fc]at h;cases h;obtain⟨rfl,rfl⟩:=Fc;exact .Bk
 rw [if_neg Fc]at h
 by_cases Fb:t = "NoneType"∧n = "tuple"
 ·rw [if_pos Fb]at h;cases h;obtain⟨rfl,rfl⟩:=Fb;exact .Ce
 rw [if_neg Fb]at h
 by_cases Ez:t = "tuple"∧n = "tuple"
 ·rw [if_pos Ez]at h;cases h;obtain⟨rfl,rfl⟩:=Ez;exact .Bf
 rw [if_neg Ez]at h
 by_cases Ey:t = "list"∧n = "tuple"
 ·rw [if_pos Ey]at h;cases h;obtain⟨rfl,rfl⟩:=Ey;exact .Bp
 rw [if_neg Ey]at h
 by_cases Ex:t = "int"∧n = "list"
 ·rw [if_pos Ex]at h;cases h;obtain⟨rfl,rfl⟩:=Ex;exact .Bw
 rw [if_neg Ex]at h
 by_cases Ew:t = "bool"∧n = "list"
 ·rw [if_pos Ew]at h;cases h;obtain⟨rfl,rfl⟩:=Ew;exact .Cb
 rw [if_neg Ew]at h
 by_cases Eu:t = "str"∧n = "list"
 ·rw [if_pos Eu]at h;cases h;obtain⟨rfl,rfl⟩:=Eu;exact .Bm
 rw [if_neg Eu]at h
 by_cases Et:t = "NoneType"∧n = "list"
 ·rw [if_pos Et]at h;cases h;obtain⟨rfl,rfl⟩:=Et;exact .Cg
 rw [if_neg Et]at h
 by_cases Es:t = "tuple"∧n = "list"
 ·rw [if_pos Es]at h;cases h;obtain⟨rfl,rfl⟩:=Es;exact .Bh
 rw [if_neg Es]at h
 by_cases Er:t = "list"∧n = "list"
 ·rw [if_pos Er]at h;cases h;obtain⟨rfl,rfl⟩:=Er;exact .Br
 rw [if_neg Er]at h
 by_cases Ep:t = "int"∧n = "str"
 ·rw [if_pos Ep]at h;cases h;obtain⟨rfl,rfl⟩:=Ep;exact .Bv
 rw [if_neg Ep]at h
 by_cases Eo:t = "bool"∧n = "str"
 ·rw [if_pos Eo]at h;cases h;obtain⟨rfl,rfl⟩:=Eo;exact .Ca
 rw [if_neg Eo]at h
 by_cases En:t = "str"∧n = "str"
 ·rw [if_pos En]at h;cases h;obtain⟨rfl,rfl⟩:=En;exact .Bl
 rw [if_neg En]at h
 by_cases Em:t = "NoneType"∧n = "str"
 ·rw [if_pos Em]at h;cases h;obtain⟨rfl,rfl⟩:=Em;exact .Cf
 rw [if_neg Em]at h
 by_cases El:t = "tuple"∧n = "str"
 ·rw [if_pos El]at h;cases h;obtain⟨rfl,rfl⟩:=El;exact .Bg
 rw [if_neg El]at h
 by_cases Ek:t = "list"∧n = "str"
 ·rw [if_pos Ek]at h;cases h;obtain⟨rfl,rfl⟩:=Ek;exact .Bq
 rw [if_neg Ek]at h;cases h
theorem apP(K:Frag){t n:String}{b:Bool}(h:uG t n=some b):kitOne K (.type t) (.type n)=some b:=(apO h).ok K
@[simp] def LK(as:List A):Mo A:=fun Ω=>match as with
 | [a,.ty n]=>(match (oH Ω a).bind fun t=>uG t n with
  | some b=>some (.ok (.bl b),Ω)
  | none=>none)
 | _=>none
theorem Hc:rJ X W (.builtin "isinstance") LK:=by
 refine⟨_,av5,?_⟩;intro G ι Ω H σ xs as Q w d h;unfold LK at h;split at h
 ·rename_i a n;split at h
  ·rename_i b e;rw [Option.bind_eq_some_iff]at e;obtain⟨t,e1,e2⟩:=e;obtain⟨x,y,rfl,d1,d2⟩:=Gm d;simp only [Den]at d2;subst d2;exact⟨x,n,_,b,rfl,abU w d1 e1,apP _ e2,h _ H G ι (Ext.refl _ _) w (by simp only [Den])⟩
  ·exact False.elim h
 ·exact False.elim h
def UH(K:Frag)(W:WX)(r:V→List V→Hp→VK→Prop)(g:A→List A→Mo A):Prop :=
 ∀G ι Ω H σ x xs a as Q,Wd K G ι Ω H→Den K G ι x a→bD K G ι xs as→bQ K (Den K) W G ι σ Q (g a as Ω)→r x xs H Q
def pI(Ω:aF)(a:A):Prop:=∃ds,cK Ω a=some ds
open Classical in
@[simp] noncomputable def jZ(g:A→List A→Mo A)(fo:Ev→Mo A)(f:Ev→Mo (List A)):Ev→Mo A:=fun ρ=>mb (fo ρ) fun o Ω=>if pI Ω o then mb (f ρ) (fun as=>g o as) Ω else none
theorem abS{K:Frag}{G H:Hp}{ι:List Addr}{Ω:aF}{v:V}{a:A}(w:Wd K G ι Ω H)(d:Den K G ι v a)(h:pI Ω a):XF K "list" v H:=by
 obtain⟨ds,e⟩:=h;obtain⟨p,xs,rfl,q,_⟩:=qV w d e;exact .inl ⟨rfl,xs,q⟩
theorem sU{name:Str}{apos:Pos}{id:String}{r:V→List V→Hp→VK→Prop}{g:A→List A→Mo A}(pa:PlainAttrs "list")(slot:Slot "list" name id)(Cu:typeOf (.builtin id)=pure (.type "method_descriptor"))(hm:GX X id r)(hv:UH X.K W r g)(ho:VE X W a fa)(ha:VA X W (e::es) fs)
  (wO:attributeBase a name X.env (eval a X.env)=eval a X.env:=by rfl)
  (Dp:((backTo pos (starEach (e::es) X.env)).all (fun x=>!x.1)&&(backToKw pos (keywordEach [] X.env)).all (fun x=>x.1.isSome)
   && decide ((e::es).length+([]:List Keyword).length+(if([]:List Keyword).isEmpty then 0 else 1)<30))=true:=by rfl)
  (BP:(apos.endLine == pos.line)=true:=by rfl) (hs:starEach (e::es) X.env=(false,eval e X.env)::starEach es X.env:=by rfl) (Cz:(backTo pos (starEach es X.env)).any (·.1)=false:=by rfl) :
  VE X W (.Call (.Attribute a name apos) (e::es) [] pos) (jZ g fa fs):=by
 obtain⟨t,p1,s1⟩:=ho;obtain⟨u,p2,s2⟩:=ha;refine⟨_,alQ pa slot Cu hm p1 p2 wO Dp BP hs Cz,fun G ι Ω H σ ρ Q w r h=>?_⟩;refine s1 G ι Ω H σ ρ _ w r (bQ.mb h fun x Ω1 v H1 G1 ι1 x1 w1 d1 h1=>?_);split at h1
 ·rename_i hl;refine⟨abS w1 d1 hl,s2 G1 ι1 Ω1 H1 σ ρ _ w1 (r.ext x1) (bQ.mb h1 fun as Ω2 vs H2 G2 ι2 x2 w2 d2 h2=>?_)⟩;exact hv G2 ι2 Ω2 H2 σ v vs x as Q w2 (d1.ext x2) d2 h2
 ·exact False.elim h1
def lS(Ω:aF):A→Option (Nat×List A)
 | .aD k=>match Ω[k]? with
  | some (.lst ds)=>some (k,ds)
  | _=>none
 | _=>none
theorem Gx{K:Frag}{G H:Hp}{ι:List Addr}{Ω:aF}{v:V}{a:A}{k:Nat}{ds:List A}(w:Wd K G ι Ω H)(d:Den K G ι v a)(h:lS Ω a=some (k,ds)):∃p xs,v = .ref p∧ι[k]? = some p∧G p=none∧H p=some (.lst xs)∧bD K G ι xs ds:=by
 cases a with
 | aD j =>
  simp only [lS]at h;split at h
  ·rename_i es e;cases h;simp only [Den]at d;obtain⟨p,rfl,hk⟩:=d;obtain⟨g,xs,h3,h4⟩:=w.aD k _ p e hk;exact⟨p,xs,rfl,hk,g,h3,h4⟩
  ·cases h
 | _=>simp [lS]at h
@[simp] def nB(o:A)(as:List A):Mo A:=fun Ω=>match lS Ω o,as with
 | some (k,ds),[y]=>if ds.length<sizeLine then some (.ok .bR,Ω.set k (.lst (ds++[y])))else none
 | _,_=>none
theorem wD:UH X.K W Ox nB:=by
 intro G ι Ω H σ x xs a as Q w d1 d2 h;unfold nB at h;split at h
 ·rename_i k ds y e;split at h
  ·rename_i hl;obtain⟨p,zs,rfl,hk,g,h3,h4⟩:=Gx w d1 e;obtain⟨u,rfl,du⟩:=sH d2;refine⟨p,zs,u,rfl,rfl,h3,by rw [h4.length];exact hl,?_⟩;exact h _ _ G ι (Ext.refl _ _) (w.put (c := .lst (ds++[y])) hk g ⟨g,_,eA,h4.append (.cons du .nil)⟩) (by simp only [Den])
  ·exact False.elim h
 ·exact False.elim h
end
mutual
def Cl(n:Nat):A→Prop
 | .aD k=>k<n
 | .tup ds=>fH n ds
 | .lst ds=>fH n ds
 | _=>True
def fH(n:Nat):List A→Prop
 | []=>True
 | d::ds=>Cl n d∧fH n ds
end
section
variable{K:Frag}{G:Hp}{ι:List Addr}
mutual
theorem Den.cl:∀{v:V} {d:A},Den K G ι v d→Cl ι.length d
 | _,.int _,_=>by simp only [Cl]
 | _,.bl _,_=>by simp only [Cl]
 | _,.str _,_=>by simp only [Cl]
 | _,.bR,_=>by simp only [Cl]
 | _,.ty _,_=>by simp only [Cl]
 | _,.adr _,_=>by simp only [Cl]
 | _, .LU _ _ _ _,_=>by simp only [Cl]
 | _,.gl _,_=>by simp only [Cl]
 | _,.dB _,_=>by simp only [Cl]
 | _,.tup ds,h=>by
  simp only [Den]at h;simp only [Cl];obtain⟨a,xs,_,_,h3⟩:=h;exact bD.cl h3
 | _,.lst ds,h=>by
  simp only [Den]at h;simp only [Cl];obtain⟨a,xs,_,_,h3⟩:=h;exact bD.cl h3
 | _,.aD k,h=>by
  simp only [Den]at h;simp only [Cl];obtain⟨a,_,h2⟩:=h;exact(dI.mp h2).1
theorem bD.cl:∀{xs:List V} {ds:List A},bD K G ι xs ds→fH ι.length ds
 | _,[],_=>by simp only [fH]
 | _,d::ds,h=>by
  simp only [bD]at h;simp only [fH];obtain⟨x,r,_,h2,h3⟩:=h;exact⟨Den.cl h2,bD.cl h3⟩
end
mutual
theorem Den.cut{ι':List Addr}{n:Nat}(e:∀k,k<n→ι[k]? = ι'[k]?):∀{v:V} {d:A},Den K G ι' v d→Cl n d→Den K G ι v d
 | _,.int _,h,_=>by simpa only [Den]using h
 | _,.bl _,h,_=>by simpa only [Den]using h
 | _,.str _,h,_=>by simpa only [Den]using h
 | _,.bR,h,_=>by simpa only [Den]using h
 | _,.ty _,h,_=>by simpa only [Den]using h
 | _,.adr _,h,_=>by simpa only [Den]using h
 | _, .LU _ _ _ _,h,_=>by simpa only [Den]using h
 | _,.gl _,h,_=>by simpa only [Den]using h
 | _,.dB _,h,_=>by simpa only [Den]using h
 | _,.tup ds,h,c=>by
  simp only [Den]at h ⊢;simp only [Cl]at c;obtain⟨a,xs,h1,h2,h3⟩:=h;exact⟨a,xs,h1,h2,bD.cut e h3 c⟩
 | _,.lst ds,h,c=>by
  simp only [Den]at h ⊢;simp only [Cl]at c;obtain⟨a,xs,h1,h2,h3⟩:=h;exact⟨a,xs,h1,h2,bD.cut e h3 c⟩
 | _,.aD k,h,c=>by
  simp only [Den]at h ⊢;simp only [Cl]at c;obtain⟨a,h1,h2⟩:=h;exact⟨a,h1,(e k c).trans h2⟩
theorem bD.cut{ι':List Addr}{n:Nat}(e:∀k,k<n→ι[k]? = ι'[k]?):∀{xs:List V} {ds:List A},bD K G ι' xs ds→fH n ds→bD K G ι xs ds
 | _,[],h,_=>by simpa only [bD]using h
 | _,d::ds,h,c=>by
  simp only [bD]at h ⊢;simp only [fH]at c;obtain⟨x,r,h1,h2,h3⟩:=h;exact⟨x,r,h1,Den.cut e h2 c.1,bD.cut e h3 c.2⟩
end
def mQ(n:Nat):Fd→Prop
 | .val a=>Cl n a
 | .lst ds=>fH n ds
 | .cW kvs=>fH n (kvs.map (·.2))
def nI(n:Nat):List (Str×Fd)→Prop
 | []=>True
 | p::r=>mQ n p.2∧nI n r
def DM(n:Nat):Cell→Prop
 | .lst ds=>fH n ds
 | .cW kvs=>fH n (kvs.map (·.2))
 | .ins _ fs=>nI n fs
 | _=>True
theorem jS.cl{H:Hp}{v:V}{fd:Fd}(h:jS K G ι H v fd):mQ ι.length fd:=by
 cases fd with
 | val a=>exact Den.cl h
 | lst ds=>obtain⟨_,_,_,_,_,_,q⟩:=h;exact q.cl
 | cW kvs=>obtain⟨_,_,_,_,_,_,_,q⟩:=h;exact q.cl
theorem jM.cl{H:Hp}:∀{ws:List (Str×V)} {fs:List (Str×Fd)},jM K G ι H ws fs→nI ι.length fs
 | [],[],_=>trivial
 | (_,_)::_,(_,_)::_,h=>⟨h.2.1.cl,h.2.2.cl⟩
 | [],_::_,h=>h.elim
 | _::_,[],h=>h.elim
theorem rH.cl{H:Hp}{a:Addr}{c:Cell}(h:rH K G ι H a c):DM ι.length c:=by
 cases c with
 | lst ds=>obtain⟨_,_,_,q⟩:=h;exact q.cl
 | cW kvs=>obtain⟨_,_,_,_,q⟩:=h;exact q.cl
 | ins cls fs=>obtain⟨_,_,_,_,_,_,q⟩:=h;exact q.cl
 | tab x pos qual=>trivial
 | dead=>trivial
theorem jS.cut{H:Hp}{ι':List Addr}{n:Nat}{v:V}{fd:Fd}(h:jS K G ι' H v fd)(e:∀k,k<n→ι[k]? = ι'[k]?)(hi:∀b,b∉ι'→b∉ι)(c:mQ n fd):jS K G ι H v fd:=by
 cases fd with
 | val a=>exact Den.cut e h c
 | lst ds=>obtain⟨b,xs,h1,h2,h3,h4,h5⟩:=h;exact⟨b,xs,h1,h2,hi b h3,h4,h5.cut e c⟩
 | cW kvs=>obtain⟨b,ws,h1,h2,h3,h4,h5,h6⟩:=h;exact⟨b,ws,h1,h2,hi b h3,h4,h5,h6.cut e c⟩
theorem jM.cut{H:Hp}{ι':List Addr}{n:Nat}(e:∀k,k<n→ι[k]? = ι'[k]?)(hi:∀b,b∉ι'→b∉ι):∀{ws:List (Str×V)} {fs:List (Str×Fd)},jM K G ι' H ws fs→nI n fs→jM K G ι H ws fs
 | [],[],_,_=>trivial
 | (_,_)::_,(_,_)::_,h,c=>⟨h.1,h.2.1.cut e hi c.1,jM.cut e hi h.2.2 c.2⟩
 | [],_::_,h,_=>h.elim
 | _::_,[],h,_=>h.elim
theorem rH.cut{H:Hp}{ι':List Addr}{n:Nat}{a:Addr}{c:Cell}(h:rH K G ι' H a c)(e:∀k,k<n→ι[k]? = ι'[k]?)(hi:∀b,b∉ι'→b∉ι)(hc:DM n c):rH K G ι H a c:=by
 cases c with
 | lst ds=>obtain⟨g,xs,h1,h2⟩:=h;exact⟨g,xs,h1,h2.cut e hc⟩
 | cW kvs=>obtain⟨g,ws,h1,h2,h3⟩:=h;exact⟨g,ws,h1,h2,h3.cut e hc⟩
 | ins cls fs=>obtain⟨g,C,dx,ws,h0,h1,h2⟩:=h;exact⟨g,C,dx,ws,h0,h1,h2.cut e hi hc⟩
 | tab x pos qual=>exact h
 | dead=>trivial
theorem Ext.cut{G':Hp}{ι':List Addr}(e:Ext G ι G' ι'):∀k,k<ι.length→ι[k]? = ι'[k]?:=fun k hk=>by
 rw [eX hk,e.pre k _ (eX hk)]
theorem Wd.cut{G' H H':Hp}{ι':List Addr}{Ω Ω':aF}(w:Wd K G ι Ω H)(w':Wd K G' ι' Ω' H')(e:Ext G ι G' ι')(ht:Ω'.take Ω.length=Ω):Wd K G' ι Ω H' where
 sub:=w'.sub
 inj:=w.inj
 len:=w.len
 live:=fun a ha=>by
  obtain⟨k,hk,ea⟩:=Zr ha;exact w'.live a (nH (e.pre k a (by rw [← ea];exact eX hk)))
 aD:=fun k c a h1 h2=>by
  have hk:k<Ω.length:=(dI.mp h1).1;have tL:Ω'[k]? = some c:=by
   rw [← ht,NI]at h1;rw [if_pos hk]at h1;exact h1
  have q:=w'.aD k c a tL (e.pre k a h2);have q0:=w.aD k c a h1 h2;cases c with
  | lst ds =>
   obtain⟨g,xs,h3,h4⟩:=q;obtain⟨_,_,_,h5⟩:=q0;exact⟨g,xs,h3,h4.cut e.cut h5.cl⟩
  | cW kvs =>
   obtain⟨g,ws,h3,h4,h5⟩:=q;obtain⟨_,_,_,_,h6⟩:=q0;exact⟨g,ws,h3,h4,h5.cut e.cut h6.cl⟩
  | ins cls fs =>
   obtain⟨g,C,dx,ws,h0,h3,h4⟩:=q;obtain⟨_,_,_,_,_,_,h6⟩:=q0;exact⟨g,C,dx,ws,h0,h3,h4.cut (n:=ι.length) e.cut (fun b hb z=>hb (by
    obtain⟨k,hk,ea⟩:=Zr z;exact nH (e.pre k b (by rw [← ea];exact eX hk)))) h6.cl⟩
  | tab x pos qual=>exact q
  | dead=>trivial
 sep:=fun b k i k' i' h1 h2=>by
  have back:∀{k i},jI H' ι Ω k i b→jI H' ι' Ω' k i b:=fun{k i} h=>h.to (fun a ha=>⟨e.pre k a ha,fun _ z=>z⟩) fun cls fs q=>by
   have hk:k<Ω.length:=(dI.mp q).1;rw [← ht,NI,if_pos hk]at q;exact q
  exact w'.sep b k i k' i' (back h1) (back h2)
end
open Classical in
noncomputable def trim(Ω:aF):Option (Rs A×aF)→Option (Rs A×aF)
 | some (.ok a,Ω')=>if Ω'.take Ω.length=Ω∧Cl Ω.length a then some (.ok a,Ω)else some (.ok a,Ω')
 | some (.exc x,Ω')=>if Ω'.take Ω.length=Ω∧fH Ω.length (x.fs.map (·.2))then some (.exc x,Ω)else some (.exc x,Ω')
 | none=>none
theorem ab4{K:Frag}{W:WX}{G H:Hp}{ι:List Addr}{Ω:aF}{σ:L2.St}{Q:VK}{r:Option (Rs A×aF)}(w:Wd K G ι Ω H)(h:bQ K (Den K) W G ι σ Q (trim Ω r)):bQ K (Den K) W G ι σ Q r:=by
 match r,h with
 | some (.ok a,Ω'),h =>
  simp only [trim]at h;split at h
  ·rename_i hc;exact fun v H' G' ι' e w' d=>h v H' G' ι ⟨e.same,fun _ _ q=>q⟩ (w.cut w' e hc.1) (d.cut e.cut (by rw [w.len];exact hc.2))
  ·exact h
 | some (.exc x,Ω'),h =>
  simp only [trim]at h;split at h
  ·rename_i hc;intro cls dx H' G' ι' e w' d;refine h cls dx H' G' ι ⟨e.same,fun _ _ q=>q⟩ (w.cut w' e hc.1) d
  ·exact h
@[simp] def gC:OS→Option (Rs A×aF)
 | some (.nx,_,Ω)=>some (.ok .bR,Ω)
 | some (.ret a,_,Ω)=>some (.ok a,Ω)
 | some (.exc x,_,Ω)=>some (.exc x,Ω)
 | _=>none
@[simp] def LV(n:Nat)(ds:List A):Ev:=ds.map some++List.replicate (n - ds.length) none
@[simp] noncomputable def dW(n:Nat)(b:MS):List A→Mo A:=fun ds Ω=>trim Ω (gC (b (LV n ds) Ω))
def qP(K:Frag)(n:Nat)(F:List A→Mo A):Sp:=fun vs H Q E=>vs.length=n∧∃G ι Ω ds,Wd K G ι Ω H∧bD K G ι vs ds∧bQ K (Den K) (fun _=>E) G ι [] Q (F ds Ω)
abbrev cZ(P:Program)(w:World)(K:Frag)(mg:Str→Option Value)(base:Heap)(x:Str)(k:Nat)(ps:List Str)(F:List A→Mo A):Prop:=DJ P w K mg base x k ps (qP K ps.length F)
theorem atZ{K:Frag}{G:Hp}{ι:List Addr}{N:List Str}{vs:List V}{ds:List A}(d:bD K G ι vs ds):iN K G ι (L2.start N vs) (LV N.length ds):=by
 unfold L2.start LV;have hl:=d.length;refine⟨by simp [hl],fun i a h=>?_⟩
 by_cases hi:i<ds.length
 ·rw [jL (by simpa using hi)]at h;rw [kG]at h;cases e:ds[i]? with
  | none=>rw [e]at h;cases h
  | some a' =>
   rw [e]at h;cases h;obtain⟨v,q1,q2⟩:=d.get e;refine⟨v,?_,q2⟩;rw [jL (by simp;omega),kG,q1];rfl
 ·rw [sL (by simpa using hi)]at h;have:=nH h;simp at this
theorem GL{K:Frag}{N:List Str}{t:TS}{b:MS}{H:Hp}{vs:List V}{Q:VK}{E:XK}{n:Nat}(s:tR K (fun _=>E) t b)(h:qP K n (dW N.length b) vs H Q E):t { nx:=fun _ H'=>Q .bR H',rt:=Q } (L2.start N vs) H:=by
 obtain⟨hl,G,ι,Ω,ds,w,d,q⟩:=h;refine s G ι Ω H _ (LV N.length ds) _ w (atZ d) ?_;have q':=ab4 w q
 revert q'
 generalize b (LV N.length ds) Ω=r;intro q'
 match r,q' with
 | some (.nx,ρ',Ω'),q'=>exact fun σ' H' G' ι' e w' r'=>q' .bR H' G' ι' e w' (by simp only [Den])
 | some (.ret a,ρ',Ω'),q'=>exact fun σ' H' G' ι' e w' r' v d'=>q' v H' G' ι' e w' d'
 | some (.exc x,ρ',Ω'),q'=>exact fun σ' H' G' ι' e w' r' cls dx d'=>q' cls dx H' G' ι' e w' d'
 | some (.bk,ρ',Ω'),q'=>exact False.elim q'
 | some (.ct,ρ',Ω'),q'=>exact False.elim q'
section
variable{P:Program}{w:World}{K:Frag}{mg:Str→Option Value}{base:Heap}
theorem Vm{x:Str}{st:Stmt}{N ps:List Str}{k:Nat}{b:MS}{f:Addr}{fd:FuncData}(F:qF K x x st f fd)(S:dJ N ps (aX st))
  (gH:∀(f:Addr) (aU:Value) (A:Around) (outer:List Env) (s:Shared) (H:Hp) (E:XK),cH k (A.deeper (envOfC x (aX st) s.heap.objs.size f aU)) →
   jG (nE P w K mg base N x (aX st) f aU A outer s H E) (fun _=>E) (dX st) b):iG P w K mg base (pB P w) (k+1) f fd ps (qP K ps.length (dW N.length b)):=by
 obtain⟨oc,od,kV,doc,pm,an,aU,ct,gD,rfl,lk,fN⟩:=F.ex;refine FY lk fN S (fun vs H Q E h=>h.1) fun A outer s H vs Q E hr gF=>?_;obtain⟨t,p,q⟩:=gH f aU A outer s H E hr;exact⟨t,EY p,GL q gF⟩
theorem cZ.of{x:Str}{st:Stmt}{N ps:List Str}{k:Nat}{b:MS}(h:HasFn K mg x st)(S:dJ N ps (aX st))
  (bind:∀(kV doc pm:Value) (an:Option Addr) (aU ct:Value) (us:List Value),us.length=ps.length→bindArgs (fnOf x x (iV st) (dX st) (aX st) .none kV doc pm an aU ct) ⟨us,[]⟩=pure (ps.zip us))
  (gH:∀(f:Addr) (aU:Value) (A:Around) (outer:List Env) (s:Shared) (H:Hp) (E:XK),cH k (A.deeper (envOfC x (aX st) s.heap.objs.size f aU)) →
   jG (nE P w K mg base N x (aX st) f aU A outer s H E) (fun _=>E) (dX st) b):cZ P w K mg base x (k+1) ps (dW N.length b):=by
 obtain⟨f,fd,hm,F⟩:=h.ex;exact⟨f,fd,Vm F S gH,hm,F.kp,F.binds bind⟩
abbrev aaF(P:Program)(w:World)(K:Frag)(mg:Str→Option Value)(base:Heap)(x:Str)(k:Nat)(ps:List Str)(F:List A→Mo A):Prop:=Def P w K mg base x k ps (fun vs H Q _=>qP K ps.length F vs H Q fun _ _ _=>False)
theorem Gz{k:Nat}{f:Addr}{fd:FuncData}{ps:List Str}{sp:Sp}(F:iG P w K mg base (pB P w) k f fd ps sp):iG P w K mg base nZ k f fd ps (fun vs H Q _=>sp vs H Q fun _ _ _=>False) :=
 ⟨fun vs H Q E h=>F.len _ _ _ _ h,fun A outer s H args us vs Q E hr e0 hb r gF=>yX (F.run A outer s H args us vs Q _ hr e0 hb r gF) fun r s' hq=>by
  cases r with
  | error ev=>obtain⟨x,cls,dx,H',_,_,_,_,_,_,q⟩:=hq;exact q.elim
  | ok fl=>cases fl <;> exact hq⟩
theorem cZ.calm{x:Str}{k:Nat}{ps:List Str}{F:List A→Mo A}(D:cZ P w K mg base x k ps F):aaF P w K mg base x k ps F:=by
 obtain⟨f,fd,h1,h2,h3,h4⟩:=D.ex;exact⟨f,fd,Gz h1,h2,h3,h4⟩
end
section
variable{X:Cx}{W:WX}{x:Str}{p pos:Pos}{e:Expr}{es:List Expr}{fs:Ev→Mo (List A)}
@[simp] def bN(n:Nat)(F:List A→Mo A):List A→Mo A:=fun as=>if as.length=n then F as else stuck
theorem Xl{K:Frag}{G G1:Hp}{ι ι1:List Addr}{σ:L2.St}{Q:VK}{r:Option (Rs A×aF)}{W:WX}(h:bQ K (Den K) W G ι σ Q r)(x1:Ext G ι G1 ι1):bQ K (Den K) (fun _=>fun cls dx H'=>W σ cls dx H') G1 ι1 [] Q r:=by
 match r,h with
 | some (.ok a,Ω2),h=>exact fun v H' G' ι' x2 w2 d2=>h v H' G' ι' (x1.trans x2) w2 d2
 | some (.exc a,Ω2),h=>exact fun cls dx H' G' ι' x2 w2 d2=>h cls dx H' G' ι' (x1.trans x2) w2 d2
theorem fP{k:Nat}{ps:List Str}{F:List A→Mo A}(T:qC X W)(D:cZ X.prog X.w X.K X.mg X.base x k ps F)(hr:cH k X.A)(hg:Gl X x)(ha:VA X W (e::es) fs)
  (gW:(x == ("__debug__" : Str))=false:=by decide) (he:starEach (e::es) X.env=(false,eval e X.env)::starEach es X.env:=by rfl) (fJ:(backTo pos (starEach es X.env)).any (·.1)=false:=by rfl):VE X W (.Call (.Name x p) (e::es) [] pos) (aN (bN ps.length F) fs):=by
 obtain⟨t,p1,s1⟩:=ha;refine⟨_,alJ T D hr hg p1 gW he fJ,fun G ι Ω H σ ρ Q w r h=>?_⟩;refine s1 G ι Ω H σ ρ _ w r (bQ.mb h fun as Ω1 vs H1 G1 ι1 x1 w1 d1 h1=>?_);unfold bN at h1;split at h1
 ·rename_i hl;exact⟨by rw [d1.length];exact hl,G1,ι1,Ω1,as,w1,d1,Xl h1 (Ext.refl _ _)⟩
 ·exact False.elim h1
@[simp] def Ag(F:List A→Mo A):List A→Mo A:=fun as Ω=>match F as Ω with
 | some (.exc _,_)=>none
 | r=>r
theorem abH{k:Nat}{ps:List Str}{F:List A→Mo A}(D:aaF X.prog X.w X.K X.mg X.base x k ps F)(hr:cH k X.A)(hg:Gl X x)(ha:VA X W (e::es) fs)
  (gW:(x == ("__debug__" : Str))=false:=by decide) (he:starEach (e::es) X.env=(false,eval e X.env)::starEach es X.env:=by rfl) (fJ:(backTo pos (starEach es X.env)).any (·.1)=false:=by rfl):VE X W (.Call (.Name x p) (e::es) [] pos) (aN (Ag (bN ps.length F)) fs):=by
 obtain⟨t,p1,s1⟩:=ha;refine⟨_,alK D hr hg p1 gW he fJ,fun G ι Ω H σ ρ Q w r h=>?_⟩;refine s1 G ι Ω H σ ρ _ w r (bQ.mb h fun as Ω1 vs H1 G1 ι1 x1 w1 d1 h1=>?_);unfold Ag bN at h1;rw [zJ]
 by_cases hl:as.length=ps.length
 ·rw [if_pos hl]at h1;refine⟨by rw [d1.length];exact hl,G1,ι1,Ω1,as,w1,d1,?_⟩
  revert h1
  generalize F as Ω1=q2;intro h1
  match q2,h1 with
  | some (.ok a,Ω2),h1=>exact h1
 ·rw [if_neg hl]at h1;exact False.elim h1
abbrev cI(i:Int):Ev→Mo A:=fun _=>ret (.int i)
abbrev cB(i:Bool):Ev→Mo A:=fun _=>ret (.bl i)
abbrev cS(i:Str):Ev→Mo A:=fun _=>ret (.str i)
abbrev cN:Ev→Mo A:=fun _=>ret .bR
abbrev cT(n:String):Ev→Mo A:=fun _=>ret (.ty n)
abbrev a0:Ev→Mo (List A):=fun _=>ret []
abbrev pD:Ev→Mo (Option Int):=fun _=>ret none
end
end V2
namespace V2
open PySem L2
section
variable{α β:Type}{Ω Ω':aF}{a:A}
@[simp] theorem ay8(x:α)(k:α→Mo β):mb (ret x) k=k x:=rfl
theorem cE{m:Mo α}{k:α→Mo β}{x:α}(h:m Ω=some (.ok x,Ω')):mb m k Ω=k x Ω':=by unfold mb;rw [h]
@[simp] theorem ay9(x:α)(k:α→Mo β):mb (need (some x)) k=k x:=rfl
theorem Rh{p:Prop} [Decidable p](k:Unit→Mo β)(h:p):mb (oX p) k=k ():=by funext Ω;simp [mb,oX,h]
@[simp] theorem ayX(x:α):(ret x:Mo α) Ω=some (.ok x,Ω):=rfl
@[simp] theorem rR:trim Ω (some (.ok a,Ω))=some (.ok a,Ω):=by simp only [trim];split <;> rfl
theorem AD{Δ:aF}(h:Cl Ω.length a):trim Ω (some (.ok a,Ω++Δ))=some (.ok a,Ω):=by
 simp only [trim];rw [if_pos ⟨by simp,h⟩]
@[simp] theorem ayW(x:α)(ρ:Ev)(k:α→aF→OS):sM (ret x) ρ k=k x:=rfl
theorem kU{m:Mo α}{ρ:Ev}{k:α→aF→OS}{x:α}(h:m Ω=some (.ok x,Ω')):sM m ρ k Ω=k x Ω':=by unfold sM;rw [h]
@[simp] theorem pE(ρ:Ev):gC (some (.ret a,ρ,Ω))=some (.ok a,Ω):=rfl
@[simp] theorem QI(ρ:Ev):gC (some (.nx,ρ,Ω))=some (.ok .bR,Ω):=rfl
theorem bM{f g:MS}{ρ ρ1:Ev}(h:f ρ Ω=some (.nx,ρ1,Ω')):aV f g ρ Ω=g ρ1 Ω':=by unfold aV;rw [h]
theorem aiD{f g:MS}{ρ ρ1:Ev}(h:f ρ Ω=some (.ret a,ρ1,Ω')):aV f g ρ Ω=some (.ret a,ρ1,Ω'):=by unfold aV;rw [h]
theorem sJ{α:Type}(xs:List α)(n:Nat):dY xs (n:Int)=xs[n]?:=by
 unfold dY pH;rw [if_pos (by omega)]
 by_cases h:(n:Int)<xs.length
 ·rw [if_pos h];simp
 ·rw [if_neg h];simp;omega
theorem GS{α:Type}(xs:List α)(n:Nat):dY xs (OfNat.ofNat n:Int)=xs[n]?:=sJ xs n
theorem MP{α:Type}(xs:List α):dY xs 0=xs[0]?:=sJ xs 0
theorem Ib{α:Type}(xs:List α):dY xs 1=xs[1]?:=sJ xs 1
end
@[simp] theorem ayJ:uG "int" "int" = some true:=by simp [uG]
@[simp] theorem ayK:uG "int" "bool" = some false:=by simp [uG]
@[simp] theorem ayI:uG "tuple" "tuple" = some true:=by simp [uG]
@[simp] theorem azE(Ω:aF)(ds:List A):cK Ω (.lst ds)=some ds:=rfl
@[simp] theorem azD(Ω:aF)(ns:List Int):cK Ω (.dB ns)=some (ns.map A.int):=rfl
@[simp] theorem azC(Ω:aF)(ds:List A):cK Ω (.tup ds)=none:=rfl
@[simp] theorem azF(Ω:aF)(i:Int):cK Ω (.int i)=none:=rfl
@[simp] theorem ayT(Ω:aF)(ds:List A):dO Ω (.lst ds)=some ds:=rfl
@[simp] theorem ayS(Ω:aF)(ns:List Int):dO Ω (.dB ns)=some (ns.map A.int):=rfl
@[simp] theorem ayR(Ω:aF)(ds:List A):dO Ω (.tup ds)=some ds:=rfl
@[simp] theorem ayU(Ω:aF)(k:Nat):dO Ω (.aD k)=cK Ω (.aD k):=rfl
@[simp] theorem ayP(Ω:aF)(i:Int):oH Ω (.int i)=some "int":=rfl
@[simp] theorem ayQ(Ω:aF)(i:Bool):oH Ω (.bl i)=some "bool":=rfl
@[simp] theorem ayM(Ω:aF)(i:Str):oH Ω (.str i)=some "str":=rfl
@[simp] theorem ayN(Ω:aF):oH Ω .bR=some "NoneType":=rfl
@[simp] theorem ayL(Ω:aF)(ds:List A):oH Ω (.tup ds)=some "tuple":=rfl
@[simp] theorem ayO(Ω:aF)(ds:List A):oH Ω (.lst ds)=some "list":=rfl
@[simp] theorem azK:sC .bR=some true:=rfl
@[simp] theorem azM(i:Int):sC (.int i)=some false:=rfl
@[simp] theorem azJ(ds:List A):sC (.tup ds)=some false:=rfl
@[simp] theorem azL(ds:List A):sC (.lst ds)=some false:=rfl
@[simp] theorem azN(b:Bool):sC (.bl b)=some false:=rfl
theorem iJ{Ω:aF}{k:Nat}{ds:List A}(h:Ω[k]? = some (.lst ds)):cK Ω (.aD k)=some ds:=by simp [cK,h]
theorem tO{Ω:aF}{k:Nat}{ds:List A}(h:Ω[k]? = some (.lst ds)):lS Ω (.aD k)=some (k,ds):=by simp [lS,h]
theorem tE{Ω:aF}{a:A}{ds:List A}(h:cK Ω a=some ds):pI Ω a:=⟨ds,h⟩
section
variable{ok:aF→Prop}{g:A→MS}{b:MS}{x:A}{xs:List A}{ρ ρ0 ρ1:Ev}{Ω Ω0 Ω1:aF}{a:A}
theorem RQ(h:ok Ω):dS ok g b [] ρ Ω=some (.nx,ρ,Ω):=by simp [dS,h]
theorem lE(h:ok Ω)(hg:g x ρ Ω=some (.nx,ρ0,Ω0))(hb:b ρ0 Ω0=some (.nx,ρ1,Ω1)):dS ok g b (x::xs) ρ Ω=dS ok g b xs ρ1 Ω1:=by simp [dS,h,hg,hb]
theorem atR(h:ok Ω)(hg:g x ρ Ω=some (.nx,ρ0,Ω0))(hb:b ρ0 Ω0=some (.ct,ρ1,Ω1)):dS ok g b (x::xs) ρ Ω=dS ok g b xs ρ1 Ω1:=by simp [dS,h,hg,hb]
theorem atP(h:ok Ω)(hg:g x ρ Ω=some (.nx,ρ0,Ω0))(hb:b ρ0 Ω0=some (.ret a,ρ1,Ω1)):dS ok g b (x::xs) ρ Ω=some (.ret a,ρ1,Ω1):=by simp [dS,h,hg,hb]
theorem LS(I:Nat→Ev→aF→Prop)(aH:∀i ρ Ω,I i ρ Ω→ok Ω):∀(xs:List A) (j:Nat) (ρ:Ev) (Ω:aF),I j ρ Ω →
  (∀i x ρ Ω,xs[i]? = some x→I (j+i) ρ Ω→∃ρ0 Ω0 ρ1 Ω1,g x ρ Ω=some (.nx,ρ0,Ω0)∧(b ρ0 Ω0=some (.nx,ρ1,Ω1)∨b ρ0 Ω0=some (.ct,ρ1,Ω1))∧I (j+i+1) ρ1 Ω1) →
  ∃ρ' Ω',dS ok g b xs ρ Ω=some (.nx,ρ',Ω')∧I (j+xs.length) ρ' Ω'
 | [],j,ρ,Ω,h0,_=>⟨ρ,Ω,RQ (aH _ _ _ h0),h0⟩
 | x::xs,j,ρ,Ω,h0,turn=>by
  obtain⟨ρ0,Ω0,ρ1,Ω1,e1,e2,e3⟩:=turn 0 x ρ Ω rfl h0;obtain⟨ρ',Ω',q1,q2⟩:=LS I aH xs (j+1) ρ1 Ω1 e3 fun i y ρ Ω hy hI=>by
   have:=turn (i+1) y ρ Ω (by simpa using hy) (by rw [show j+(i+1)=j+1+i by omega];exact hI);rwa [show j+(i+1)+1=j+1+i+1 by omega]at this
  refine⟨ρ',Ω',?_,by rw [gO,show j+(xs.length+1)=j+1+xs.length by omega];exact q2⟩
  rcases e2 with e2 | e2
  ·rw [lE (aH _ _ _ h0) e1 e2,q1]
  ·rw [atR (aH _ _ _ h0) e1 e2,q1]
end
section
variable{c:Ev→Mo Bool}{b:MS}{n:Nat}{ρ ρ1:Ev}{Ω Ω1 Ω2:aF}{a:A}
theorem Fy(hc:c ρ Ω=some (.ok true,Ω1))(hb:b ρ Ω1=some (.nx,ρ1,Ω2)):nD c b (n+1) ρ Ω=nD c b n ρ1 Ω2:=by simp [nD,hc,hb]
theorem RP(hc:c ρ Ω=some (.ok false,Ω1)):nD c b (n+1) ρ Ω=some (.nx,ρ,Ω1):=by simp [nD,hc]
end
open PySem PySem.Spec PyProof.Rows L2
def UU(K:Frag)(a:Addr):It :=
 ⟨fun i H=>∃xs x,dG K H a xs∧xs[i]? = some x,fun i H x H'=>∃p y,H p=none∧H'=upd H p (.tup [.int (i:Int),y])∧x = .ref p∧∀xs,dG K H a xs→xs[i]? = some y,fun i H=>∃xs,dG K H a xs∧xs.length≤i⟩
section
variable{X:Cx}{pins:List (Addr×Obj)}{σ:L2.St}{H:Hp}{s:Shared}{h':Heap}
theorem Inv.Ml{t':Nat}{e it:Addr}(I:Inv X pins σ H s)(k:∀b o,b≠e→b≠it→s.heap.get? b=some o→h'.get? b=some o)(fe:mP X pins H e)(ft:mP X pins H it):Inv X pins σ H { s with heap:=h',toks:=t' }:=by
 obtain⟨a0,a1,a2,a3,a4,a5⟩:=fe;obtain⟨b0,b1,b2,b3,b4,b5⟩:=ft;have ne:∀b u,H b=some u→b≠e:=fun b u q z=>by rw [z,a0]at q;cases q
 have JD:∀b u,H b=some u→b≠it:=fun b u q z=>by rw [z,b0]at q;cases q
 refine I.step (g':=s.gens) (d':=s.drawn) (ch:=[e,it]) (fun b hb=>?_) (fun b o _ _ hc q _=>k b o (fun z=>hc (by simp [z])) (fun z=>hc (by simp [z])) q) (fun b o _ _ hc q _=>⟨o.slots,k b o (fun z=>hc (by simp [z])) (fun z=>hc (by simp [z])) q⟩) (fun _ _ _ _ n=>n)
  (fun b o hc q=>⟨o,k b o (fun z=>hc (by simp [z])) (fun z=>hc (by simp [z])) q⟩) (fun _ _ q=>q) (fun _ _ _ q=>q) (fun b ps q=>⟨#[],by rw [q];simp⟩) (fun m hm=>?_) (fun b u q=>?_) I.bare
 ·rcases dN.mp hb with z | z
  ·subst z;exact⟨a3,a1,a4,a5⟩
  ·have z:b=it:=by simpa using z
   subst z;exact⟨b3,b1,b4,b5⟩
 ·obtain⟨o,es,ep,ho,r⟩:=hm;exact⟨o,es,ep,k _ o (cQ a1) (cQ b1) ho,r⟩
 ·refine(I.aH b u q).mD (fun c v hc q'=>k c v ?_ ?_ q') (fun _ q=>q) fun _ _ q=>q
  ·rcases hc with z | z
   ·rw [z];exact ne b u q
   ·exact ne c _ z
  ·rcases hc with z | z
   ·rw [z];exact JD b u q
   ·exact JD c _ z
end
theorem Inv.ON{X:Cx}{pins:List (Addr×Obj)}{σ:L2.St}{H:Hp}{s:Shared}{p:Addr}{o:HO}(I:Inv X pins σ H s)(hp:H p=none)(h0:X.s₀.heap.get? p=none)(hL:p≠X.env.locals)(hC:∀x c,X.env.cells.lookup x=some c→c≠p)(hP:∀q∈X.pn++pins,q.1≠p)
  (aH:eY X.prog X.w (upd H p o) s.heap):Inv X pins σ (upd H p o) s where
 ok:=I.ok
 os:=I.os
 bare:=I.bare
 base:={
  keep:=I.base.keep
  slot:=I.base.slot
  free:=fun b ob q n hx=>by
   have hb:b≠p:=fun z=>by subst z;rw [h0]at q;cases q
   rw [bP hb];exact I.base.free b ob q n hx
  there:=I.base.there
  mT:=fun b xs q=>by have z:=I.base.mT b xs q;rw [bP (gT z hp)];exact z
  lD:=fun b ob u q=>by have z:=I.base.lD b ob u q;rw [bP (gT z hp)];exact z
  mB:=fun b ps q=>by obtain⟨more,z⟩:=I.base.mB b ps q;exact⟨more,by rw [bP (gT z hp)];exact z⟩ }
 loc:=I.loc
 cell:=I.cell
 free:=by rw [bP (cQ hL)];exact I.free
 mJ:=fun x c q=>by rw [bP (hC x c q)];exact I.mJ x c q
 pin:=fun q hq=>by
  obtain⟨a,b,c⟩:=I.pin q hq;exact⟨a,by rw [bP (hP q hq)];exact b,c⟩
 aH:=aH
 len:=I.len
theorem ab0{P:Program}{w:World}{K:Frag}{elts:List Expr}{x1:Nat}{tp:Pos}(a e it:Addr)(eW:e≠it):Turn P w K (.Tuple elts x1 tp) (UU K a) [e,it] e (fun i h=>(∃old,IsEnum h e it (i:Int) old)∧h.IsListIter it a i)where
 mem:=by simp
 obj:=fun i h st b hb=>by
  obtain⟨⟨old,mV⟩,o,q,c,d⟩:=st
  rcases dN.mp hb with z | z
  ·subst z;exact⟨_,mV,fun v z=>by cases z⟩
  ·have z:b=it:=by simpa using z
   subst z;exact⟨o,q,fun v z=>by rw [d]at z;cases z⟩
 keep:=fun i h h' st k=>⟨let ⟨old,q⟩:=st.1; ⟨old,k e (by simp) _ q⟩,st.2.at fun o q=>k it (by simp) o q⟩
 item:=by
  intro X hP hw hK hc i pins s σ H E I hf st hg;subst hP hw hK;obtain⟨⟨old,mV⟩,mE⟩:=st;obtain⟨xs,x,hq,hx⟩:=hg;obtain⟨aQ,rv,p,hz⟩:=I.list hq;obtain⟨u,hu,ru⟩:=rv.get hx;have fe:=hf e (by simp);have ft:=hf it (by simp);have BJ:e<s.heap.objs.size:=dA mV;have Cw:it<s.heap.objs.size:=let ⟨_,q,_⟩:=mE;dA q;refine wpAny_pyNext_enum_item mV mE p.isList (x:=u) (by simpa using hu) eW fun h1 e1 i1 t1 z1 k1=>?_;refine⟨_,rfl,wpAny_letOwnedTupleGo_enum (s:={ s with heap:=h1,toks:=s.toks+1 }) e1 fun h2 e2 s2=>?_⟩;have kB:H s.heap.objs.size=none:=I.aH.fresh cJ;have k2:∀b o,b≠e→b≠it→s.heap.get? b=some o→h2.get? b=some o:=fun b o n1 n2 q=>s2.extBut b o n1 (k1 b o n1 n2 q);have t2:h2.get? s.heap.objs.size=some { cls := .type "tuple",data := .seq #[.int (i:Int) s.toks,u] }:=s2.extBut _ _ (CY BJ) t1;have I1:Inv X pins σ H { s with heap:=h2,toks:=s.toks+1 }:=Inv.Ml (t':=s.toks+1) I k2 fe ft;have i2:h2.IsListIter it a (i+1):=i1.extBut s2.extBut (cQ eW);have aH:eY X.prog X.w (upd H s.heap.objs.size (.tup [.int (i:Int),x])) h2:=by
   refine fun b o q=>?_
   by_cases eb:b=s.heap.objs.size
   ·subst eb;rw [eA]at q;cases q;exact⟨by show 2≤sizeLine;decide,[.int (i:Int) s.toks,u],.cons ⟨_,rfl⟩ (.cons ru .nil),⟨_,t2,rfl,_,rfl⟩⟩
   ·rw [bP eb]at q;exact(I1.aH b o q).mD (fun c v _ z=>z) (fun c z=>by rw [bP (gT z kB)];exact z) fun c xs z=>by rw [bP (gT z kB)];exact z
  have fp:mP X pins H s.heap.objs.size:=I.pX cJ kB;have h0:X.s₀.heap.get? s.heap.objs.size=none:=by
   cases q:X.s₀.heap.get? s.heap.objs.size with
   | none=>rfl
   | some ob=>exact absurd (kE (dA q) I.sz) (Nat.lt_irrefl _)
  have I2:Inv X pins σ (upd H s.heap.objs.size (.tup [.int (i:Int),x])) { s with heap:=h2,toks:=s.toks+1 }:=Inv.ON I1 kB h0 fp.2.1 fp.2.2.2.2.1 fp.2.2.2.2.2 aH;refine⟨.ref s.heap.objs.size,_,I2,rfl,⟨_,x,kB,rfl,rfl,fun ys hy=>by rw [I.JL hy hq];exact hx⟩,⟨⟨_,e2⟩,i2⟩,fun b hb=>?_⟩
  rcases dN.mp hb with z | z
  ·subst z;rw [bP (iE BJ)];exact fe.1
  ·have z:b=it:=by simpa using z
   subst z;rw [bP (iE Cw)];exact ft.1
 done:=by
  intro X hP hw hK hc i pins s σ H E I hf st hg;subst hP hw hK;obtain⟨⟨old,mV⟩,mE⟩:=st;obtain⟨xs,hq,hx⟩:=hg;obtain⟨aQ,rv,p,hz⟩:=I.list hq;obtain⟨f0,f1,f2,f3,f4,f5⟩:=hf it (by simp);have hl:=rv.length;exact wpAny_pyNext_enum_end (I.ok.hd hc) mV mE p.isList (by simp;omega) fun h' eb=>⟨rfl,I.turned (t':=s.toks) (fun b o hb e=>eb b o hb e) f0 f1 f3 f4 f5⟩
 self:=fun _ _ _ _ _ st h=>let ⟨_,q⟩:=st.1;VU q h
section
variable{X:Cx}{W:WX}{pos:Pos}
theorem akQ{elts:List Expr}{x1:Nat}{tp p:Pos}{l:Expr}{tl:TE}(hg:Gl X "enumerate")(hm:X.mg "enumerate" = none)(hl:PE X l tl)(hs:starEach [l] X.env=[(false,eval l X.env)]:=by rfl) :
  PI X (.Tuple elts x1 tp) (.Call (.Name "enumerate" p) [l] [] pos) (fun σ H R=>tl σ H fun x H1=>∃a,x = .ref a∧(∃xs,dG X.K H1 a xs)∧R (UU X.K a) H1):=by
 intro pins s σ H R I h;refine vH (BC I hg hm boot_enumerate ?_);refine Iu (bG (AM hl IW hs pos pins s σ H (fun vs H1=>match vs with
  | [x]=>∃a,x=V.ref a∧(∃xs,dG X.K H1 a xs)∧R (UU X.K a) H1
  | _=>False) I h) fun us s1 ⟨vs,H1,I1,r1,q1⟩=>?_) hs rfl
 match vs,q1 with
 | [x],q1 =>
 obtain⟨a,e1,⟨xs,hq⟩,q⟩:=q1;obtain⟨u,rfl,ru⟩:=vals1 r1;subst e1;cases ru;obtain⟨aQ,rv,pl,hz⟩:=I1.list hq;refine call_enumerate_list pl.isList fun h' hE hI hsz hk=>?_;refine VU (s:={ s1 with heap:=h' }) hE ?_;have I2:Inv X pins σ H1 { s1 with heap:=h' }:=I1.kept (t':=s1.toks) hk;refine⟨_,[s1.heap.objs.size+1,s1.heap.objs.size],_,_,H1,rfl,I2,ab0 a _ _ (Nat.succ_ne_self _),⟨⟨.none,hE⟩,hI⟩,fun b hb=>?_,q⟩
 rcases dN.mp hb with z | z
 ·subst z;exact I1.pX (NA _) (I1.aH.fresh (NA _))
 ·have z:b=s1.heap.objs.size:=by simpa using z
  subst z;exact I1.pX cJ (I1.aH.fresh cJ)
def kP:Nat→List A→List A
 | _,[]=>[]
 | n,x::xs => .tup [.int (n:Int),x]::kP (n+1) xs
theorem LW:∀(n:Nat) (xs:List A),(kP n xs).length=xs.length
 | _,[]=>rfl
 | n,x::xs=>by simp only [kP,gO,LW (n+1) xs]
theorem Ga:∀(n i:Nat) (xs:List A),(kP n xs)[i]? = xs[i]?.map fun x => .tup [.int ((n+i:Nat):Int),x]
 | _,_,[]=>by simp [kP]
 | n,0,x::xs=>by simp [kP]
 | n,i+1,x::xs=>by
  simp only [kP,Zs];rw [Ga (n+1) i xs];have e:n+1+i=n+(i+1):=by omega
  rw [e]
def enumSrc(a:A)(ds:List A):Src:=⟨kP 0 ds,fun Ω=>cK Ω a=some ds⟩
@[simp] def WV(f:Ev→Mo A):Ev→Mo Src:=fun ρ=>mb (f ρ) fun a Ω=>match cK Ω a with
 | some ds=>some (.ok (enumSrc a ds),Ω)
 | none=>none
theorem apI{K:Frag}{G:Hp}{ι:List Addr}{p:Addr}{a:A}{ds:List A}(d:Den K G ι (.ref p) a):tU K G ι (UU K p) (enumSrc a ds):=by
 have key:∀G' ι' Ω' H',Ext G ι G' ι'→Wd K G' ι' Ω' H'→cK Ω' a=some ds→∃xs,dG K H' p xs∧bD K G' ι' xs ds:=fun G' ι' Ω' H' e w h=>by
  obtain⟨q,xs,h1,h2,h3⟩:=qV w (d.ext e) h;cases h1;exact⟨xs,h2,h3⟩
 refine⟨fun G' ι' Ω' H' e w h i hi=>?_,fun G' ι' Ω' H' e w h i hi=>?_,fun G' ι' Ω' H' e w h i x H2 y hy hd=>?_⟩
 ·obtain⟨xs,h2,h3⟩:=key G' ι' Ω' H' e w h;have hl:i<xs.length:=by rw [h3.length,← LW 0 ds];exact hi
  exact⟨xs,xs[i],h2,eX hl⟩
 ·obtain⟨xs,h2,h3⟩:=key G' ι' Ω' H' e w h;exact⟨xs,h2,by rw [h3.length,← LW 0 ds];exact hi⟩
 ·obtain⟨xs,h2,h3⟩:=key G' ι' Ω' H' e w h;obtain⟨q,z,e1,e2,e3,e4⟩:=hd;subst e2 e3;have jO:(kP 0 ds)[i]? = some y:=hy;rw [Ga]at jO;cases ed:ds[i]? with
  | none=>rw [ed]at jO;cases jO
  | some d' =>
   rw [ed]at jO;cases jO;obtain⟨z',q1,q2⟩:=h3.get ed;rw [e4 xs h2]at q1;cases q1;refine⟨upd G' q (.tup [.int (i:Int),z]),Ext.new (w.lA e1) _,w.new e1 _,?_⟩;simp only [Den];exact⟨q,_,rfl,eA,.cons (by simp only [Den,wY]) (.cons (q2.ext (Ext.new (w.lA e1) _)) .nil)⟩
theorem Lm{elts:List Expr}{x1:Nat}{tp p:Pos}{l:Expr}{fe:Ev→Mo A}(hg:Gl X "enumerate")(hm:X.mg "enumerate" = none)(h:VE X W l fe)(hs:starEach [l] X.env=[(false,eval l X.env)]:=by rfl) :
  VI X W (.Tuple elts x1 tp) (.Call (.Name "enumerate" p) [l] [] pos) (WV fe):=by
 obtain⟨t,p,s⟩:=h;refine⟨_,akQ hg hm p hs,fun G ι Ω H σ ρ R w r h=>?_⟩;refine s G ι Ω H σ ρ _ w r (bQ.mb h fun a Ω1 v H1 G1 ι1 x1 w1 d1 h1=>?_);cases e:cK Ω1 a with
 | none=>simp only [e]at h1;exact False.elim h1
 | some ds =>
  simp only [e]at h1;obtain⟨q,xs,h2,h3,h4⟩:=qV w1 d1 e;subst h2;exact⟨q,rfl,⟨xs,h3⟩,h1 _ H1 G1 ι1 (Ext.refl _ _) w1 (apI d1)⟩
theorem aa2{st:Stmt}:VS X W st (fun _ _=>none):=⟨_,ajX,fun _ _ _ _ _ _ _ _ _ h=>h.elim⟩
end
def lP(n:Nat)(js:List Nat)(ρ:Ev):Ev:=List.replicate n none++js.map (fun j=>(ρ[j]?).join)
def GU(X:Cx)(W:WX)(ifs:List Expr)(f:Ev→Mo Bool):Prop:=∃t,GV X ifs t∧fK X.K AK W t f
abbrev qI:Ev→Mo Bool:=fun _=>ret true
theorem vJ{X:Cx}{W:WX}:GU X W [] qI:=⟨_,akK,fun _ _ _ _ _ _ _ w _ q=>gQ w rfl q⟩
theorem WG{X:Cx}{W:WX}{c:Expr}{f:Ev→Mo Bool}(h:VT X W c f):GU X W [c] f:=let ⟨t,p,s⟩:=h; ⟨t,akJ p,s⟩
open Classical in
noncomputable def oU(ok:aF→Prop)(g:A→MS)(c:Ev→Mo Bool)(e:Ev→Mo A)(n:Nat):List A→Ev→aF→Option (Ev×aF)
 | [],ρ,Ω=>if ok Ω then some (ρ,Ω)else none
 | x::xs,ρ,Ω=>if ok Ω then(match g x ρ Ω with
  | some (.nx,ρ1,Ω1)=>(match c ρ1 Ω1 with
   | some (.ok true,Ω2)=>(match e ρ1 Ω2 with
    | some (.ok y,Ω3)=>(match Ω3[n]? with
     | some (.lst ys)=>if ys.length<sizeLine then oU ok g c e n xs ρ1 (Ω3.set n (.lst (ys++[y])))else none
     | _=>none)
    | _=>none)
   | some (.ok false,Ω2)=>oU ok g c e n xs ρ1 Ω2
   | _=>none)
  | _=>none)else none
open Classical in
noncomputable def QP(cf:Bool)(Ω1:aF)(r:Option (Ev×aF)):Option (Rs A×aF):=match r with
 | some (_,Ω')=>(match Ω'[Ω1.length]? with
  | some (.lst ys)=>if cf then some (.ok (.aD Ω1.length),Ω')else if Ω'.take Ω1.length=Ω1∧fH Ω1.length ys then some (.ok (.lst ys),Ω1)else some (.ok (.lst ys),Ω'.set Ω1.length .dead)
  | _=>none)
 | none=>none
noncomputable def lK(cf:Bool)(n:Nat)(js:List Nat)(fi:Ev→Mo Src)(g:A→MS)(c:Ev→Mo Bool)(e:Ev→Mo A):Ev→Mo A:=fun ρ=>mb (fi ρ) fun S Ω1=>QP cf Ω1 (oU S.ok g c e Ω1.length S.ds (lP n js ρ) (Ω1++[.lst []]))
theorem atO{ok:aF→Prop}{g:A→MS}{c:Ev→Mo Bool}{e:Ev→Mo A}{n:Nat}{xs:List A}{ρ:Ev}{Ω:aF}{r:Ev×aF}(h:oU ok g c e n xs ρ Ω=some r):ok Ω:=by
 cases xs with
 | nil=>unfold oU at h;by_cases hp:ok Ω;exact hp;rw [if_neg hp]at h;cases h
 | cons=>unfold oU at h;by_cases hp:ok Ω;exact hp;rw [if_neg hp]at h;cases h
theorem aoM{K:Frag}{G:Hp}{ι:List Addr}{σ:L2.St}{ρ:Ev}(ls:List Str)(js:List Nat)(r:iN K G ι σ ρ):iN K G ι (uE ls js σ) (lP ls.length js ρ):=by
 unfold uE lP;refine⟨by simp,fun i d h=>?_⟩
 by_cases hi:i<ls.length
 ·rw [jL (by simpa using hi)]at h;rw [List.getElem?_replicate,if_pos hi]at h;cases h
 ·rw [sL (by simpa using Jb hi),List.length_replicate,kG]at h;cases e:js[i - ls.length]? with
  | none=>rw [e]at h;cases h
  | some j =>
   rw [e]at h;have h':(ρ[j]?).join=some d:=jJ h;obtain⟨v,q1,q2⟩:=r.2 j d (join_some h');refine⟨v,?_,q2⟩;rw [sL (by simpa using Jb hi),kQ,kG,e];show some (σ[j]?).join=_;rw [q1];rfl
section
variable{K:Frag}{W:WX}
theorem Nr{ls:List Str}{js:List Nat}{wi:TI}{tg:TG}{tc:TT}{te:TE}{fi:Ev→Mo Src}{g:A→MS}{c:Ev→Mo Bool}{e:Ev→Mo A}{cf:Bool}(W0:WX)(hi:fK K (ZQ K) W wi fi)(hg:MW K W0 tg g)(hc:fK K AK W0 tc c)(he:fK K (Den K) W0 te e) :
  fK K (Den K) W (XY ls js wi tg tc te) (lK cf ls.length js fi g c e):=by
 intro G ι Ω H σ ρ Q w r h;refine hi G ι Ω H σ ρ _ w r (bQ.mb h fun S Ω1 J H1 G1 ι1 x1 w1 j1 h1=>?_);intro D hD;unfold QP at h1;cases er:oU S.ok g c e Ω1.length S.ds (lP ls.length js ρ) (Ω1++[.lst []])with
 | none=>rw [er]at h1;exact False.elim h1
 | some rr =>
 obtain⟨ρe,Ωe⟩:=rr;rw [er]at h1;simp only at h1;have hw0:Wd K G1 (ι1++[D]) (Ω1++[.lst []]) (upd H1 D (.lst [])):=w1.cell hD ⟨w1.lA hD,[],eA,.nil⟩;have r0:iN K G1 (ι1++[D]) (uE ls js σ) (lP ls.length js ρ):=aoM ls js (r.ext (x1.trans (Ext.cell D)));have Ut:(ι1++[D])[Ω1.length]? = some D:=by rw [← w1.len];simp
 refine⟨fun i m σ' H'=>m=S.ds.length - i∧i≤S.ds.length∧∃G' ι' Ω' ρ',Ext G1 (ι1++[D]) G' ι'∧Wd K G' ι' Ω' H'∧iN K G' ι' σ' ρ'∧oU S.ok g c e Ω1.length (S.ds.drop i) ρ' Ω'=some (ρe,Ωe),
  ⟨_,rfl,CW _,G1,_,_,_,Ext.refl _ _,hw0,r0,by simpa using er⟩,?_⟩
 rintro i m σ' H' ⟨rfl,hil,G',ι',Ω',ρ',e',w',r',h'⟩;have aH:=atO h';have eJ:Ext G1 ι1 G' ι':=(Ext.cell D).trans e'
 by_cases iT:i<S.ds.length
 ·right
  refine⟨j1.go G' ι' Ω' H' eJ w' aH i iT,fun σ2 H2=>∃G2 ι2 Ω2 ρ2,Ext G1 (ι1++[D]) G2 ι2∧Wd K G2 ι2 Ω2 H2∧iN K G2 ι2 σ2 ρ2∧oU S.ok g c e Ω1.length (S.ds.drop (i+1)) ρ2 Ω2=some (ρe,Ωe),fun σ2 H2 n=>?_,fun x H2 y=>?_⟩
  ·exact⟨S.ds.length - (i+1),by omega,rfl,iT,n⟩
  ·obtain⟨G2,e2,w2,d2⟩:=j1.xJ G' ι' Ω' H' eJ w' aH i x H2 S.ds[i] (eX iT) y;rw [List.drop_eq_getElem_cons iT]at h';unfold oU at h';rw [if_pos aH]at h';refine hg G2 ι' Ω' H2 σ' ρ' x S.ds[i] ⟨_,fun _ _=>False,fun _ _=>False,fun _ _=>False⟩ w2 (r'.ext e2) d2 ?_
   revert h'
   generalize g S.ds[i] ρ' Ω'=q;intro h';split at h'
   ·rename_i ρ3 Ω3;intro σ3 H3 G3 ι3 x3 w3 r3;refine hc G3 ι3 Ω3 H3 σ3 ρ3 _ w3 r3 ?_
    revert h'
    generalize c ρ3 Ω3=q2;intro h';split at h'
    ·rename_i Ω4;intro b H4 G4 ι4 x4 w4 hb;cases(show b=true from hb);rw [if_pos rfl];refine he G4 ι4 Ω4 H4 σ3 ρ3 _ w4 (r3.ext x4) ?_
     revert h'
     generalize e ρ3 Ω4=q3;intro h';split at h'
     ·rename_i z Ω5;intro v H5 G5 ι5 x5 w5 d5;split at h'
      ·rename_i ys ey;split at h'
       ·rename_i hl;have eD:=(((e'.trans e2).trans x3).trans x4).trans x5;have hk:=eD.pre _ _ Ut;obtain⟨gg,xs,q1,q2⟩:=w5.aD _ _ D ey hk;refine⟨xs,q1,by rw [q2.length];exact hl,G5,ι5,_,ρ3,eD,w5.put (c := .lst (ys++[z])) hk gg ⟨gg,_,eA,q2.append (.cons d5 .nil)⟩,(r3.ext x4).ext x5,h'⟩
       ·cases h'
      ·cases h'
     ·cases h'
    ·rename_i Ω4;intro b H4 G4 ι4 x4 w4 hb;cases(show b=false from hb);rw [if_neg (by simp)];exact⟨G4,ι4,Ω4,ρ3,((e'.trans e2).trans x3).trans x4,w4,r3.ext x4,h'⟩
    ·cases h'
   ·cases h'
 ·have KI:i=S.ds.length:=by omega
  subst KI
  left
  refine⟨j1.stop G' ι' Ω' H' eJ w' aH _ cJ,?_⟩;rw [List.drop_length]at h';unfold oU at h';rw [if_pos aH]at h';cases h';split at h1
  ·rename_i ys ey;have hk:=e'.pre _ _ Ut;obtain⟨gg,xs,q1,q2⟩:=w'.aD _ _ D ey hk;split at h1
   ·exact h1 _ H' G' ι' eJ w' (by simp only [Den];exact⟨D,rfl,hk⟩)
   ·have wf:=w'.freeze hk gg q1;split at h1
    ·rename_i RC;have eC:Ext G1 ι1 (upd G' D (.lst xs)) ι':=eJ.trans (Ext.new gg _);have wc:=w1.cut wf eC (by rw [List.take_set_of_le cJ];exact RC.1);refine h1 _ H' _ ι1 ⟨eC.same,fun _ _ q=>q⟩ wc ?_;simp only [Den];exact⟨D,xs,rfl,eA,(q2.ext (Ext.new gg _)).cut eC.cut (by rw [w1.len];exact RC.2)⟩
    ·refine h1 _ H' _ ι' (eJ.trans (Ext.new gg _)) wf ?_;simp only [Den];exact⟨D,xs,rfl,eA,q2.ext (Ext.new gg _)⟩
  ·exact False.elim h1
end
def XZ{α β:Type}(K:Frag)(rel:Rl α β)(W:WX)(f:Ev→Mo α):L2.St→Hp→(β→Hp→Prop)→Prop:=fun σ H Q=>∃G ι Ω ρ,Wd K G ι Ω H∧iN K G ι σ ρ∧bQ K rel W G ι σ Q (f ρ Ω)
def Mx(K:Frag)(W:WX)(g:A→MS):TG:=fun v σ H Q=>∃G ι Ω ρ a D,Wd K G ι Ω H∧iN K G ι σ ρ∧Den K G ι v a∧eZ K W G ι D (g a ρ Ω)∧D.nx=Q
theorem PC{α β:Type}{K:Frag}{rel:Rl α β}{W:WX}{f:Ev→Mo α}:fK K rel W (XZ K rel W f) f:=fun G ι Ω H σ ρ Q w r h=>⟨G,ι,Ω,ρ,w,r,h⟩
theorem Nu{K:Frag}{W:WX}{g:A→MS}:MW K W (Mx K W g) g:=fun G ι Ω H σ ρ v a D w r d h=>⟨G,ι,Ω,ρ,a,D,w,r,d,h,rfl⟩
theorem VE.zA{X:Cx}{W:WX}{e:Expr}{f:Ev→Mo A}(h:VE X W e f):PE X e (XZ X.K (Den X.K) W f):=by
 obtain⟨t,p,s⟩:=h;exact fun pins sh σ H Q I ⟨G,ι,Ω,ρ,w,r,q⟩=>p pins sh σ H Q I (s G ι Ω H σ ρ Q w r q)
theorem GU.zA{X:Cx}{W:WX}{ifs:List Expr}{f:Ev→Mo Bool}(h:GU X W ifs f):GV X ifs (XZ X.K AK W f):=by
 obtain⟨t,p,s⟩:=h;exact fun pins sh σ H Q I ⟨G,ι,Ω,ρ,w,r,q⟩=>p pins sh σ H Q I (s G ι Ω H σ ρ Q w r q)
theorem VG.zA{X:Cx}{W:WX}{tg:Expr}{g:A→MS}(h:VG X W tg g):PG X tg (Mx X.K W g):=by
 obtain⟨t,p,s⟩:=h;exact fun pins sh σ H v u Q I rv ⟨G,ι,Ω,ρ,a,D,w,r,d,q,e⟩=>p pins sh σ H v u Q I rv (e ▸ s G ι Ω H σ ρ v a D w r d q)
abbrev yE:WX:=fun _ _ _ _=>False
theorem sS{X:Cx}{W:WX}{elt tg iter:Expr}{ifs:List Expr}{scope:Scope}{pos:Pos}{fi:Ev→Mo Src}{g:A→MS}{c:Ev→Mo Bool}{e:Ev→Mo A}(cf:Bool)(ls:List Str)(js:List Nat)(hc:X.calm=true)(L:zK X scope ls js)(hi:VI X W tg iter fi)
  (hb:∀cl C s H fp,VG (fT X scope ls js cl C s H fp) yE tg g∧GU (fT X scope ls js cl C s H fp) yE ifs c∧VE (fT X scope ls js cl C s H fp) yE elt e)
  (hs:∀x,foldedSetIterable iter X.env x=pure x:=by intro _;rfl):VE X W (.ListComp elt [⟨tg,iter,ifs,0⟩] scope pos) (lK cf ls.length js fi g c e):=by
 obtain⟨t1,p1,s1⟩:=hi;exact⟨_,ak9 hc L p1 (fun cl C s H fp=>⟨(hb cl C s H fp).1.zA,(hb cl C s H fp).2.1.zA,(hb cl C s H fp).2.2.zA⟩) hs,Nr _ s1 Nu PC PC⟩
def sortI(ns:List Int):List Int:=ns.mergeSort fun a b=>decide (a≤b)
theorem sortI_perm(ns:List Int):(sortI ns).Perm ns:=List.mergeSort_perm ns _
theorem Nk(ns:List Int):(sortI ns).Pairwise (· ≤ ·):=by
 have h:=List.pairwise_mergeSort (le:=fun a b:Int=>decide (a≤b)) (fun a b c h1 h2=>by simp at h1 h2 ⊢;omega) (fun a b=>by simp;omega) ns;exact h.imp fun h=>of_decide_eq_true h
theorem ahS{ns ms:List Int}(p:ms.Perm ns)(h:ms.Pairwise (· ≤ ·)):ms=sortI ns :=
 List.Perm.eq_of_pairwise (le:=(· ≤ ·)) (fun a b _ _ h1 h2=>Int.le_antisymm h1 h2) h (Nk ns) (p.trans (sortI_perm ns).symm)
theorem Nl(ns:List Int):(sortI ns).length=ns.length:=(sortI_perm ns).length_eq
end V2
namespace M
open PySem V2
@[simp] abbrev aL:=V2.fS 0
@[simp] abbrev bJ:=V2.fS 1
@[simp] abbrev bB:=V2.fS 2
@[simp] abbrev bZ:=V2.fS 3
@[simp] abbrev fD:=V2.fS 4
@[simp] abbrev dP:=V2.fS 5
@[simp] abbrev jY:=V2.fS 6
@[simp] abbrev lV:=V2.fS 7
@[simp] abbrev tY:=V2.fS 8
@[simp] abbrev DP:=V2.fS 9
@[simp] abbrev vI:=V2.fS 10
@[simp] abbrev HU:=V2.fS 11
@[simp] abbrev DQ:=V2.fS 12
@[simp] abbrev aaU:=V2.fS 13
@[simp] abbrev ayG:=V2.fS 14
@[simp] abbrev ayF:=V2.fS 15
@[simp] abbrev ayE:=V2.fS 16
@[simp] abbrev ayD:=V2.fS 17
@[simp] abbrev ayC:=V2.fS 18
@[simp] abbrev ayB:=V2.fS 19
@[simp] abbrev bS:=V2.cI 0
@[simp] abbrev bL:=V2.cI 1
@[simp] abbrev fM:=V2.cI 2
@[simp] abbrev pQ:=V2.cI 3
@[simp] abbrev OB:=V2.cI 4
@[simp] abbrev OA:=V2.cI 5
@[simp] abbrev WB:=V2.cI 6
@[simp] abbrev DR:=V2.cI 7
@[simp] abbrev Li:=V2.cI 8
@[simp] abbrev wC9:=V2.cI 9
@[simp] abbrev zV:=V2.cI 10
@[simp] abbrev aaW:=V2.cI 11
@[simp] abbrev bX:=V2.Fs false
@[simp] abbrev aM{α:Type}(a:α)(Ω:V2.aF):Option (V2.Rs α×V2.aF):=some (.ok a,Ω)
@[simp] abbrev dR(ρ:V2.Ev)(Ω:V2.aF):Option (V2.Out×V2.Ev×V2.aF):=some (.nx,ρ,Ω)
@[simp] abbrev aA(i:Int):Option V2.A:=some (.int i)
@[simp] abbrev aE(i:Nat):Option V2.A:=some (.aD i)
@[simp] abbrev aT(i:List V2.A):Option V2.A:=some (.lst i)
noncomputable section
def Yj:MS :=
 (aV (bK (aB (fO) (aB (fX) (aB bX aL bL) (aB bX (cI 48271) (aB (fX) (cI 118) bJ))) (cI 2147483629)) (gN 2))
  (cX (aB (fO) (aB bX (aB bX (aB (fX) (aB (jF) bB (cI 977)) (cI 16807)) (aB (fX) bB (aB bX (aB (fX) bJ bJ) DR))) bJ) (cI 2147483587))))
def rG:List A→Mo A:=dW 3 Yj
def wU:MS :=
 (aV (bK (aB aW aL pQ) (gN 2))
  (aV (bK (WU (bY (aB yS bJ bS)) (aB aW (aB aW bB (aB (eO) bJ bL)) bL) bS) (gN 3))
  (aV (bK (WU (bY (aB mI bJ (aN dQ (aC bB a0)))) (aB (eO) (aB aW (aB aW bB bJ) fM) bL) (aB aW aL bS)) (gN 4))
  (cX (qL (aC bZ (aC fD a0)))))))
def rF:List A→Mo A:=dW 5 wU
def Hl:MS :=
 (cX (Lx (aB iA (aB aW bJ bS) (aB aW aL bS)) (aB nS (aB aW bJ fM) (aB bX (aB bX (aB aW aL bL) bB) bL))))
def NQ:List A→Mo A:=dW 3 Hl
def zB:MS :=
 (eV (oG (bY (aB iA fD bS)) (oG (bY (aB iA fD bZ)) (qM (bY (aN (bN 3 NQ) (aC (aB aW bB (HW bL)) (aC (aB aW aL (aB bX fD bL)) (aC bJ a0))))))))
    (hX (jZ nB bB (aC dP a0)))
    gB)
def Hr:MS :=
 (aV (bK (gL true a0) (gN 2))
  (aV (bK (aB (eO) (aN dQ (aC aL a0)) bL) (gN 3))
  (aV (kK (WV aL) (kN 2 (eR (gN 4) (eR (gN 5) lC))) zB)
  (cX (DT 2)))))
def NR:List A→Mo A:=dW 6 Hr
def Xy:MS :=
 (aV (bK (aB aW aL bS) (gN 2))
  (aV (bK (aB bX (aB aW aL bL) (aB (jF) bB bJ)) (gN 3))
  (cX (qL (aC bB (aC bZ (aC (aB bX (aB aW aL fM) bL) (aC (aN (bN 2 NR) (aC (aB aW aL pQ) (aC bZ a0))) a0))))))))
def uW:List A→Mo A:=dW 4 Xy
end
end M
namespace V2
open PySem PySem.Spec PyProof.Rows L2
def pS(kvs:List (Key×A))(k:Key):Option A:=(kvs.find? fun kv=>decide (kv.1=k)).map (·.2)
def rX(kvs:List (Key×A))(k:Key)(a:A):List (Key×A) :=
 if kvs.any fun kv=>decide (kv.1=k)then kvs.map (fun kv=>if kv.1=k then(kv.1,a)else kv)else kvs++[(k,a)]
def uF:A→Option Key
 | .int i=>some (.inl i)
 | .str x=>some (.inr x)
 | _=>none
section
variable{K:Frag}{G:Hp}{ι:List Addr}
theorem Cm{v:V}{a:A}{k:Key}(d:Den K G ι v a)(h:uF a=some k):v=kV k:=by
 cases a with
 | int i=>simp only [uF,kD]at h;subst h;simp only [Den]at d;exact d
 | str i=>simp only [uF,kD]at h;subst h;simp only [Den]at d;exact d
 | _=>simp [uF]at h
theorem WN{k:Key}:∀{ws:List (Key×V)} {kvs:List (Key×A)},ws.map (·.1)=kvs.map (·.1)→bD K G ι (ws.map (·.2)) (kvs.map (·.2))→(∀a,pS kvs k=some a→∃v,lY ws k=some v∧Den K G ι v a)∧(pS kvs k=none→lY ws k=none)
 | [],[],_,_=>⟨fun a h=>(by cases h),fun _=>rfl⟩
 | [],_::_,h,_=>by simp at h
 | _::_,[],h,_=>by simp at h
 | p::ws,q::kvs,h,d=>by
  simp only [dH,sN]at h;obtain⟨x,r,e,d1,d2⟩:=d.nM;simp only [dH,sN]at e;obtain⟨e1,e2⟩:=e;obtain⟨i1,i2⟩:=WN (k:=k) h.2 (e2 ▸ d2)
  by_cases hk:q.1=k
  ·have hp:p.1=k:=h.1.trans hk;refine⟨fun a ha=>?_,fun hn=>?_⟩
   ·simp only [pS,DA,hk,decide_true,UE,kD]at ha;exact⟨p.2,by simp [lY,hp],by rw [← ha,e1];exact d1⟩
   ·simp [pS,hk]at hn
  ·have hp:¬p.1=k:=fun z=>hk (h.1.symm.trans z);have ev:lY (p::ws) k=lY ws k:=by simp [lY,hp]
   have ea:pS (q::kvs) k=pS kvs k:=by simp [pS,hk]
   rw [ev,ea];exact⟨i1,i2⟩
theorem Ym{k:Key}{ws:List (Key×V)}{kvs:List (Key×A)}(h:ws.map (·.1)=kvs.map (·.1)):(ws.any fun kv=>decide (kv.1=k))=(kvs.any fun kv=>decide (kv.1=k)):=by
 have e1:(ws.any fun kv=>decide (kv.1=k))=(ws.map (·.1)).any fun x=>decide (x=k):=by rw [List.any_map];rfl
 have e2:(kvs.any fun kv=>decide (kv.1=k))=(kvs.map (·.1)).any fun x=>decide (x=k):=by rw [List.any_map];rfl
 rw [e1,e2,h]
theorem ajG{k:Key}{v:V}{a:A}{ws:List (Key×V)}{kvs:List (Key×A)}(h:ws.map (·.1)=kvs.map (·.1)):(putK ws k v).map (·.1)=(rX kvs k a).map (·.1):=by
 unfold putK rX;rw [Ym h];split
 ·rw [uT,uT];have e1:ws.map ((·.1) ∘ fun kv:Key×V=>if kv.1=k then(kv.1,v)else kv)=ws.map (·.1):=NG fun x _=>by simp only [Function.comp];split <;> rfl
  have e2:kvs.map ((·.1) ∘ fun kv:Key×A=>if kv.1=k then(kv.1,a)else kv)=kvs.map (·.1):=NG fun x _=>by simp only [Function.comp];split <;> rfl
  rw [e1,e2,h]
 ·rw [HA,HA,h];rfl
theorem Pb{k:Key}{v:V}{a:A}(dv:Den K G ι v a):∀{ws:List (Key×V)} {kvs:List (Key×A)},ws.map (·.1)=kvs.map (·.1)→bD K G ι (ws.map (·.2)) (kvs.map (·.2))→bD K G ι ((ws.map fun kv=>if kv.1=k then(kv.1,v)else kv).map (·.2)) ((kvs.map fun kv=>if kv.1=k then(kv.1,a)else kv).map (·.2))
 | [],[],_,_ => .nil
 | [],_::_,h,_=>by simp at h
 | _::_,[],h,_=>by simp at h
 | p::ws,q::kvs,h,d=>by
  simp only [dH,sN]at h;obtain⟨x,r,e,d1,d2⟩:=d.nM;simp only [dH,sN]at e;obtain⟨e1,e2⟩:=e;have ih:=Pb (k:=k) dv h.2 (e2 ▸ d2);simp only [dH];refine .cons ?_ ih;rw [h.1];split
  ·exact dv
  ·rw [e1];exact d1
theorem ajH{k:Key}{v:V}{a:A}{ws:List (Key×V)}{kvs:List (Key×A)}(h:ws.map (·.1)=kvs.map (·.1))(d:bD K G ι (ws.map (·.2)) (kvs.map (·.2)))(dv:Den K G ι v a):bD K G ι ((putK ws k v).map (·.2)) ((rX kvs k a).map (·.2)):=by
 unfold putK rX;rw [Ym h];split
 ·exact Pb dv h d
 ·rw [HA,HA];exact d.append (.cons dv .nil)
def oY(Ω:aF):A→Option (Nat×List (Key×A))
 | .aD k=>match Ω[k]? with
  | some (.cW kvs)=>some (k,kvs)
  | _=>none
 | _=>none
theorem GH{H:Hp}{Ω:aF}{v:V}{a:A}{k:Nat}{kvs:List (Key×A)}(w:Wd K G ι Ω H)(d:Den K G ι v a)(h:oY Ω a=some (k,kvs)):∃p ws,v = .ref p∧ι[k]? = some p∧G p=none∧H p=some (.dK ws)∧ws.map (·.1)=kvs.map (·.1)∧bD K G ι (ws.map (·.2)) (kvs.map (·.2)):=by
 cases a with
 | aD j =>
  simp only [oY]at h;split at h
  ·rename_i es e;cases h;simp only [Den]at d;obtain⟨p,rfl,hk⟩:=d;obtain⟨g,ws,h3,h4,h5⟩:=w.aD k _ p e hk;exact⟨p,ws,rfl,hk,g,h3,h4,h5⟩
  ·cases h
 | _=>simp [oY]at h
theorem Gy{Ω:aF}{k:Nat}{kvs:List (Key×A)}(h:Ω[k]? = some (.cW kvs)):oY Ω (.aD k)=some (k,kvs):=by simp [oY,h]
end
section
variable{X:Cx}{W:WX}{o i e:Expr}{pos:Pos}{fo fi fe:Ev→Mo A}
@[simp] def WW:Ev→Mo A:=fun _ Ω=>some (.ok (.aD Ω.length),Ω++[.cW []])
theorem Lr:VE X W (.Dict [] [] pos) WW:=by
 refine⟨_,alG,fun G ι Ω H σ ρ Q w r h=>?_⟩;intro p hp;refine h _ _ G (ι++[p]) (Ext.cell p) (w.cell hp ⟨w.lA hp,[],eA,rfl,.nil⟩) ?_;simp only [Den];exact⟨p,rfl,by rw [← w.len];simp⟩
@[simp] def Fq(o i:A):Mo A:=fun Ω=>match oY Ω o,uF i with
 | some (_,kvs),some k=>match pS kvs k with
  | some a=>some (.ok a,Ω)
  | none=>none
 | _,_=>none
theorem abG(hu:X.A.units+1<cLine)(ho:VE X W o fo)(hi:VE X W i fi)(hs:Iy i):VE X W (.Subscript o i pos) (aB Fq fo fi):=by
 obtain⟨t,p1,s1⟩:=ho;obtain⟨u,p2,s2⟩:=hi;refine⟨_,alI hu p1 p2 hs,fun G ι Ω H σ ρ Q w r h=>?_⟩;refine s1 G ι Ω H σ ρ _ w r (bQ.mb h fun x Ω1 v H1 G1 ι1 x1 w1 d1 h1=>?_);refine s2 G1 ι1 Ω1 H1 σ ρ _ w1 (r.ext x1) (bQ.mb h1 fun y Ω2 u H2 G2 ι2 x2 w2 d2 h2=>?_);unfold Fq at h2;split at h2
 ·rename_i k0 kvs k e1 e2;split at h2
  ·rename_i a ea;obtain⟨p,ws,rfl,hk,g,q1,q2,q3⟩:=GH w2 (d1.ext x2) e1;obtain⟨v',v1,v2⟩:=(WN q2 q3).1 a ea;rw [Cm d2 e2];exact⟨p,v',rfl,by rw [← v1];exact tX.k q1,h2 v' H2 G2 ι2 (Ext.refl _ _) w2 v2⟩
  ·exact False.elim h2
 ·exact False.elim h2
@[simp] def Vh(o i z:A):Mo A:=fun Ω=>match oY Ω o,uF i with
 | some (_,kvs),some k=>some (.ok ((pS kvs k).getD z),Ω)
 | _,_=>none
def Sk(Ω:aF)(a:A):Prop:=∃k kvs,oY Ω a=some (k,kvs)
open Classical in
@[simp] noncomputable def Mb(fo fi fe:Ev→Mo A):Ev→Mo A:=fun ρ=>mb (fo ρ) fun o Ω=>if Sk Ω o then mb (fi ρ) (fun i=>mb (fe ρ) fun z=>Vh o i z) Ω else none
theorem abF{apos:Pos}(hu:X.A.units+1<cLine)(ho:VE X W o fo)(hi:VE X W i fi)(he:VE X W e fe)(m:M2 X o "get" apos i e pos):VE X W (.Call (.Attribute o "get" apos) [i,e] [] pos) (Mb fo fi fe):=by
 obtain⟨t,p1,s1⟩:=ho;obtain⟨u,p2,s2⟩:=hi;obtain⟨u',p3,s3⟩:=he;refine⟨_,alH hu p1 p2 p3 m,fun G ι Ω H σ ρ Q w r h=>?_⟩;refine s1 G ι Ω H σ ρ _ w r (bQ.mb h fun x Ω1 v H1 G1 ι1 x1 w1 d1 h1=>?_);split at h1
 ·rename_i hd;obtain⟨k0,azH,e0⟩:=hd;obtain⟨p,ws,rfl,hk,g,q1,q2,q3⟩:=GH w1 d1 e0;refine⟨p,rfl,.inl ⟨ws,.inl q1⟩,?_⟩;refine s2 G1 ι1 Ω1 H1 σ ρ _ w1 (r.ext x1) (bQ.mb h1 fun y Ω2 u H2 G2 ι2 x2 w2 d2 h2=>?_);refine s3 G2 ι2 Ω2 H2 σ ρ _ w2 ((r.ext x1).ext x2) (bQ.mb h2 fun z Ω3 u3 H3 G3 ι3 x3 w3 d3 h3=>?_);unfold Vh at h3;split at h3
  ·rename_i k1 kvs k e1 e2;obtain⟨p',nL,tI,hk',g',r1,r2,r3⟩:=GH w3 (d1.ext (x2.trans x3)) e1;cases tI;rw [Cm (d2.ext x3) e2];refine⟨lY nL k,tX.k r1,?_⟩;obtain⟨i1,i2⟩:=WN (k:=k) r2 r3;cases ev:pS kvs k with
   | none =>
    rw [ev]at h3;rw [i2 ev];exact h3 _ H3 G3 ι3 (Ext.refl _ _) w3 d3
   | some a =>
    rw [ev]at h3;obtain⟨v',v1,v2⟩:=i1 a ev;rw [v1];exact h3 _ H3 G3 ι3 (Ext.refl _ _) w3 v2
  ·exact False.elim h3
 ·exact False.elim h1
@[simp] def Nw(o i v:A)(Ω:aF):Option aF:=match oY Ω o,uF i with
 | some (k,kvs),some key=>if kvs.length<sizeLine then some (Ω.set k (.cW (rX kvs key v)))else none
 | _,_=>none
@[simp] def ZL(fe fo fi:Ev→Mo A):MS:=fun ρ=>sM (fe ρ) ρ fun a=>sM (fo ρ) ρ fun o=>sM (fi ρ) ρ fun i Ω=>match Nw o i a Ω with
 | some Ω'=>some (.nx,ρ,Ω')
 | none=>none
theorem Ll{pos':Pos}(hu:X.A.units+1<cLine)(ho:VE X W o fo)(hi:VE X W i fi)(he:VE X W e fe)(hs:swapsWith e (some (.Subscript o i pos')) pos.line X.env=pure false:=by rfl):VS X W (.Assign [.Subscript o i pos'] e pos) (ZL fe fo fi):=by
 obtain⟨t,p1,s1⟩:=ho;obtain⟨u,p2,s2⟩:=hi;obtain⟨u',p3,s3⟩:=he;refine⟨_,aj2 hu p1 p2 p3 hs,fun G ι Ω H σ ρ D w r h=>?_⟩;refine s3 G ι Ω H σ ρ _ w r (eZ.sM h r fun z Ω1 v H1 G1 ι1 x1 w1 d1 h1=>?_);refine s1 G1 ι1 Ω1 H1 σ ρ _ w1 (r.ext x1) (eZ.sM h1 (r.ext x1) fun x Ω2 vo H2 G2 ι2 x2 w2 d2 h2=>?_);refine s2 G2 ι2 Ω2 H2 σ ρ _ w2 ((r.ext x1).ext x2) (eZ.sM h2 ((r.ext x1).ext x2) fun y Ω3 vi H3 G3 ι3 x3 w3 d3 h3=>?_);unfold Nw at h3;split at h3
 ·rename_i Ω' e';split at e'
  ·rename_i k kvs key e1 e2;split at e'
   ·rename_i hl;cases e';obtain⟨p,ws,rfl,hk,g,q1,q2,q3⟩:=GH w3 (d2.ext x3) e1;rw [Cm d3 e2];have JQ:ws.length=kvs.length:=by have:=congrArg List.length q2;simpa using this
    refine⟨p,_,rfl,DK.k q1 (by rw [JQ];exact hl),?_⟩;exact sY (w3.put (c := .cW (rX kvs key z)) hk g ⟨g,_,eA,ajG q2,ajH q2 q3 (d1.ext (x2.trans x3))⟩) (((r.ext x1).ext x2).ext x3) h3
   ·cases e'
  ·cases e'
 ·exact False.elim h3
def intKeys:List (Key×A)→Option (List Int)
 | []=>some []
 | (.inl i,_)::r=>(intKeys r).map (i :: ·)
 | _=>none
theorem Sl:∀{kvs:List (Key×A)} {ns:List Int},intKeys kvs=some ns→kvs.map (·.1)=ns.map Sum.inl
 | [],ns,h=>by simp only [intKeys,kD]at h;subst h;rfl
 | (.inl i,_)::r,ns,h=>by
  simp only [intKeys,zF]at h;obtain⟨ms,h1,rfl⟩:=h;simp [Sl h1]
 | (.inr i,_)::r,ns,h=>by simp [intKeys]at h
@[simp] def Fm(c:Bool)(as:List A):Mo A:=fun Ω=>match as with
 | [a]=>(match oY Ω a with
  | some (_,kvs)=>(match intKeys kvs with
   | some ns=>if ns.length<64 then nO c ((sortI ns).map A.int) Ω else none
   | none=>none)
  | none=>none)
 | _=>none
theorem awB(hc:X.calm=true)(c:Bool):rJ X W (.builtin "sorted") (Fm c):=by
 refine⟨_,avZ hc,?_⟩;intro G ι Ω H σ xs as Q w d h;unfold Fm at h;split at h
 ·rename_i a;split at h
  ·rename_i k kvs e;split at h
   ·rename_i ns en;split at h
    ·rename_i Uu;obtain⟨x,rfl,d1⟩:=sH d;obtain⟨p,ws,rfl,hk,g,q1,q2,q3⟩:=GH w d1 e;refine⟨p,ws,ns,rfl,q1,by rw [q2];exact Sl en,Uu,fun ms l hp hs hl=>?_⟩;rw [ahS hp hs];exact JG w hl (Gk _) h
    ·exact False.elim h
   ·exact False.elim h
  ·exact False.elim h
 ·exact False.elim h
end
section
variable{X:Cx}{W:WX}{x:Str}{e:Expr}{es:List Expr}{np iD pos:Pos}{fs:Ev→Mo (List A)}
@[simp] def vQ(x:Str)(f:Ev→Mo (List A)):MS:=fun ρ=>sM (f ρ) ρ fun as Ω=>if as.length≤sizeLine then some (.exc ⟨x,[]⟩,ρ,Ω)else none
theorem aa1{C:Addr}(T:qC X W)(hc:X.calm=true)(O:MZ X.K C)(hg:Gl X x)(hm:X.mg x=some (.ref C))(hK:nsIn X.K mainGlobals x=some (some (.ref C)))(ha:VA X W (e::es) fs)
  (gW:(x == ("__debug__" : Str))=false:=by decide) (he:starEach (e::es) X.env=(false,eval e X.env)::starEach es X.env:=by rfl) (fJ:(backTo iD (starEach (e::es) X.env)).any (·.1)=false:=by rfl) :
  VS X W (.Raise (some (.Call (.Name x np) (e::es) [] iD)) none pos) (vQ x fs):=by
 obtain⟨t,p,s⟩:=ha;refine⟨_,ajW T hc O hg hm p gW he fJ,fun G ι Ω H σ ρ D w r h=>?_⟩;refine s G ι Ω H σ ρ _ w r (eZ.sM h r fun as Ω1 vs H1 G1 ι1 x1 w1 d1 h1=>?_);split at h1
 ·rename_i hl;exact⟨by rw [d1.length];exact hl,h1 σ H1 G1 ι1 (Ext.refl _ _) w1 (r.ext x1) _ _ ⟨⟨C,hK,rfl⟩,.inl ⟨rfl,rfl⟩⟩⟩
 ·exact False.elim h1
end
structure Yp(K:Frag)(rs ns:List Str):Prop where
 xc:∀n∈ns,∀D,nsIn K mainGlobals n=some (some (.ref D))→XC K D
 sub:∀n∈rs,∀m∈ns,∀D C,nsIn K mainGlobals n=some (some (.ref D))→nsIn K mainGlobals m=some (some (.ref C))→subIn K (.ref D) (.ref C)=some (n == m||m == ("RankError" : Str))
 ve:∀n∈rs,∀D,nsIn K mainGlobals n=some (some (.ref D))→subIn K (.ref D) (.type "ValueError")=some true
 rn:∀n∈rs,n∈ns
def Kx(rs ns:List Str)(n m:Str):Option Bool:=if n∈rs∧m∈ns then some (n == m||m == ("RankError" : Str))else none
theorem Yp.own{K:Frag}{rs ns:List Str}(T:Yp K rs ns)(n m:Str)(b:Bool)(D C:Addr)(h:Kx rs ns n m=some b)(hn:nsIn K mainGlobals n=some (some (.ref D)))(hm:nsIn K mainGlobals m=some (some (.ref C))):kitOne K (.ref D) (.ref C)=some b:=by
 unfold Kx at h;split at h
 ·rename_i q;cases h;exact aoW (T.xc _ (T.rn _ q.1) _ hn) (T.xc _ q.2 _ hm) (T.sub _ q.1 _ q.2 _ _ hn hm)
 ·cases h
def zE(K:Frag)(mg:Str→Option Value)(x:Str):Prop:=∃C,MZ K C∧mg x=some (.ref C)∧nsIn K mainGlobals x=some (some (.ref C))
section
variable{X:Cx}{W:WX}{x y:Str}{e:Expr}{es:List Expr}{np iD pos azW:Pos}{fs:Ev→Mo (List A)}
theorem OC(T:qC X W)(hc:X.calm=true)(O:zE X.K X.mg x)(hg:Gl X x)(ha:VA X W (e::es) fs)
  (gW:(x == ("__debug__" : Str))=false:=by decide) (he:starEach (e::es) X.env=(false,eval e X.env)::starEach es X.env:=by rfl) (fJ:(backTo iD (starEach (e::es) X.env)).any (·.1)=false:=by rfl) :
  VS X W (.Raise (some (.Call (.Name x np) (e::es) [] iD)) none pos) (vQ x fs):=by
 obtain⟨C,h0,h1,h2⟩:=O;exact aa1 T hc h0 hg h1 h2 ha gW he fJ
end
end V2
namespace L2
open PySem PySem.Spec PyProof.Rows
theorem cH.OK{k:Nat}{A:Around}(r:cH k A):A.units+1<cLine:=by have:=r.units;omega
theorem qB.qT{X:Cx}(t:qB X):qB X.qT:=⟨t.1,t.2,t.3⟩
end L2
namespace M
open PySem V2
noncomputable section
def SJ:MS :=
 (ZL (aB bX (Mb bJ bB bS) bZ) bJ bB)
def Yd:Ev→Mo A :=
 (lK false 1 [1] (fV (aN (Fm false) (aC bJ a0))) (gN 0) qI (qL (aC aL (aC (aB Fq bJ aL) a0))))
def SK:MS :=
 (aV (bK WW (gN 1))
  (aV (kK (fV aL) (kN 2 (eR (gN 2) (eR (gN 3) lC))) SJ)
  (cX Yd)))
def HG:List A→Mo A:=dW 4 SK
def GO:MS :=
 (aV (bK (aB bX bB fD) (gN 2))
   (eV (bY (aB nS bJ bB))
    (cX bZ)
    gB))
def GP:MS :=
 (aV (eV (bY (aB mI bJ bL))
   (vQ "NoPlace" (aC (cS "places begin with 1") a0))
   gB)
  (aV (bK bS (gN 2))
  (aV (kK (fV (aN (bN 1 HG) (aC aL a0))) (kN 2 (eR (gN 3) (eR (gN 4) lC))) GO)
  (vQ "NoPlace" (aC (cS "the row ends before this place") a0)))))
def Ka:List A→Mo A:=dW 5 GP
end
end M
namespace KS
open PySem PySem.W PyProof.Rows
def go{α:Type}(lt:Nat→Nat→Bool):KasT α→α
 | .ret a=>a
 | .ask i j k=>go lt (k (lt i j))
theorem LG{α β:Type}(lt:Nat→Nat→Bool)(f:α→KasT β):∀t:KasT α,go lt (t.bind f)=go lt (f (go lt t))
 | .ret _=>rfl
 | .ask i j k=>by
  show go lt ((k (lt i j)).bind f)=_;rw [LG lt f (k (lt i j))];rfl
section
variable(r:Nat→Int)
abbrev yH:Nat→Nat→Bool:=fun i j=>decide (r i<r j)
def Ky(p:Array Nat)(i:Nat):Int:=r (p.getD i 0)
def Up(p:Array Nat)(k:Nat):Prop:=∀i j,i≤j→j<k→Ky r p i≤Ky r p j
def Dn(p:Array Nat)(k:Nat):Prop:=∀i j,i≤j→j<k→Ky r p j≤Ky r p i
variable{r}
theorem getD_eq{p q:Array Nat}{i j:Nat}(h:p[i]? = q[j]?):p.getD i 0=q.getD j 0:=by
 simp [Array.getD_eq_getD_getElem?,h]
theorem JI{p q:Array Nat}{i j:Nat}(h:Ky r p i<Ky r q j):yH r (p.getD i 0) (q.getD j 0)=true:=MB h
theorem JJ{p q:Array Nat}{i j:Nat}(h:¬Ky r p i<Ky r q j):yH r (p.getD i 0) (q.getD j 0)=false:=sI h
theorem Be{p:Array Nat}{i j:Nat}(hj:j≤p.size)(k:Nat):Ky r (kas_rev p i j) k=if i≤k∧k<j then Ky r p (i+j - 1 - k)else Ky r p k:=by
 have h:=getElem?_mirror_all (i:=i) hj k;unfold Ky kas_rev;split
 ·rename_i c;rw [if_pos c]at h;rw [getD_eq h]
 ·rename_i c;rw [if_neg c]at h;rw [getD_eq h]
theorem Bc{p:Array Nat}{i j:Nat}(hj:j≤p.size)(e:∀k,i≤k→k<j→Ky r p k=Ky r p (j - 1))(k:Nat):Ky r (kas_rev p i j) k=Ky r p k:=by
 rw [Be hj];split
 ·rename_i c;rw [e _ (by omega) (by omega),e k c.1 c.2]
 ·rfl
theorem AI(p:Array Nat)(i j:Nat):(kas_rev p i j).size=p.size:=mirror_size _ _ _ _
theorem QF(p:Array Nat)(i j:Nat):(kas_rev p i j).Perm p:=mirror_perm _ _ _ _
theorem abN{p:Array Nat}{n:Nat}(h1:1≤n)(h:Up r p n)(hn:Ky r p (n - 1)≤Ky r p n):Up r p (n+1):=by
 intro i j BQ hj
 by_cases e:j=n
 ·subst e
  by_cases e2:i=j
  ·subst e2;exact jR _
  ·exact DE (h i (j - 1) (by omega) (by omega)) hn
 ·exact h i j BQ (by omega)
theorem RY{p:Array Nat}{n:Nat}(h1:1≤n)(h:Dn r p n)(hn:Ky r p n≤Ky r p (n - 1)):Dn r p (n+1):=by
 intro i j BQ hj
 by_cases e:j=n
 ·subst e
  by_cases e2:i=j
  ·subst e2;exact jR _
  ·exact DE hn (h i (j - 1) (by omega) (by omega))
 ·exact h i j BQ (by omega)
theorem asc{p:Array Nat}:∀(f n:Nat),1≤n→Up r p n→∃m,go (yH r) (kas_asc p f n)=m∧n≤m∧m≤n+f∧Up r p m∧(m<n+f→Ky r p m<Ky r p (m - 1))
 | 0,n,_,h=>⟨n,rfl,rC _,rC _,h,fun z=>by omega⟩
 | f+1,n,h1,h=>by
  by_cases c:Ky r p n<Ky r p (n - 1)
  ·refine⟨n,?_,rC _,by omega,h,fun _=>c⟩;have c':=JI c;simp only [kas_asc,go,c',fW]
  ·obtain⟨m,e,a,b,u,l⟩:=asc f (n+1) (by omega) (abN h1 h (by omega));refine⟨m,?_,by omega,by omega,u,fun z=>l (by omega)⟩;rw [← e];have c':=JJ c;simp only [kas_asc,go,c',sO,jN]
theorem desc:∀(f:Nat) (p:Array Nat) (n q:Nat),q+1≤n→n+f≤p.size→Dn r p n→(∀k,n - (q+1)≤k→k<n→Ky r p k=Ky r p (n - 1)) →
  ∃p' m q',go (yH r) (kas_desc f p n q)=(p',m,q')∧n≤m∧m≤n+f∧q'+1≤m∧p'.size=p.size∧p'.Perm p∧(∀k,Ky r p' k=Ky r p k)∧Dn r p' m∧(∀k,m - (q'+1)≤k→k<m→Ky r p' k=Ky r p' (m - 1))
 | 0,p,n,q,hq,_,hd,he=>⟨p,n,q,rfl,rC _,rC _,hq,rfl,.refl _,fun _=>rfl,hd,he⟩
 | f+1,p,n,q,hq,hz,hd,he=>by
  by_cases c:Ky r p n<Ky r p (n - 1)
  ·have c':=JI c;have Uc:Dn r p (n+1):=RY (by omega) hd (by omega)
   by_cases q0:q>0
   ·have ek:∀k,Ky r (kas_rev p (n - (q+1)) n) k=Ky r p k:=Bc (by omega) he;have hd2:Dn r (kas_rev p (n - (q+1)) n) (n+1):=fun i j a b=>by rw [ek,ek];exact Uc i j a b
    obtain⟨p',m,q',e,a1,a2,a3,a4,a5,a6,a7,a8⟩:=desc f (kas_rev p (n - (q+1)) n) (n+1) 0 (by omega) (by rw [AI];omega) hd2 (fun k k1 k2=>by
     have:k=n+1 - 1:=by omega
     rw [this])
    refine⟨p',m,q',?_,by omega,by omega,a3,by rw [a4,AI],a5.trans (QF _ _ _),fun k=>by rw [a6,ek],a7,a8⟩;rw [← e];simp only [kas_desc,go,c',fW,q0]
   ·obtain⟨p',m,q',e,a1,a2,a3,a4,a5,a6,a7,a8⟩:=desc f p (n+1) 0 (by omega) (by omega) Uc (fun k k1 k2=>by
     have:k=n+1 - 1:=by omega
     rw [this])
    refine⟨p',m,q',?_,by omega,by omega,a3,a4,a5,a6,a7,a8⟩;rw [← e];simp only [kas_desc,go,c',fW,q0,jN]
  ·have c':=JJ c
   by_cases d:Ky r p (n - 1)<Ky r p n
   ·have d':=JI d;refine⟨p,n,q,?_,rC _,by omega,hq,rfl,.refl _,fun _=>rfl,hd,he⟩;simp only [kas_desc,go,c',d',sO,fW,jN]
   ·have d':=JJ d;have eq:Ky r p n=Ky r p (n - 1):=by omega
    obtain⟨p',m,q',e,a1,a2,a3,a4,a5,a6,a7,a8⟩:=desc f p (n+1) (q+1) (by omega) (by omega) (RY (by omega) hd (by omega)) (fun k k1 k2=>by
     rw [show n+1 - 1=n by omega]
     by_cases z:k=n
     ·rw [z]
     ·rw [he k (by omega) (by omega),eq])
    refine⟨p',m,q',?_,by omega,by omega,a3,a4,a5,a6,a7,a8⟩;rw [← e];simp only [kas_desc,go,c',d',sO,jN]
theorem abO{p:Array Nat}{n:Nat}(hn:n≤p.size)(h:Dn r p n):Up r (kas_rev p 0 n) n:=by
 intro i j BQ hj;rw [Be hn,Be hn,if_pos ⟨by omega,by omega⟩,if_pos ⟨by omega,hj⟩];exact h _ _ (by omega) (by omega)
theorem tail3{p:Array Nat}{n nrem:Nat}(h1:1≤n)(hn:n≤nrem)(hz:nrem≤p.size)(h:Dn r p n):∃m p',go (yH r) (kas_tail3 n nrem p)=(m,p')∧1≤m∧m≤nrem∧p'.size=p.size∧p'.Perm p∧Up r p' m:=by
 obtain⟨m,e,a,b,u,_⟩:=asc (r:=r) (nrem - n) n h1 (abO (by omega) h);refine⟨m,kas_rev p 0 n,?_,by omega,by omega,AI _ _ _,QF _ _ _,u⟩;unfold kas_tail3;rw [LG,e];rfl
theorem descPart{p:Array Nat}{n nrem:Nat}(h1:1≤n)(hn:n+1≤nrem)(hz:nrem≤p.size)(h:Dn r p (n+1)):∃m p',go (yH r) (kas_descPart n nrem p)=(m,p')∧1≤m∧m≤nrem∧p'.size=p.size∧p'.Perm p∧Up r p' m:=by
 obtain⟨p1,m1,q1,e,a1,a2,a3,a4,a5,a6,a7,a8⟩:=desc (r:=r) (nrem - (n+1)) p (n+1) 0 (by omega) (by omega) h (fun k k1 k2=>by
  have:k=n+1 - 1:=by omega
  rw [this])
 by_cases q0:q1>0
 ·have ek:∀k,Ky r (kas_rev p1 (m1 - (q1+1)) m1) k=Ky r p1 k:=Bc (by omega) a8;obtain⟨m,p',e2,b1,b2,b3,b4,b5⟩:=tail3 (p:=kas_rev p1 (m1 - (q1+1)) m1) (n:=m1) (nrem:=nrem) (r:=r) (by omega) (by omega) (by rw [AI];omega) (fun i j x y=>by rw [ek,ek];exact a7 i j x y);refine⟨m,p',?_,b1,b2,by rw [b3,AI,a4],b4.trans ((QF _ _ _).trans a5),b5⟩;unfold kas_descPart;rw [LG,e];simp only [q0,fW];exact e2
 ·obtain⟨m,p',e2,b1,b2,b3,b4,b5⟩:=tail3 (p:=p1) (n:=m1) (nrem:=nrem) (r:=r) (by omega) (by omega) (by omega) a7;refine⟨m,p',?_,b1,b2,by rw [b3,a4],b4.trans a5,b5⟩;unfold kas_descPart;rw [LG,e];simp only [q0,jN];exact e2
theorem count{p:Array Nat}{nrem:Nat}(h1:1≤nrem)(hz:nrem≤p.size):∃m p',go (yH r) (kas_count nrem p)=(m,p')∧1≤m∧m≤nrem∧p'.size=p.size∧p'.Perm p∧Up r p' m:=by
 obtain⟨n,e,a,b,u,l⟩:=asc (r:=r) (p:=p) (nrem - 1) 1 cJ (fun i j x y=>by
  have:i=j:=by omega
  rw [this];exact jR _)
 unfold kas_count;rw [LG,e]
 by_cases c1:n=nrem
 ·subst c1;refine⟨n,p,by simp [go],a,rC _,rfl,.refl _,u⟩
 ·have c1':(n == nrem)=false:=by simpa using c1
  have lt:=l (by omega);simp only [c1',sO,jN]
  by_cases c2:n>1
  ·simp only [c2,fW,go]
   by_cases c3:Ky r p 0<Ky r p (n - 1)
   ·have Hd:=JI c3;simp only [Hd,fW,go];exact⟨n,p,rfl,a,by omega,rfl,.refl _,u⟩
   ·have Hd:=JJ c3;simp only [Hd,sO,jN];have eqs:∀k,k<n→Ky r p k=Ky r p (n - 1):=fun k hk=>by
     have x:=u 0 k (by omega) hk;have y:=u k (n - 1) (by omega) (by omega);omega
    have ek:∀k,Ky r (kas_rev p 0 n) k=Ky r p k:=Bc (by omega) fun k _ hk=>eqs k hk;obtain⟨m,p',e2,b1,b2,b3,b4,b5⟩:=descPart (r:=r) (p:=kas_rev p 0 n) (n:=n) (nrem:=nrem) (by omega) (by omega) (by rw [AI];omega) (RY (by omega) (fun i j x y=>by rw [ek,ek,eqs i (by omega),eqs j y];exact jR _) (by rw [ek,ek];omega));exact⟨m,p',e2,b1,b2,by rw [b3,AI],b4.trans (QF _ _ _),b5⟩
  ·simp only [c2,jN];have n1:n=1:=by omega
   subst n1;exact descPart cJ (by omega) hz (RY cJ (fun i j x y=>by
    have:i=j:=by omega
    rw [this];exact jR _) (by omega))
theorem place{p:Array Nat}{k:Nat}(hu:Up r p k):∀(f l t:Nat),l≤t→t≤k→t - l≤f→(∀i,i<l→Ky r p i≤Ky r p k)→(∀i,t≤i→i<k→Ky r p k<Ky r p i) →
  ∃m,go (yH r) (kas_place p k f l t)=m∧m≤k∧(∀i,i<m→Ky r p i≤Ky r p k)∧(∀i,m≤i→i<k→Ky r p k<Ky r p i)
 | 0,l,t,h1,h2,h3,h4,h5=>⟨l,rfl,by omega,h4,fun i a b=>h5 i (by omega) b⟩
 | f+1,l,t,h1,h2,h3,h4,h5=>by
  by_cases c:l≥t
  ·exact⟨l,by simp only [kas_place,c,fW,go],by omega,h4,fun i a b=>h5 i (by omega) b⟩
  ·by_cases d:Ky r p k<Ky r p ((l+t)/2)
   ·have d':=JI d;obtain⟨m,e,a1,a2,a3⟩:=place hu f l ((l+t)/2) (by omega) (by omega) (by omega) h4 (fun i a b=>by
     have:=hu ((l+t)/2) i a b;omega)
    refine⟨m,?_,a1,a2,a3⟩;rw [← e];simp only [kas_place,c,jN,go,d',fW]
   ·have d':=JJ d;obtain⟨m,e,a1,a2,a3⟩:=place hu f ((l+t)/2+1) t (by omega) h2 (by omega) (fun i a=>by
     have:=hu i ((l+t)/2) (by omega) (by omega);omega) h5
    refine⟨m,?_,a1,a2,a3⟩;rw [← e];simp only [kas_place,c,jN,go,d',sO]
end
def reach{α:Type}(lt:Nat→Nat→Bool)(N:Nat):KasT α→Prop
 | .ret _=>True
 | .ask i j k=>i<N∧j<N∧reach lt N (k (lt i j))
def Bd(N:Nat)(p:Array Nat):Prop:=0<N∧∀x∈p,x<N
section
variable{lt:Nat→Nat→Bool}{N:Nat}
theorem Bd.get{p:Array Nat}(h:Bd N p)(i:Nat):p.getD i 0<N:=by
 rw [Array.getD_eq_getD_getElem?];cases e:p[i]? with
 | none=>exact h.1
 | some x=>exact h.2 x (Array.mem_of_getElem? e)
end
def aoI:List Int→List Int→Bool
 | [],[]=>false
 | [],_::_=>true
 | _::_,[]=>false
 | a::as,b::bs=>if a=b then aoI as bs else decide (a<b)
def TupAt(h:Heap)(v:Value)(ns:List Int):Prop:=∃a o xs n,v = .ref a∧h.get? a=some o∧o.cls = .type "tuple"∧o.data = .seq xs n∧IntsAre xs.toList ns
def tQ(h:Heap):List Value→List (List Int)→Prop
 | [],[]=>True
 | v::vs,t::ts=>TupAt h v t∧tQ h vs ts
 | _,_=>False
theorem tQ.len{h:Heap}:∀{vs:List Value} {ts:List (List Int)},tQ h vs ts→vs.length=ts.length
 | [],[],_=>rfl
 | _::_,_::_,t=>by simp [tQ.len t.2]
 | [],_::_,t=>t.elim
 | _::_,[],t=>t.elim
theorem tQ.get{h:Heap}:∀{vs:List Value} {ts:List (List Int)},tQ h vs ts→∀i,i<ts.length→TupAt h (vs.getD i .none) (ts.getD i [])
 | [],[],_,i,hi=>by simp at hi
 | _::_,_::_,t,0,_=>t.1
 | _::_,_::_,t,i+1,hi=>by simpa using tQ.get t.2 i (by simpa using hi)
 | [],_::_,t,_,_=>t.elim
 | _::_,[],t,_,_=>t.elim
theorem tQ.keeps{h h':Heap}(k:∀b o,h.get? b=some o→o.cls = .type "tuple"→h'.get? b=some o):∀{vs:List Value} {ts:List (List Int)},tQ h vs ts→tQ h' vs ts
 | [],[],_=>trivial
 | _::_,_::_,⟨⟨a,o,xs,n,h1,h2,h3,h4⟩,t⟩=>⟨⟨a,o,xs,n,h1,k _ _ h2 h3,h3,h4⟩,tQ.keeps k t⟩
 | [],_::_,t=>t.elim
 | _::_,[],t=>t.elim
end KS
namespace V2
open PySem PySem.Spec PyProof.Rows L2 KS
def UC(H:Hp):List V→List (List Int)→Prop
 | [],[]=>True
 | y::ys,t::ts=>(∃b,y = .ref b∧H b=some (.tup (t.map V.int)))∧UC H ys ts
 | _,_=>False
section
variable{X:Cx}{W:WX}
theorem UC.len{H:Hp}:∀{ys:List V} {ts:List (List Int)},UC H ys ts→ys.length=ts.length
 | [],[],_=>rfl
 | _::_,_::_,t=>by simp [UC.len t.2]
 | [],_::_,t=>t.elim
 | _::_,[],t=>t.elim
@[simp] def LM(as:List A):Mo A:=match as with
 | [.int i]=>ret (.int i)
 | [.bl b]=>ret (.int (if b then 1 else 0))
 | _=>stuck
theorem awD:rJ X W (.type "int") LM:=by
 refine⟨_,av6,?_⟩;intro G ι Ω H σ xs as Q w d h;unfold LM at h;split at h
 ·rename_i i;obtain⟨x,rfl,d1⟩:=sH d;simp only [Den]at d1;subst d1;exact .inl ⟨i,rfl,gQ w (by simp only [Den]) h⟩
 ·rename_i b;obtain⟨x,rfl,d1⟩:=sH d;simp only [Den]at d1;subst d1;exact .inr ⟨b,rfl,gQ w (by simp only [Den]) h⟩
 ·exact False.elim h
end
end V2
namespace L2
open PySem PySem.Spec PyProof.Rows
section
variable{X:Cx}
theorem ajT{elt tg iter:Expr}{ifs:List Expr}{scope:Scope}{pos IG pos':Pos}{ls:List Str}{js:List Nat}{wi:TI}{g:TG}{tc:TT}{te:TE}{k:Nat}{x:Str}(hN:X.N.Nodup)(pK:X.N[k]? = some x)(wJ:Loc X.env.scope x)(hc:X.calm=true)(L:zK X scope ls js)(hi:PI X tg iter wi)
  (hb:∀cl C s H fp,PG (fT X scope ls js cl C s H fp) tg g∧GV (fT X scope ls js cl C s H fp) ifs tc∧PE (fT X scope ls js cl C s H fp) elt te)
  (Cv:swapsWith (.ListComp elt [⟨tg,iter,ifs,0⟩] scope pos) (some (.Name x pos')) IG.line X.env=pure true)
  (hs:∀x,foldedSetIterable iter X.env x=pure x) (hf:X.fn x=true∨X.env.scope.names.lookup x=some .local):PS X (.Assign [.Name x pos'] (.ListComp elt [⟨tg,iter,ifs,0⟩] scope pos) IG) (OU (XY ls js wi g tc te) (Fn k)):=by
 intro pins s σ H D I h;obtain⟨cl,gG,kY,kM⟩:=Gp (scope:=scope) (env:=X.env) fun y hy hf=>I.ok.has y.1 (L.free y hy hf);rw [exec_Assign_Name_used _ _ _ _ Cv];refine aZ (wpAny_standAt (aZ ?_));show wpAny _ X.A (do let _ ← comprehension (.ListComp elt [⟨tg,iter,ifs,0⟩] scope pos) scope X.env _ (newList []) false (eval iter X.env) (some (assign (.Name x pos') X.env))) _ _ s;refine aZ (kJ (wpAny_comprehension_free (use:=some (assign (.Name x pos') X.env)) (Q:=fun _ s'=>SP X pins D .next s') rfl hs gG L.kind L.names (bG (hi pins s σ H _ I h) fun v s1 h1=>bG h1 fun QU s2 h2=>?_)) (fun _ s' hq=>dM (dM hq)) fun _ _ e=>e);obtain⟨it,fp,tn,J,H1,e,I2,T,mE,f2,h2⟩:=h2;subst e;refine vG (Ld L.cell (by intro y hy;simp at hy) (fun h₁ BN BK=>?_) L.kind);dsimp only at BN BK ⊢;generalize BZ:s2.heap.push { cls := .type "list",dict:=none,data := .seq ([]:List Value).toArray }=G2 at BN BK ⊢;have RD:G2.objs.size=s2.heap.objs.size+1:=by rw [← BZ,tV]
 have LF:H1 s2.heap.objs.size=none:=I2.aH.fresh cJ;have Eh:H1 G2.objs.size=none:=I2.aH.fresh (by omega);have Ef:s2.heap.objs.size≠G2.objs.size:=by omega
 have Ee:G2.get? s2.heap.objs.size=some { cls := .type "list",dict:=none,data := .seq ([]:List Value).toArray }:=by rw [← BZ];exact kH _ rfl
 have BF:∀b o,s2.heap.get? b=some o→G2.get? b=some o:=fun b o e=>by rw [← BZ];exact eL _ e
 have I3:Inv X pins σ (upd H1 s2.heap.objs.size (.lst [])) { s2 with heap:=G2,toks:=s2.toks } :=
  I2.laid (t':=s2.toks) BF cJ (show gY X.prog X.w _ G2 _ (.lst [])from⟨by simp,[],0,.nil,Ee⟩)
 have BG:∀b o,G2.get? b=some o→h₁.get? b=some o:=fun b o e=>(BK.2 b (iE (dA e))).trans (eL _ e);have I4:Inv X pins σ (upd H1 s2.heap.objs.size (.lst [])) { s2 with heap:=h₁,toks:=s2.toks+0 }:=I3.kept (h':=h₁) (t':=s2.toks+0) BG;generalize hT:(H1,(⟨tg,iter,ifs,0⟩:Comprehension))=Cn;clear hT Cn;have CH:∀b∈fp,b<s2.heap.objs.size:=fun b hb=>by
  obtain⟨o,e,_⟩:=T.obj 0 _ mE b hb;exact dA e
 have fpD:s2.heap.objs.size∉fp:=fun z=>Nat.lt_irrefl _ (CH _ z);have LQ:∀b∈fp,b≠G2.objs.size:=fun b hb=>iE (by rw [RD];exact Ja (CH b hb));have Ab:(fT X scope ls js cl G2.objs.size { s2 with heap:=G2 } (upd H1 s2.heap.objs.size (.lst [])) fp).Ok:=by
  refine Rz L I3 kY kM cJ I3.bs (qE I3.ok.pN I3.sz) I3.stack I3.OW (fun b hb=>⟨LQ b hb,(f2 b hb).2.2.2.2.1⟩) (fun b o e hb=>?_) (fun b hb z=>?_)
  ·rcases(f2 b hb).2.2.2.1 with q | q
   ·exact I2.ok.uB b o e q
   ·exact absurd (kE (dA (I2.ok.bs b o e).1) q) (Nat.lt_irrefl _)
  ·rcases dN.mp (I3.xV b z)with q | q
   ·exact(f2 b hb).2.1 q
   ·exact(f2 b hb).2.2.1 q
 have IC:Inv (fT X scope ls js cl G2.objs.size { s2 with heap:=G2 } (upd H1 s2.heap.objs.size (.lst [])) fp) [] (uE ls js σ) (upd H1 s2.heap.objs.size (.lst [])) { s2 with heap:=h₁,toks:=s2.toks+0 }:=by
  refine⟨Ab,rfl,I4.bare,Un.kept BG,⟨_,BN,fun i x v e1 e2 e3=>?_⟩,fun x c e=>I4.cell x c (kY x c e),?_,fun x c e=>I4.mJ x c (kY x c e),fun p hp=>?_,I4.aH,?_⟩
  ·obtain⟨k,j,pK,hj,hσ⟩:=Ry e2;obtain⟨y,hy,BH⟩:=L.ME j (nH hj);have Ct:x=y:=by
    have qZ:(ls++js.map (fun j=>X.N.getD j Str.empty))[i]? = some x:=e1;rw [pK,sL (Nat.le_add_right ..),Nat.add_sub_cancel_left,kG,hj]at qZ;have LY:X.N.getD j Str.empty=x:=jJ qZ;rw [← LY,List.getD_eq_getElem?_getD,hy];rfl
   subst Ct;have KH:X.env.kindOf x=some .cell∨X.env.kindOf x=some .free:=by
    have hm:(x,NameKind.free)∈scope.names:=by
     have q:=IV (env:=X.env) L.cell (EU (env:=X.env) BH);exact q
    exact L.free _ hm rfl
   obtain⟨m,hn,hl⟩:=I4.loc;obtain⟨u,r,l⟩:=hl j x v hy hσ (KH.elim (fun z => .inr (.inl z)) fun z => .inr (.inr z));refine⟨u,r,.inr ⟨EU (env:=X.env) BH,?_⟩⟩
   rcases l with⟨kl,_⟩ | ⟨_,c,oR,z⟩
   ·rcases KH with q | q
    ·rw [q]at kl;cases kl
    ·rw [q]at kl;cases kl
   ·have hm:(x,NameKind.free)∈scope.names:=IV (env:=X.env) L.cell (EU (env:=X.env) BH);obtain⟨c',KY⟩:=kM _ hm rfl;have:=kY _ _ KY;rw [oR]at this;cases this;exact⟨c,KY,z⟩
  ·show upd H1 s2.heap.objs.size (.lst []) G2.objs.size=none;rw [bP (cQ Ef)];exact Eh
  ·have tI:p∈X.pn:=by simpa [fT]using hp
   obtain⟨e,n,ne,nf,d⟩:=I4.pin p (xB _ tI);obtain⟨e3,_⟩:=I3.pin p (xB _ tI);refine⟨e,n,?_,fun z=>?_,d⟩
   ·exact iE (dA e3)
   ·rcases dN.mp (I3.xV p.1 z)with q | q
    ·exact ne q
    ·exact nf q
  ·simp [uE,fT]
 obtain⟨KZ,Dw,Dx⟩:=hb cl G2.objs.size { s2 with heap:=G2 } (upd H1 s2.heap.objs.size (.lst [])) fp;obtain⟨W,⟨m0,w0⟩,turn⟩:=h2 s2.heap.objs.size LF;have IF:tn 0 h₁:=T.keep _ _ _ mE fun b hb o e=>BG b o (BF b o e);have dU:∀{H':Hp},(∀b∈fp,H' b=none)→∀b∈fp,mP (fT X scope ls js cl G2.objs.size { s2 with heap:=G2 } (upd H1 s2.heap.objs.size (.lst [])) fp) [] H' b:=fun hn b hb=>by
  refine⟨hn b hb,LQ b hb,fun z=>?_,.inl hb,fun x c e=>(f2 b hb).2.2.2.2.1 x c (kY x c e),fun p hp=>?_⟩
  ·rcases dN.mp (I3.xV b z)with q | q
   ·exact(f2 b hb).2.1 q
   ·exact(f2 b hb).2.2.1 q
  ·have tI:p∈X.pn:=by simpa [fT]using hp
   exact(f2 b hb).2.2.2.2.2 p (xB _ tI)
 have Fv:∀b∈fp,(upd H1 s2.heap.objs.size (.lst [])) b=none:=fun b hb=>by
  rw [bP (show b≠s2.heap.objs.size from iE (CH b hb))];exact(f2 b hb).1
 have loop:∀s4:Shared,s4 = { s2 with heap:=h₁,toks:=s2.toks+0 } →
   codeAny (model X.prog X.w) X.A (.compLoop (.ListComp elt [⟨tg,iter,ifs,0⟩] scope pos) 0 (.ref it) (.ref s2.heap.objs.size) (compEnvC scope cl G2.objs.size X.env))
    (compPost (model X.prog X.w) X.A X.xe (some (assign (.Name x pos') X.env)) (fun _ s'=>SP X pins D .next s') (.ref s2.heap.objs.size) G2.objs.size) s4:=by
  rintro s4 rfl;refine Ww (fun n s'=>∃i σ' H',Inv (fT X scope ls js cl G2.objs.size { s2 with heap:=G2 } (upd H1 s2.heap.objs.size (.lst [])) fp) [] σ' H' s'∧tn i s'.heap∧(∀b∈fp,H' b=none)∧W i n σ' H') ?_ m0 ⟨0,_,_,IC,IF,Fv,w0⟩;rintro n s5 ⟨i,σ5,H5,I5,vO,CG,w5⟩
  rcases turn i n σ5 H5 w5 with⟨stop,qn⟩ | ⟨go,N,hN,step⟩
  ·refine bG (T.done (fT X scope ls js cl G2.objs.size { s2 with heap:=G2 } (upd H1 s2.heap.objs.size (.lst [])) fp) rfl rfl rfl hc i [] s5 σ5 H5 _ I5 (dU CG) vO stop) fun r s6 ⟨hr,I6⟩=>?_;subst hr;obtain⟨m6,De,_⟩:=I6.loc;have tJ:H5 G2.objs.size=none:=I6.free;have XA:Un (gJ X.stack) fp (upd H1 s2.heap.objs.size (.lst [])) H5 G2 s6.heap:=I6.base;have XB:Un (gJ X.stack) fp H1 (upd H1 s2.heap.objs.size (.lst [])) s2.heap G2:=Un.laid BF cJ LF;have un:=XB.trans XA;have Ic:Inv X pins σ H5 s6:=I2.GI (s':=s6) (ch:=fp) I6.os un I6.aH I6.bare fun b hb=>⟨(f2 b hb).2.2.2.1,(f2 b hb).2.1,(f2 b hb).2.2.2.2.1,(f2 b hb).2.2.2.2.2⟩
   have KN:mP X pins H5 G2.objs.size:=I3.pX cJ tJ;have arD:∀b∈[G2.objs.size],mP X pins H5 b:=fun b hb=>by rw [tT.mp hb];exact KN
   obtain⟨oC,esC,epC,eC,dC,kC,fC⟩:=id De;have Ip:=Ic.pinned (fp:=[G2.objs.size]) arD fun b hb=>⟨oC,by rw [tT.mp hb];exact eC,fun v z=>by rw [dC]at z;cases z⟩
   refine bG (Pw (pos:=pos') hN pK wJ hf _ s6 σ H5 (.ref s2.heap.objs.size) _ _ Ip rfl qn) fun _ s8 ⟨σ8,H8,I8,q8⟩=>?_;obtain⟨p8,n8,_⟩:=I8.pin (G2.objs.size,oC) (mO _ (mO _ (AX (List.mem_singleton_self _) eC)));refine⟨m6,⟨oC,esC,epC,p8,dC,kC,fC⟩,fun h' tG=>⟨σ8,H8,?_,q8⟩⟩;have ne1:∀b,b∉[G2.objs.size]→b≠G2.objs.size:=fun b hb z=>hb (by rw [z];exact List.mem_singleton_self _);have XD:Un (gJ X.stack) [G2.objs.size] H8 H8 s8.heap h':=⟨fun b o e n a x=>(tG.2 b (ne1 b x)).trans e,fun b o e n a x=>⟨o.slots,(tG.2 b (ne1 b x)).trans e⟩,fun _ _ _ n _=>n,fun b o e x=>⟨o,(tG.2 b (ne1 b x)).trans e⟩,fun _ _ q=>q,fun _ _ _ q=>q,fun _ ps q=>⟨#[],by rw [q];simp⟩⟩;have FH:eY X.prog X.w H8 h':=fun b o e=>by
    refine(I8.aH b o e).mD (fun c u oR q=>(tG.2 c ?_).trans q) (fun _ q=>q) fun _ _ q=>q;have Tt:H8 G2.objs.size=none:=n8;rintro rfl
    rcases oR with z | z
    ·subst z;rw [Tt]at e;cases e
    ·rw [Tt]at z;cases z
   exact I8.DY.GI (s':={ s8 with heap:=h' }) (ch:=[G2.objs.size]) rfl XD FH I8.bare fun b hb=>by
    rw [tT.mp hb];exact⟨KN.2.2.2.1,KN.2.1,KN.2.2.2.2.1,KN.2.2.2.2.2⟩
  ·refine bG (T.item (fT X scope ls js cl G2.objs.size { s2 with heap:=G2 } (upd H1 s2.heap.objs.size (.lst [])) fp) rfl rfl rfl hc i [] s5 σ5 H5 _ I5 (dU CG) vO go) fun r s6 ⟨u,hr,h6⟩=>?_;subst hr;refine bG h6 fun _ s7 ⟨x,H7,I7,r7,y7,AE,Fu⟩=>?_;have Jx:=I7.pinned (dU Fu) (T.obj _ _ AE);refine bG (KZ _ s7 σ5 H7 x u _ Jx r7 (step x H7 y7)) fun _ s8 ⟨σ8,H8,I8,q8⟩=>?_;refine bG (Dw _ s8 σ8 H8 _ I8 q8) fun ok s9 ⟨H9,I9,q9⟩=>?_;have again:∀{σa:St} {Ha:Hp} {sa:Shared},Inv (fT X scope ls js cl G2.objs.size { s2 with heap:=G2 } (upd H1 s2.heap.objs.size (.lst [])) fp) ([]++EO fp s7.heap) σa Ha sa→N σa Ha →
     ∃m,m<n∧∃i σ' H',Inv (fT X scope ls js cl G2.objs.size { s2 with heap:=G2 } (upd H1 s2.heap.objs.size (.lst [])) fp) [] σ' H' sa∧tn i sa.heap∧(∀b∈fp,H' b=none)∧W i m σ' H':=fun{σa Ha sa} Ia na=>by
    obtain⟨m',hm,wa⟩:=hN σa Ha na;refine⟨m',hm,i+1,σa,Ha,Ia.DY,T.keep _ _ _ AE fun b hb o e=>(Ia.pin (b,o) (mO _ (mO _ (AX hb e)))).1,fun b hb=>?_,wa⟩;obtain⟨o,e,d⟩:=T.obj _ _ AE b hb;exact(Ia.pin (b,o) (mO _ (mO _ (AX hb e)))).2.1
   cases ok with
   | false=>exact again I9 q9
   | true =>
    refine bG (Dx _ s9 σ8 H9 _ I9 q9) fun y ZM ⟨z,H10,NM,ZT,ys,hD,iT,nn⟩=>?_;obtain⟨zz,aQ,k,r,hl,e⟩:=NM.yI hD;refine call_meets F.slot_list_append ⟨_,e,rfl⟩ F.entry_list_append (aaC _ _) (PySem.list_append s2.heap.objs.size aQ.toArray k y (by rw [iM];omega)) ⟨e,?_⟩;refine again (NM.JK (its':=aQ++[y]) (t':=ZM.toks) hD e ?_ (r.append (.cons ZT .nil)) ?_) nn
    ·simp
    ·simp;omega
 exact codeAny_compStart_list (loop _ rfl) (T.self _ 0 _ _ _ IF (loop _ rfl))
end
end L2
namespace V2
open PySem PySem.Spec PyProof.Rows L2
theorem aa0{X:Cx}{W:WX}{elt tg iter:Expr}{ifs:List Expr}{scope:Scope}{pos IG pos':Pos}{fi:Ev→Mo Src}{g:A→MS}{c:Ev→Mo Bool}{e:Ev→Mo A}{i:Nat}{x:Str}(cf:Bool)(ls:List Str)(js:List Nat)(hN:X.N.Nodup)(pK:X.N[i]? = some x)(wJ:Loc X.env.scope x)(hc:X.calm=true)(L:zK X scope ls js)(hi:VI X W tg iter fi)
  (hb:∀cl C s H fp,VG (fT X scope ls js cl C s H fp) yE tg g∧GU (fT X scope ls js cl C s H fp) yE ifs c∧VE (fT X scope ls js cl C s H fp) yE elt e)
  (Cv:swapsWith (.ListComp elt [⟨tg,iter,ifs,0⟩] scope pos) (some (.Name x pos')) IG.line X.env=pure true:=by rfl)
  (hs:∀x,foldedSetIterable iter X.env x=pure x:=by intro _;rfl) (hf:X.fn x=true∨X.env.scope.names.lookup x=some .local:=by first | exact .inl rfl | exact .inr rfl | assumption) :
  VS X W (.Assign [.Name x pos'] (.ListComp elt [⟨tg,iter,ifs,0⟩] scope pos) IG) (bK (lK cf ls.length js fi g c e) (gN i)):=by
 obtain⟨t1,p1,s1⟩:=hi;exact⟨_,ajT hN pK wJ hc L p1 (fun cl C s H fp=>⟨(hb cl C s H fp).1.zA,(hb cl C s H fp).2.1.zA,(hb cl C s H fp).2.2.zA⟩) Cv hs hf,YG (Nr _ s1 Nu PC PC) fun _ _ _ _ _ _ _ _ _ w r d h=>sY w (r.set i d) h⟩
end V2
namespace L2
open PySem PySem.Spec PyProof.Rows
def Iw(ts:List Addr)(H:Hp):Prop:=∀b,H b=none∨(∃o xs,H b=some (.dU o (.lst xs)))∨(b∈ts∧H b=some (.iQ #[]))
def vC(h:Heap)(mg:Str→Option Value):Prop:=∃bm o,mg "__builtins__" = some (.ref bm)∧bm≠builtinsNs∧h.get? bm=some o∧o.cls = .type "module"∧o.dict=some builtinsNs∧o.data = .plain
theorem aoO{P:Program}{w:World}{K:Frag}{mg mb:Str→Option Value}{CX:pA}{k:Nat}{fa a:Addr}{fd:FuncData}{x:Str}{sp:Sp}{s₁:Shared}{vs:List Value}{ns:List Int}{ts:List Addr}
  (KX:K.In s₁.heap) (wK:s₁.heap.Ns mainGlobals mg) (hb:s₁.heap.Ns builtinsNs mb) (hbb:∀x:Str,x ≠ "__name__"→mb x=bootBuiltins x) (aqV:s₁.heap.NoLimit) (hg:s₁.gens = #[])
  (hT:∀P∈ts,s₁.heap.get? P=some (tabObj #[])) (LC:noTabs K=true) (Ed:∀P∈ts,isCodeTable s₁.heap P)
  (ha:s₁.heap.get? a=some { cls := .type "list",data := .seq vs.toArray }) (hi:IntsAre vs ns) (hl:ns.length≤sizeLine) (hr:cH k callerA)
  (hBl:vC s₁.heap mg) (F:∀base:Heap,K.In base→base.Ns mainGlobals mg→vC base mg→iG P w K mg base CX k fa fd [x] sp) (BX:∀(s:Shared) (u:Value),BindsTo s fd ⟨[u],[]⟩ [(x,u)])
  (gF:∀H:Hp,Iw ts H→(∀P∈ts,H P=some (.iQ #[]))→dG K H a (ns.map V.int)→sp [.ref a] H (fun v _=>v = .bl true) fun _ _ _=>False)
  (Eg:∀H e s',CX [] H s₁ (fun _ _ _=>False) e s'→False) :
  codeAny (model P w) callerA (.call (.ref fa) ⟨[.ref a],[]⟩) (fun r s'=>r = .ok (.ret (.bool true))∧OldK s₁.heap s'.heap∧s'.os=s₁.os∧AllBare s'.gens) s₁:=by
 have rv:=WM hi;have aoJ:=hi.length;have hKT:∀b∈ts,K.lookup b=none:=fun b mH=>by
  cases q:K.lookup b with
  | none=>rfl
  | some o =>
   have e:=KX b o q;rw [hT b mH]at e;cases e;exact absurd (show false=true from UQ.mp LC (b,_) (PySem.W.mem_of_lookupK q)) Kt
 have Uk:a∉ts:=fun z=>by
  have e:=hT a z;rw [ha]at e;cases e
 have core:∀H:Hp,Iw ts H→(∀P∈ts,H P=some (.iQ #[]))→dG K H a (ns.map V.int)→eY P w H s₁.heap→(∀b,H b≠none→b=a∨b∈ts)→(H a≠none→K.lookup a=none) →
   codeAny (model P w) callerA (.call (.ref fa) ⟨[.ref a],[]⟩) (fun r s'=>r = .ok (.ret (.bool true))∧OldK s₁.heap s'.heap∧s'.os=s₁.os∧AllBare s'.gens) s₁:=by
  intro H hO LB hS aH hA hK;have Hh:∀{b:Addr} {o:Obj},s₁.heap.get? b=some o→H b=none→(uJ s₁.heap H).get? b=some o:=fun e n=>aq6 e n;have vW:∀{b:Addr} {o:Obj} {es:Array DictEntry} {ep:Nat},s₁.heap.get? b=some o→o.data = .dict es ep→H b=none:=fun{b o es ep} e d=>by
   cases q:H b with
   | none=>rfl
   | some u =>
    rcases hA b (by rw [q];simp)with e' | e'
    ·subst e';rw [ha]at e;cases e;have d':Data.seq vs.toArray _=Data.dict es ep:=d;cases d'
    ·rw [hT b e']at e;cases e;have d':Data.fields #[]=Data.dict es ep:=d;cases d'
  have QK:∀{b:Addr} {m:Str→Option Value},s₁.heap.Ns b m→(uJ s₁.heap H).Ns b m:=fun{b m} ⟨o,es,ep,e,d,r⟩=>⟨o,es,ep,Hh e (vW e d),d,r⟩
  have Us:K.In (uJ s₁.heap H):=fun b o e=>Hh (KX b o e) (by
   cases q:H b with
   | none=>rfl
   | some u =>
    rcases hA b (by rw [q];simp)with e' | e'
    ·subst e';rw [hK (by rw [q];simp)]at e;cases e
    ·rw [hKT b e']at e;cases e)
  have hM:Mod K mg (uJ s₁.heap H):=⟨Us,QK wK,⟨mb,QK hb,hbb⟩,let ⟨mc,h1,h2⟩:=aqV; ⟨mc,QK h1,h2⟩⟩;have e0:vA P w K mg (uJ s₁.heap H) callerA [] s₁ H:=⟨rfl,hM,fun b o e=>amO e,Nat.le_of_eq (aq5 _ _),trivial,fun b hb=>absurd (show b∈([]:List Addr)from hb) (by simp),aH,.of_eq hg⟩;have hBb:vC (uJ s₁.heap H) mg:=by
   obtain⟨bm,o,b1,b2,b3,b4,b5,b6⟩:=hBl;refine⟨bm,o,b1,b2,Hh b3 ?_,b4,b5,b6⟩;cases q:H bm with
   | none=>rfl
   | some u =>
    rcases hA bm (by rw [q];simp)with e' | e'
    ·subst e';rw [ha]at b3;cases b3;exact absurd (show Value.type "list" = Value.type "module" from b4) (by decide)
    ·rw [hT bm e']at b3;cases b3;cases b4
  refine yX ((F _ Us (QK wK) hBb).run callerA [] s₁ H ⟨[.ref a],[]⟩ [.ref a] [.ref a] _ _ hr e0 (BX s₁ (.ref a)) (.cons rfl .nil) (gF H hO LB hS)) fun r s' h=>?_;cases r with
  | error e=>exact(Eg H e s' h).elim
  | ok fl =>
   cases fl with
   | next=>exact False.elim h
   | brk=>exact False.elim h
   | cont=>exact False.elim h
   | ret u =>
    obtain⟨v,H',os,bare,un,FH,r',q⟩:=h;have q':v = .bl true:=q;subst q';obtain rfl:u=Value.bool true:=r';have key:∀b o,s₁.heap.get? b=some o→s'.heap.get? b=some o∨(b∈ts∧∃more,s'.heap.get? b=some { o with data := .fields (#[]++more) }):=fun b o e=>by
     cases q:H b with
     | none=>exact .inl (un.keep b o e q (by intro z;exact absurd (show b∈([]:List Addr)from z) (by simp)) (by simp))
     | some u =>
      rcases hO b with z | ⟨ob,xs,z⟩ | ⟨FR,z⟩
      ·rw [q]at z;cases z
      ·have z2:=un.lD b ob _ z;obtain⟨e1,_⟩:=aH b _ z;obtain⟨e2,_⟩:=FH b _ z2;rw [e]at e1;cases e1;exact .inl e2
      ·obtain⟨more,z2⟩:=un.mB b _ z;have e2:=FH b _ z2;have e3:s'.heap.get? b=some { cls := .none,data := .fields (#[]++more) }:=e2;have e4:=hT b FR;rw [e]at e4;cases e4;exact .inr ⟨FR,more,e3⟩
    refine⟨rfl,⟨fun b o e=>?_,fun b o e=>?_⟩,os,bare⟩
    ·rcases key b o e with z | ⟨FR,more,z⟩
     ·exact .inl z
     ·have e4:=hT b FR;rw [e]at e4;cases e4;exact .inr (.inl ⟨Ed b FR,rfl,#[],more,rfl,z⟩)
    ·rcases key b o e with z | ⟨FR,more,z⟩
     ·exact⟨_,z⟩
     ·exact⟨_,z⟩
 have tk:∀b∈ts,gY P w (fun b=>if b=a then some (.dU { cls := .type "list",data := .seq vs.toArray } (.lst (ns.map V.int)))else if b∈ts then some (.iQ #[])else none) s₁.heap b (.iQ #[]):=fun b mH=>hT b mH;cases hk:K.lookup a with
 | some o =>
  have e:=KX a o hk;rw [ha]at e;cases e;refine core (fun b=>if b∈ts then some (.iQ #[])else none) (fun b=>?_) (fun P hP=>if_pos hP) (.inr ⟨_,vs.toArray,_,hk,rfl,rfl,rfl,by rw [iM,aoJ];exact hl,by simpa using rv⟩) (fun b u z=>?_) (fun b z=>?_) fun z=>?_
  ·by_cases hb:b∈ts
   ·exact .inr (.inr ⟨hb,if_pos hb⟩)
   ·exact .inl (if_neg hb)
  ·by_cases hb:b∈ts
   ·have z':=(if_pos hb).symm.trans z;cases z';exact hT b hb
   ·have z':=(if_neg hb).symm.trans z;cases z'
  ·by_cases hb:b∈ts
   ·exact .inr hb
   ·exact absurd (if_neg hb) z
  ·exact absurd (if_neg Uk) z
 | none =>
  refine core (fun b=>if b=a then some (.dU { cls := .type "list",data := .seq vs.toArray } (.lst (ns.map V.int)))else if b∈ts then some (.iQ #[])else none) (fun b=>?_) (fun P hP=>?_) (.inl (.inr ⟨{ cls := .type "list",data := .seq vs.toArray },if_pos rfl⟩)) (fun b u z=>?_) (fun b z=>?_) fun _=>hk
  ·by_cases hb:b=a
   ·exact .inr (.inl ⟨_,_,if_pos hb⟩)
   ·by_cases kZ:b∈ts
    ·exact .inr (.inr ⟨kZ,(if_neg hb).trans (if_pos kZ)⟩)
    ·exact .inl ((if_neg hb).trans (if_neg kZ))
  ·have eW:P≠a:=fun z=>Uk (z ▸ hP);exact(if_neg eW).trans (if_pos hP)
  ·by_cases hb:b=a
   ·have z':=(if_pos hb).symm.trans z;cases z';subst hb;exact⟨ha,by rw [kQ];exact hl,vs,_,rv,ha⟩
   ·by_cases kZ:b∈ts
    ·have z':=((if_neg hb).trans (if_pos kZ)).symm.trans z;cases z';exact hT b kZ
    ·have z':=((if_neg hb).trans (if_neg kZ)).symm.trans z;cases z'
  ·by_cases hb:b=a
   ·exact .inl hb
   ·by_cases kZ:b∈ts
    ·exact .inr kZ
    ·exact absurd ((if_neg hb).trans (if_neg kZ)) z
theorem aaT{l:OpenLaw}{n k:Nat}{q:Program}{loose:List Str}{XP:(Str→Option Value)→Heap→Prop}{YP:World→Heap→Prop}{d:DefRec}{K:Params→Frag}{CX:World→pA}{sp:World→Sp}{x:Str}{ts:List Addr}
  (hn:l.most=some n) (wL:n≤sizeLine) (KQ:d.params.defaults=[]) (hr:cH k callerA)
  (hY:∀(w:World) (h:Heap),YP w h→(K w.params).In h∧∀P∈ts,h.get? P=some (tabObj #[]))
  (LC:∀w:World,noTabs (K w.params)=true)
  (F:∀(w:World) (mg:Str→Option Value) (fa:Addr) (h:Heap),(K w.params).In h→h.Ns mainGlobals mg→mg d.name=some (.ref fa) →
   ∃fd:FuncData,(∀(s:Shared) (u:Value),BindsTo s fd ⟨[u],[]⟩ [(x,u)])∧(∀P∈ts,∃c,codeHdIn (K w.params) c P=true) ∧
    ∀base:Heap,(K w.params).In base→base.Ns mainGlobals mg→vC base mg→iG l.prog w (K w.params) mg base (CX w) k fa fd [x] (sp w))
  (gF:∀(w:World) (H:Hp) (a:Addr) (ns:List Int),ns.length≤n→Iw ts H→(∀P∈ts,H P=some (.iQ #[]))→dG (K w.params) H a (ns.map V.int)→sp w [.ref a] H (fun v _=>v = .bl true) fun _ _ _=>False)
  (Eg:∀(w:World) (H:Hp) (s:Shared) (e:Value) (s':Shared),CX w [] H s (fun _ _ _=>False) e s'→False) :
  PySem.W.WalkO q loose XP YP l.row.toRowW d [] (fun f vs=>PySem.call f vs):=by
 refine Att.awO hn KQ fun w s₀ s₁ mg mb fa o pm cd doc a vs ns G Y ho hd fN JZ Dc hints hlen hg=>?_;obtain⟨KX,hT⟩:=hY w _ Y;obtain⟨fd,hb,Ed,hF⟩:=F w mg fa _ KX G.T.g JZ;refine aoO KX G.T.g G.T.b G.T.builtins G.T.nolimit hg hT (LC w) (fun P hP=>?_) Dc hints (qE hlen wL) hr (let ⟨bm,ob,b1,b2,b3,b4,b5,b6⟩:=G.T.bmain; ⟨bm,ob,b1,b2,b3,b4,b5,b6⟩) hF hb (fun H hO LB hS=>gF w H a ns hlen hO LB hS) fun H e s'=>Eg w H s₁ e s';obtain⟨c,hc⟩:=Ed P hP;exact((PySem.W.codeHd_of_K KX hc).tab (hT P hP)).isCodeTable
structure uU(h:Heap)(H:Hp)(f:Addr)(qual:Str)(params:Arguments)(body:Expr)(scope:Scope)(cV:List (Str×Int)):Prop where
 ex:∃(cl:List (Str×Addr)) (pm fZ:Value) (c':Addr) (oc:Obj) (vs:Array Value) (t:Tok),
  H f=some (.dU (kla_obj "<lambda>" qual params body scope cl pm c' fZ) (.own 0))∧H c'=some (.dU oc (.own 0))∧oc.data = .fields vs∧vs[1]? = some (.str qual t) ∧
  (∀x y c,cl.lookup x=some c→cl.lookup y=some c→x=y)∧(∀y∈scope.names,y.2 = .free→∃c,cl.lookup y.1=some c) ∧
  (∀x c,cl.lookup x=some c→(∃v,h.IsCell c v)∧H c=none)∧∀p∈cV,∃c t,cl.lookup p.1=some c∧h.IsCell c (some (.int p.2 t))
theorem uU.mD{h h':Heap}{H H':Hp}{f:Addr}{qual:Str}{params:Arguments}{body:Expr}{scope:Scope}{cV:List (Str×Int)}{fs:List Addr}(L:uU h H f qual params body scope cV)(u:Un fs [] H H' h h'):uU h' H' f qual params body scope cV:=by
 obtain⟨cl,pm,fZ,c',oc,vs,t,h1,h2,h3,h4,h5,h6,h7,h8⟩:=L.ex;have cell:∀{x c v},cl.lookup x=some c→h.IsCell c v→h'.IsCell c v:=fun{x c v} e ⟨o,ho,hd⟩=>by
  obtain⟨sl,q⟩:=u.any ho (h7 x c e).2 (by simp);exact⟨_,q,hd⟩
 refine⟨cl,pm,fZ,c',oc,vs,t,u.lD _ _ _ h1,u.lD _ _ _ h2,h3,h4,h5,h6,fun x c e=>?_,fun p hp=>?_⟩
 ·obtain⟨⟨v,ic⟩,n⟩:=h7 x c e;obtain⟨o,ho,_⟩:=id ic;exact⟨⟨v,cell e ic⟩,u.free _ _ ho n (by simp)⟩
 ·obtain⟨c,t',e,ic⟩:=h8 p hp;exact⟨c,t',e,cell e ic⟩
def yV(P:Program)(w:World)(K:Frag)(mg:Str→Option Value)(base:Heap)(N:List Str)(qual:Str)(scope:Scope)(f:Addr)(cd:Value)(cl:List (Str×Addr))(A:Around)(outer:List Env)(s:Shared)(H:Hp):Cx where
 prog:=P
 w:=w
 K:=K
 mg:=mg
 base:=base
 A:=A.deeper (envX qual scope s.heap.objs.size f cd cl)
 N:=N
 s₀:=s
 H₀:=H
 env:=envX qual scope s.heap.objs.size f cd cl
 outer:=outer
 stack:=envX qual scope s.heap.objs.size f cd cl::outer
 ex:=[]
 calm:=true
 fn:=fun _=>false
 pn:=[]
 xe:=fun _ _=>False
structure HE(scope:Scope)(y:Str)(cs:List Str):Prop where
 kind:scope.kind = .function
 co:scope.isCoroutine=false
 gen:scope.isGenerator=false
 Qq:∀x∈scope.names,x.2 ≠ .cell
 par:scope.names.lookup y=some .local
 ME:∀x∈cs,scope.names.lookup x=some .free
section
variable{P:Program}{w:World}{K:Frag}{mg:Str→Option Value}{base:Heap}{A:Around}{outer:List Env}{s:Shared}{H:Hp}
theorem aoR{f:Addr}{qual:Str}{params:Arguments}{body:Expr}{scope:Scope}{cV:List (Str×Int)}{y:Str}{u:Value}{v:V}{Q:VK}{E:XK}{k:Nat}
  (hr:cH (k+1) A) (e0:vA P w K mg base A outer s H) (L:uU s.heap H f qual params body scope cV) (S:HE scope y (cV.map (·.1)))
  (BX:∀cl pm c' fZ,bindArgs (kla_fn "<lambda>" qual params body scope cl pm (.ref c') fZ) ⟨[u],[]⟩=pure [(y,u)]) (rv:RelV v u)
  (hb:∀cd cl,∃te,PE (yV P w K mg base (y::cV.map (·.1)) qual scope f cd cl A outer s H) body te∧te (some v::cV.map fun p=>some (.int p.2)) H Q) :
  codeAny (model P w) A (.call (.ref f) ⟨[u],[]⟩) (CR nZ outer P w H s Q E) s:=by
 obtain⟨cl,pm,fZ,c',oc,vs,t,h1,h2,h3,h4,h5,h6,h7,h8⟩:=L.ex;have of:s.heap.get? f=some (kla_obj "<lambda>" qual params body scope cl pm c' fZ):=(e0.aH f _ h1).1;have occ:s.heap.get? c'=some oc:=(e0.aH c' _ h2).1;have lim:s.heap.NoLimit:=e0.mod.nolimit.keeps fun b o e=>(e0.bs b o e).1;refine PySem.W.kla_callFunE (by have:=hr.dp;omega) of rfl S.co S.gen rfl ⟨c',oc,vs,t,rfl,occ,h3,h4⟩ ?_;rw [BX];refine dM (Ld S.Qq (fun x hx=>by rw [tT.mp hx];exact S.par) (fun h₁ wK tG=>?_) S.kind);have hk:∀b o,s.heap.get? b=some o→h₁.get? b=some o:=fun b o e=>tG.extBut b o (iE (dA e)) (eL _ e);refine⟨lim.keeps hk,?_⟩;show codeAny _ _ (.expr body (envX qual scope s.heap.objs.size f (.ref c') cl)) _ _;obtain⟨te,pe,hq⟩:=hb (.ref c') cl;have vW:∀b:Addr,b∉(yV P w K mg base (y::cV.map (·.1)) qual scope f (.ref c') cl A outer s H).ex:=fun b z=>absurd (show b∈([]:List Addr)from z) (by simp);have I:Inv (yV P w K mg base (y::cV.map (·.1)) qual scope f (.ref c') cl A outer s H) [] (some v::cV.map fun p=>some (.int p.2)) H { s with heap:=h₁,toks:=s.toks+1 }:=by
  refine⟨⟨e0.mod,S.kind,rfl,rfl,rC _,h5,fun x hx=>?_,fun x c z=>(by cases z),fun _=>hr.hd,Around.frames_deeper e0.frames,.inr ⟨rfl,rfl⟩,fun b z=>absurd z (vW b),e0.bs,e0.pN,fun b _ _=>vW b,fun b z=>absurd z (vW b),e0.nT,e0.sG⟩,
   rfl,e0.bare,Un.kept hk,⟨_,wK,fun i x v' e1 e2 e3=>?_⟩,fun x c e=>?_,e0.aH.fresh cJ,fun x c e=>(h7 x c e).2,fun p hp=>absurd (show p∈([]:List (Addr×Obj))from hp) (by simp),e0.aH.kept hk,?_⟩
  ·have hx:scope.names.lookup x=some .cell∨scope.names.lookup x=some .free:=hx
   rcases hx with hx | hx
   ·exact absurd rfl (S.Qq _ (PySem.mem_of_lookup hx))
   ·exact h6 _ (PySem.mem_of_lookup hx) rfl
  ·cases i with
   | zero =>
    have qZ:y=x:=by simpa [yV]using e1
    have Gh:v=v':=by simpa using e2
    subst qZ Gh;exact⟨u,rv,.inl ⟨S.par,by simp⟩⟩
   | succ i =>
    have qZ:(cV.map (·.1))[i]? = some x:=by simpa [yV]using e1
    rw [kG]at qZ;simp only [Zs,kG]at e2;cases q:cV[i]? with
    | none=>rw [q]at qZ;cases qZ
    | some p =>
     rw [q]at qZ e2;have LY:p.1=x:=jJ qZ;have Gh:V.int p.2=v':=jJ (jJ e2);subst LY Gh;have hp:p∈cV:=nH q;obtain⟨c,t',ec,ic⟩:=h8 p hp;exact⟨.int p.2 t',⟨t',rfl⟩,.inr ⟨.inr (S.ME _ (Jk hp)),c,ec,ic.keeps hk⟩⟩
  ·obtain⟨⟨v',ic⟩,_⟩:=h7 x c e;exact⟨v',ic.keeps hk⟩
  ·simp [yV]
 refine PySem.W.kla_codeExpr (kJ (pe [] _ _ H Q I hq) (fun v' s' h'=>?_) fun e s' h'=>h'.elim);obtain⟨x,H',J,rv',q⟩:=h';exact⟨x,H',J.os,J.bare,J.base,J.aH,rv',q⟩
end
end L2
namespace V2
open PySem PySem.Spec PyProof.Rows L2
@[simp] def rZ(m:Mo A):Mo A:=fun Ω=>match m Ω with
 | some (.exc _,_)=>none
 | r=>r
@[simp] def qW(fb:Ev→Mo A)(ns:List Int):A→Mo A:=fun a=>rZ (fb (some a::ns.map fun n=>some (.int n)))
open Classical in
@[simp] noncomputable def WR(i:Nat)(lf:Addr)(g:A→Mo A)(fa:Ev→Mo A):Ev→Mo A:=fun ρ=>match (ρ[i]?).join with
 | some (.adr q)=>if q=lf then mb (fa ρ) g else stuck
 | _=>stuck
def Zv(P:Program)(w:World)(K:Frag)(mg:Str→Option Value)(base:Heap)(qual:Str)(body:Expr)(scope:Scope)(y:Str)(cs:List Str)(fb:Ev→Mo A):Prop :=
 ∀(f:Addr) (cd:Value) (cl:List (Str×Addr)) (A:Around) (outer:List Env) (s:Shared) (H:Hp),cH 0 (A.deeper (envX qual scope s.heap.objs.size f cd cl)) →
  VE (yV P w K mg base (y::cs) qual scope f cd cl A outer s H) yE body fb
section
variable{X:Cx}{W:WX}{e:Expr}{fa:Ev→Mo A}{p pos:Pos}
theorem abA{i:Nat}{z:Str}{lf:Addr}{qual:Str}{params:Arguments}{body:Expr}{scope:Scope}{cV:List (Str×Int)}{y:Str}{fb:Ev→Mo A}
  (hex:X.ex=[]) (L0:uU X.s₀.heap X.H₀ lf qual params body scope cV) (S:HE scope y (cV.map (·.1))) (hr:cH 1 X.A)
  (BX:∀(u:Value) cl pm c' fZ,bindArgs (kla_fn "<lambda>" qual params body scope cl pm (.ref c') fZ) ⟨[u],[]⟩=pure [(y,u)])
  (hV:Zv X.prog X.w X.K X.mg X.base qual body scope y (cV.map (·.1)) fb)
  (hN:X.N[i]? = some z) (hv:MU X.env.scope z) (he:VE X W e fa) (hd:(z == ("__debug__" : Str))=false:=by decide) (fN:(z == ("__classdict__" : Str))=false:=by decide)
  (oQ:starEach [e] X.env=[(false,eval e X.env)]:=by rfl) :
  VE X W (.Call (.Name z p) [e] [] pos) (WR i lf (qW fb (cV.map (·.2))) fa):=by
 obtain⟨t,p1,s1⟩:=he;refine⟨fun σ H Q=>σ[i]? = some (some (.ref lf))∧t σ H fun v H1=>∀(f:Addr) (cd:Value) (cl:List (Str×Addr)) (A:Around) (outer:List Env) (s:Shared),cH 0 (A.deeper (envX qual scope s.heap.objs.size f cd cl)) →
   ∃te,PE (yV X.prog X.w X.K X.mg X.base (y::cV.map (·.1)) qual scope f cd cl A outer s H1) body te∧te (some v::cV.map fun p=>some (.int p.2)) H1 Q,?_,?_⟩
 ·intro pins s σ H Q I ⟨hσ,ht⟩;refine vH (bG (Aa hN hv hd fN pins s σ H (fun v H1=>v = .ref lf∧H1=H) I ⟨_,hσ,rfl,rfl⟩) fun fv s0 ⟨v0,H0,I0,r0,e0,e1⟩=>?_);subst e0 e1;cases r0;have fnAt:∀{pins:List (Addr×Obj)} {σ:L2.St} {H:Hp} {s:Shared},Inv X pins σ H s→uU s.heap H lf qual params body scope cV∧PySem.W.FnAt lf s.heap:=fun{pins σ H s} J=>by
   have u:=J.base;rw [hex]at u;have La:=L0.mD u;obtain⟨cl,pm,fZ,c',oc,vs,t,h1,_⟩:=La.ex;exact⟨La,⟨_,_,_,_,(J.aH _ _ h1).1⟩⟩
  refine PySem.W.callWith_F (fnAt I0).2 ?_ oQ rfl;rw [oQ];refine Ks (bG (p1 pins s0 σ H0 _ I0 ht) fun u s1 ⟨v,H1,I1,r1,q1⟩=>?_);refine Calls.spliced_nil ⟨(fnAt I1).2,?_⟩;refine xM (yX (aoR (E:=fun _ _ _=>False) (k:=0) hr I1.GC (fnAt I1).1 S (BX u) r1 fun cd cl=>q1 lf cd cl X.A X.stack s1 (hr.deeper _)) fun r s' hq=>?_);cases r with
  | error ev=>exact False.elim hq
  | ok fl =>
   cases fl with
   | ret u=>exact I1.after hq
   | next=>exact False.elim hq
   | brk=>exact False.elim hq
   | cont=>exact False.elim hq
 ·intro G ι Ω H σ ρ Q w r h;simp only [WR]at h;cases q:(ρ[i]?).join with
  | none=>rw [q]at h;exact False.elim h
  | some d =>
   rw [q]at h;cases d with
   | adr q0 =>
    simp only at h
    by_cases hq:q0=lf
    ·rw [if_pos hq]at h;subst hq;obtain⟨v,hv1,Ss⟩:=r.2 i _ (join_some q);simp only [Den]at Ss;subst Ss;refine⟨hv1,s1 G ι Ω H σ ρ _ w r (bQ.mb h fun a Ω1 v H1 G1 ι1 x1 w1 d1 h1=>?_)⟩;intro f cd cl A outer s hrA;obtain⟨te,pe,sm⟩:=hV f cd cl A outer s H1 hrA;refine⟨te,pe,sm G1 ι1 Ω1 H1 _ (some a::(cV.map (·.2)).map fun n=>some (.int n)) Q w1 ?_ ?_⟩
     ·refine⟨by simp,fun j d hj=>?_⟩;cases j with
      | zero=>simp at hj;subst hj;exact⟨v,rfl,d1⟩
      | succ j =>
       simp only [Zs,kG]at hj ⊢;cases qc:cV[j]? with
       | none=>rw [qc]at hj;cases hj
       | some pp =>
        rw [qc]at hj;have:V2.A.int pp.2=d:=jJ (jJ hj);subst this;exact⟨.int pp.2,rfl,by simp only [Den]⟩
     ·have h2:bQ X.K (Den X.K) W G1 ι1 σ Q (rZ (fb (some a::(cV.map (·.2)).map fun n=>some (.int n))) Ω1):=h1
      revert h2
      simp only [rZ];generalize fb (some a::(cV.map (·.2)).map fun n=>some (.int n)) Ω1=r2;intro h2
      match r2,h2 with
      | some (.ok b,Ω'),h2=>exact h2
      | some (.exc x,Ω'),h2=>exact False.elim h2
      | none,h2=>exact h2
    ·rw [if_neg hq]at h;exact False.elim h
   | _=>exact False.elim h
end
end V2
namespace L2
open PySem PySem.Spec PyProof.Rows
def Kq(X:Cx)(scope:Scope)(cl:List (Str×Addr)):Prop:=(∀x c,cl.lookup x=some c→X.env.cells.lookup x=some c)∧∀y∈scope.names,y.2 = .free→∃c,cl.lookup y.1=some c
abbrev BD(qual:Str)(params:Arguments)(body:Expr)(scope:Scope)(cl:List (Str×Addr))(pm:Value)(c':Addr)(fZ:Value):HO := .dU (kla_obj "<lambda>" qual params body scope cl pm c' fZ) (.own 0)
def XX(X:Cx)(P:Addr)(qual:Str)(params:Arguments)(body:Expr)(scope:Scope)(dF:Pos):TE:=fun _ H Q=>∃ps,H P=some (.iQ ps)∧TriplesOk ps.toList ∧
 ((codeAmong dF ps.toList=none∧∀cl,Kq X scope cl→∀f c' oc vs t pm fZ,H f=none→H c'=none→c'≠f→oc.data = .fields vs→vs[1]? = some (.str qual t) →
   Q (.ref f) (upd (upd (upd H c' (.dU oc (.own 0))) P (.iQ (ps ++ #[rawInt dF.line,rawInt dF.col,.ref c']))) f (BD qual params body scope cl pm c' fZ))) ∨
(∃c',codeAmong dF ps.toList=some (.ref c')∧∀cl,Kq X scope cl→∀f pm fZ,H f=none→Q (.ref f) (upd H f (BD qual params body scope cl pm c' fZ))))
section
variable{X:Cx}
theorem alA{params:Arguments}{body:Expr}{scope:Scope}{dF:Pos}{c P:Addr}{qual:Str}(FQ:X.env.code = .ref c)(hq:X.env.qual ++ "<lambda>" = qual)(LD:codeHdIn X.K c P=true)(hB:vC X.base X.mg)
  (KU:defaultsOf params X.env=([],[])) (tJ:∀y∈scope.names,y.2 = .free→X.env.kindOf y.1=some .cell∨X.env.kindOf y.1=some .free):PE X (.Lambda params body scope dF) (XX X P qual params body scope dF):=by
 intro pins s σ H Q I h;obtain⟨ps,hP,ht,h⟩:=h;obtain⟨cl,gG,kY,kM⟩:=Gp (scope:=scope) (env:=X.env) fun y hy hf=>I.ok.has y.1 (tJ y hy hf);have Uq:s.heap.get? P=some (tabObj ps):=I.aH P _ hP;have C:PySem.W.CodeHd s.heap c P:=PySem.W.codeHd_of_K I.gU LD;have hg:s.heap.Ns mainGlobals X.mg:=I.mod.glob.keeps I.bk;obtain⟨og,es,ep,eg,dg,rg⟩:=id I.mod.glob;have hgP:mainGlobals≠P:=fun q=>by
  have:=(I.bs _ _ eg).2;rw [q,hP]at this;cases this
 obtain⟨bm,ob,b1,b2,b3,b4,b5,b6⟩:=hB;have hbP:bm≠P:=fun q=>by
  have:=(I.bs _ _ b3).2;rw [q,hP]at this;cases this
 have KZ:bm≠mainGlobals:=fun q=>by
  rw [q,eg]at b3;cases b3;rw [dg]at b6;cases b6
 have hb:s.heap.BuiltinsAt X.mg P:=⟨bm,ob,b1,b2,KZ,hbP,I.bk _ _ b3,b4,b5,b6⟩;refine PySem.W.kla_eval KU ?_;rw [hq]
 rcases h with⟨hn,h⟩ | ⟨c',hn,h⟩
 ·refine PySem.W.kla_makeFunction (mg:=X.mg) gG I.ok.glob hg FQ C Uq ht hn hgP hb fun c' fZ h' tk hx Dl iT aqC Sw=>?_;obtain⟨c₂,oc,vs,t,e2,JU,hd,hv⟩:=aqC;cases e2;have nR:H c'=none:=I.aH.fresh Dl;have Dv:c'≠P:=fun q=>by rw [q,hP]at nR;cases nR
  have ne:∀b o,s.heap.get? b=some o→b≠c':=fun b o e z=>by
   have:=dA e;rw [z]at this;exact absurd (kE this Dl) (Nat.lt_irrefl _)
  have at':∀b,b≠P→b≠c'→upd (upd H c' (.dU oc (.own 0))) P (.iQ (ps ++ #[rawInt dF.line,rawInt dF.col,.ref c'])) b=H b:=fun b h1 h2=>by rw [bP h1,bP h2]
  have un:Un (gJ X.stack) [] H (upd (upd H c' (.dU oc (.own 0))) P (.iQ (ps ++ #[rawInt dF.line,rawInt dF.col,.ref c']))) s.heap h':=by
   refine⟨fun b o e n _ _=>hx b o (fun z=>by rw [z,hP]at n;cases n) e,fun b o e n _ _=>⟨o.slots,hx b o (fun z=>by rw [z,hP]at n;cases n) e⟩,fun b o e n _=>?_,fun b o e _=>?_,fun b xs e=>?_,fun b o u e=>?_,fun b qs e=>?_⟩
   ·rw [at' b (fun z=>by rw [z,hP]at n;cases n) (ne b o e)];exact n
   ·by_cases mH:b=P
    ·subst mH;exact⟨_,Sw⟩
    ·exact⟨o,hx b o mH e⟩
   ·rw [at' b (fun z=>by rw [z,hP]at e;cases e) (gT e nR)];exact e
   ·rw [at' b (fun z=>by rw [z,hP]at e;cases e) (gT e nR)];exact e
   ·by_cases mH:b=P
    ·subst mH;rw [hP]at e;cases e;exact⟨_,eA⟩
    ·exact⟨#[],by rw [at' b mH (gT e nR),e];simp⟩
  have aH:eY X.prog X.w (upd (upd H c' (.dU oc (.own 0))) P (.iQ (ps ++ #[rawInt dF.line,rawInt dF.col,.ref c']))) h':=fun b u e=>by
   by_cases mH:b=P
   ·subst mH;rw [eA]at e;cases e;exact Sw
   ·rw [bP mH]at e
    by_cases kZ:b=c'
    ·subst kZ;rw [eA]at e;cases e;exact⟨JU,oc,JU⟩
    ·rw [bP kZ]at e;refine(I.aH b u e).mD (fun d v BV q=>hx d v (fun z=>?_) q) (fun d q=>?_) (fun d xs q=>?_)
     ·subst z
      rcases BV with z | z
      ·exact mH z.symm
      ·rw [hP]at z;cases z
     ·rw [at' d (fun z=>by rw [z,hP]at q;cases q) (gT q nR)];exact q
     ·rw [at' d (fun z=>by rw [z,hP]at q;cases q) (gT q nR)];exact q
  have I1:Inv X pins σ (upd (upd H c' (.dU oc (.own 0))) P (.iQ (ps ++ #[rawInt dF.line,rawInt dF.col,.ref c']))) { s with heap:=h',toks:=tk }:=I.GI (s':={ s with heap:=h',toks:=tk }) (ch:=[]) rfl un aH I.bare fun b z=>absurd z (by simp);have sE:upd (upd H c' (.dU oc (.own 0))) P (.iQ (ps ++ #[rawInt dF.line,rawInt dF.col,.ref c'])) h'.objs.size=none:=I1.aH.fresh cJ;have Dr:h'.objs.size≠P:=fun z=>by rw [z,eA]at sE;cases sE
  have Tu:h'.objs.size≠c':=CY iT;have FJ:H h'.objs.size=none:=by rw [at' _ Dr Tu]at sE;exact sE
  refine⟨.ref h'.objs.size,_,I1.laid (t':=tk) (a:=h'.objs.size) (o:=BD qual params body scope cl ((X.mg "__name__").getD .none) c' fZ) (fun b o e=>eL _ e) cJ ⟨kH _ rfl,_,kH _ rfl⟩,rfl,?_⟩;exact h cl ⟨kY,kM⟩ _ c' oc vs t _ fZ FJ nR Tu.symm hd hv
 ·refine PySem.W.kla_makeFunctionHit (mg:=X.mg) gG I.ok.glob hg FQ C Uq ht hn hb fun fZ h' tk hk hsz=>?_;have FJ:H h'.objs.size=none:=I.aH.fresh hsz;exact⟨.ref h'.objs.size,_,I.laid (t':=tk) (a:=h'.objs.size) (o:=BD qual params body scope cl ((X.mg "__name__").getD .none) c' fZ) (fun b o e=>eL _ (hk b o e)) hsz ⟨kH _ rfl,_,kH _ rfl⟩,rfl,h cl ⟨kY,kM⟩ _ _ fZ FJ⟩
end
theorem atJ{CX:pA}{P:Program}{w:World}{K:Frag}{mg:Str→Option Value}{base:Heap}{k:Nat}{f:Addr}{name qual:Str}{params:Arguments}{body:List Stmt}{scope:Scope}{dV kV doc pm aU ct oc:Value}{an od:Option Addr}
  {gD:Array (Option Value)} {N ps:List Str} (lk:K.lookup f=some ⟨oc,od,.func (fnOf name qual params body scope dV kV doc pm an aU ct),gD⟩) (fN:codeIn K aU qual=true) (S:dJ N ps scope)
  {A:Around} {outer:List Env} {s:Shared} {H:Hp} {args:Args} {us:List Value} {vs:List V} {Q:VK} {E:XK} (hr:cH (k+1) A) (e0:vA P w K mg base A outer s H) (hb:BindsTo s (fnOf name qual params body scope dV kV doc pm an aU ct) args (ps.zip us)) (r:Vals vs us) (hl:vs.length=ps.length)
  (gH:cH k (A.deeper (envOfC qual scope s.heap.objs.size f aU))→∃t,lT (mK CX P w K mg base N qual scope f aU A outer s H E) body t∧t { nx:=fun _ H'=>Q .bR H',rt:=Q } (start N vs) H) :
  codeAny (model P w) A (.call (.ref f) args) (CR CX outer P w H s Q E) s:=by
 have KX:K.In s.heap:=e0.mod.qX.keeps fun b o e=>(e0.bs b o e).1;have lim:s.heap.NoLimit:=e0.mod.nolimit.keeps fun b o e=>(e0.bs b o e).1;have KG:∀y∈ps.zip us,scope.names.lookup y.1=some .local∨(scope.names.lookup y.1=some .cell∧((cellsFrom (s.heap.objs.size+1) scope.names []).lookup y.1).isSome=true):=fun⟨n,v⟩ hy=>by
  rcases S.par n (UL hy).1 with q | q
  ·exact .inl q
  ·exact .inr ⟨q,cellsFrom_some _ _ _ (.inl q)⟩
 refine Wx hr.depth (KX _ _ lk) rfl S.co S.gen rfl (codeRec_of KX fN) (hb _ _ _ _ ?_);refine Lc S.kind KG fun env he s1 x=>?_;subst he;refine⟨lim.keeps x.toInCall.keep,codeAny_func ?_⟩;obtain⟨t,ht,hq⟩:=gH (hr.deeper _);have I:Inv (mK CX P w K mg base N qual scope f aU A outer s H E) [] (start N vs) H s1:=Cp S hr.hd e0 hl r x;refine kJ (ht [] s1 (start N vs) H _ I hq) (fun fl s' hs=>?_) fun e s' hs=>hs;have fin:∀{σ':St} {H':Hp} {v:V} {u:Value},Inv (mK CX P w K mg base N qual scope f aU A outer s H E) [] σ' H' s'→RelV v u→Q v H'→CE outer P w H s Q u s' :=
  fun{σ' H' v u} J rv q=>⟨v,H',J.os,J.bare,J.base,J.aH,rv,q⟩
 cases fl with
 | ret u =>
  obtain⟨v,σ',H',J,rv,q⟩:=hs;exact fin J rv q
 | next =>
  obtain⟨σ',H',J,q⟩:=hs;exact fin (v:=V.bR) (u:=Value.none) J rfl q
 | brk =>
  obtain⟨_,_,_,q⟩:=hs;exact False.elim q
 | cont =>
  obtain⟨_,_,_,q⟩:=hs;exact False.elim q
end L2
namespace V2
open PySem PySem.Spec PyProof.Rows L2
structure Iq(K:Frag)(mg:Str→Option Value)(base:Heap)(x:Str):Prop where
 qX:K.In base
 glob:base.Ns mainGlobals mg
 blt:vC base mg
 hd:∃c P,tabIn K x=some (c,P)∧codeHdIn K c P=true
section
variable{P:Program}{w:World}{K:Frag}{mg:Str→Option Value}{base:Heap}
theorem cZ.ofT{x:Str}{st:Stmt}{N ps:List Str}{k:Nat}{b:MS}(h:HasFn K mg x st)(T:Iq K mg base x)(S:dJ N ps (aX st))
  (bind:∀(kV doc pm:Value) (an:Option Addr) (aU ct:Value) (us:List Value),us.length=ps.length→bindArgs (fnOf x x (iV st) (dX st) (aX st) .none kV doc pm an aU ct) ⟨us,[]⟩=pure (ps.zip us))
  (gH:∀(c Pt:Addr),tabIn K x=some (c,Pt)→codeHdIn K c Pt=true→∀(f:Addr) (A:Around) (outer:List Env) (s:Shared) (H:Hp) (E:XK),cH k (A.deeper (envOfC x (aX st) s.heap.objs.size f (.ref c))) →
   jG (nE P w K mg base N x (aX st) f (.ref c) A outer s H E) (fun _=>E) (dX st) b):cZ P w K mg base x (k+1) ps (dW N.length b):=by
 obtain⟨f,fd,hm,F⟩:=h.ex;obtain⟨c,Pt,ht,hh⟩:=T.hd;have fN:∃oc od kV doc pm an ct gD,fd=fnOf x x (iV st) (dX st) (aX st) .none kV doc pm an (.ref c) ct∧K.lookup f=some ⟨oc,od,.func (fnOf x x (iV st) (dX st) (aX st) .none kV doc pm an (.ref c) ct),gD⟩∧codeIn K (.ref c) x=true:=by
  obtain⟨oc,od,kV,doc,pm,an,aU,ct,gD,rfl,lk,fN⟩:=F.ex;have e:(fnOf x x (iV st) (dX st) (aX st) .none kV doc pm an aU ct).code = .ref c:=PySem.W.law_code T.qX T.glob ht hm (T.qX _ _ lk) rfl;have e':aU = .ref c:=e;subst e';exact⟨oc,od,kV,doc,pm,an,ct,gD,rfl,lk,fN⟩
 have FB:=F.binds bind;obtain⟨oc,od,kV,doc,pm,an,ct,gD,rfl,lk,fN⟩:=fN;refine⟨f,_,FY lk fN S (fun vs H Q E h=>h.1) fun A outer s H vs Q E hr gF=>?_,hm,F.kp,FB⟩;obtain⟨t,p,q⟩:=gH c Pt ht hh f A outer s H E hr;exact⟨t,EY p,GL q gF⟩
end
def yZ:List Nat→Ev→Option (List Int)
 | [],_=>some []
 | j::js,ρ=>match (ρ[j]?).join with
  | some (.int n)=>(yZ js ρ).map (n :: ·)
  | _=>none
open Classical in
noncomputable def DU(k:Nat)(x:Str)(dF:Pos)(qual:Str)(js:List Nat)(R:List Int→A→Mo A)(fa:Ev→Mo A):Ev→Mo A:=fun ρ=>mb (fa ρ) fun a Ω=>if Ω[k]? = some (.tab x dF qual)then(match yZ js ρ with
 | some ns=>rZ (R ns a) Ω
 | none=>none)else none
theorem Xk{K:Frag}{G:Hp}{ι:List Addr}{σ:L2.St}{ρ:Ev}(r:iN K G ι σ ρ)(N:List Str):∀{js:List Nat} {cs:List Str} {ns:List Int},js.map (fun j=>N[j]?)=cs.map some→yZ js ρ=some ns →
  ∃cV:List (Str×Int),cV.map (·.1)=cs∧cV.map (·.2)=ns∧∀p∈cV,∃j:Nat,N[j]? = some p.1∧σ[j]? = some (some (V.int p.2))
 | [],[],ns,_,h=>by
  simp only [yZ]at h;cases h;exact⟨[],rfl,rfl,fun p hp=>by simp at hp⟩
 | [],_::_,_,e,_=>by simp at e
 | _::_,[],_,e,_=>by simp at e
 | j::js,c::cs,ns,e,h=>by
  simp only [dH,sN]at e;simp only [yZ]at h;cases q:(ρ[j]?).join with
  | none=>rw [q]at h;cases h
  | some d =>
   rw [q]at h;cases d with
   | int n =>
    simp only at h;cases q2:yZ js ρ with
    | none=>rw [q2]at h;cases h
    | some ms =>
     rw [q2]at h;cases h;obtain⟨cV,e1,e2,e3⟩:=Xk r N e.2 q2;obtain⟨v,hv,hd⟩:=r.2 j _ (join_some q);simp only [Den]at hd;subst hd;refine⟨(c,n)::cV,by simp [e1],by simp [e2],fun p hp=>?_⟩
     rcases dN.mp hp with z | z
     ·subst z;exact⟨j,e.1,hv⟩
     ·exact e3 p z
   | _=>cases h
section
variable{X:Cx}{W:WX}{e:Expr}{fa:Ev→Mo A}{p pos:Pos}
theorem acK{ps:Array Value}{dF:Pos}{c':Addr}(ht:TriplesOk ps.toList)(hn:codeAmong dF ps.toList=none) :
  TriplesOk (ps ++ #[rawInt dF.line,rawInt dF.col,.ref c']).toList∧codeAmong dF (ps ++ #[rawInt dF.line,rawInt dF.col,.ref c']).toList=some (.ref c'):=by
 have e:(ps ++ #[rawInt dF.line,rawInt dF.col,Value.ref c']).toList=ps.toList++[rawInt dF.line,rawInt dF.col,.ref c']:=by simp
 rw [e];generalize ps.toList=l at ht hn;constructor
 ·induction l using TriplesOk.induct with
  | case1=>exact trivial
  | case2 i t j u v rest ih =>
   simp only [TriplesOk]at ht;simp only [codeAmong]at hn;split at hn
   ·cases hn
   ·exact ih ht hn
  | case3 l h1 h2=>simp [TriplesOk]at ht
 ·exact codeAmong_snoc l ht hn
theorem abD{x z y qual:Str}{st:Stmt}{N ps cs:List Str}{k kf:Nat}{js:List Nat}{params:Arguments}{body:Expr}{scope:Scope}{dF:Pos}{c P:Addr}{fb:Ev→Mo A}{bfw:Addr→(A→Mo A)→MS}{R:List Int→A→Mo A}
  (hT:tabIn X.K x=some (c,P)) (LD:codeHdIn X.K c P=true) (hB:vC X.base X.mg) (FQ:X.env.code = .ref c) (hq:X.env.qual ++ "<lambda>" = qual) (KU:defaultsOf params X.env=([],[]))
  (S:HE scope y cs) (tJ:∀y∈scope.names,y.2 = .free→X.env.kindOf y.1=some .cell∨X.env.kindOf y.1=some .free) (FP:js.map (fun j=>X.N[j]?)=cs.map some) (BW:∀x∈cs,X.env.scope.names.lookup x=some .cell)
  (hz:HasFn X.K X.mg z st) (JS:ps.length=2) (SF:dJ N ps (aX st))
  (bind:∀(kV doc pm:Value) (an:Option Addr) (aU ct:Value) (us:List Value),us.length=ps.length→bindArgs (fnOf z z (iV st) (dX st) (aX st) .none kV doc pm an aU ct) ⟨us,[]⟩=pure (ps.zip us))
  (gH:∀(lf:Addr) (cV:List (Str×Int)),cV.map (·.1)=cs→∀(f:Addr) (aU:Value) (A:Around) (outer:List Env) (s:Shared) (H:Hp) (E:XK),cH kf (A.deeper (envOfC z (aX st) s.heap.objs.size f aU))→uU s.heap H lf qual params body scope cV →
   jG (nE X.prog X.w X.K X.mg X.base N z (aX st) f aU A outer s H E) (fun _=>E) (dX st) (bfw lf (qW fb (cV.map (·.2)))))
  (hR:∀lf ns a Ω r,rZ (R ns a) Ω=some r→dW N.length (bfw lf (qW fb ns)) [a,.adr lf] Ω=some r)
  (hr:cH (kf+1) X.A) (hg:Gl X z) (he:VE X W e fa) (gW:(z == ("__debug__" : Str))=false:=by decide)
  (oQ:starEach [e, .Lambda params body scope dF] X.env=[(false,eval e X.env),(false,eval (.Lambda params body scope dF) X.env)]:=by rfl)
  (FG:starEach [.Lambda params body scope dF] X.env=[(false,eval (.Lambda params body scope dF) X.env)]:=by rfl) :
  VE X W (.Call (.Name z p) [e, .Lambda params body scope dF] [] pos) (DU k x dF qual js R fa):=by
 obtain⟨t1,p1,s1⟩:=he;have PAa:PA X [e, .Lambda params body scope dF] (IB t1 (IB (XX X P qual params body scope dF) OR)) :=
  AM p1 (AM (alA FQ hq LD hB KU tJ) IW (by rw [FG];rfl)) (by rw [oQ,FG])
 refine⟨fun σ H Q=>IB t1 (IB (XX X P qual params body scope dF) OR) σ H fun vs H2=>∃(v1:V) (lf:Addr) (cV:List (Str×Int)) (cl:List (Str×Addr)) (pm fZ:Value) (c':Addr) (oc:Obj) (us:Array Value) (t:Tok),vs=[v1,.ref lf]∧cV.map (·.1)=cs∧(∀p∈cV,∃j:Nat,X.N[j]? = some p.1∧σ[j]? = some (some (V.int p.2))) ∧
   Kq X scope cl∧H2 lf=some (BD qual params body scope cl pm c' fZ)∧H2 c'=some (.dU oc (.own 0))∧oc.data = .fields us∧us[1]? = some (.str qual t) ∧
   qP X.K ps.length (dW N.length (bfw lf (qW fb (cV.map (·.2))))) [v1,.ref lf] H2 Q (fun _ _ _=>False),?_,?_⟩
 ·intro pins s σ H Q I h;obtain⟨f,fd,hm,F⟩:=hz.ex;refine vH (EZ I hg hm ?_ gW);refine callWith_K (h₀:=X.base) I.ok.mod.qX F.kp (bG (PAa pos pins s σ H _ I h) fun us s1 ⟨vs,H1,I1,r,q⟩=>⟨I1.gU,?_⟩) (by rw [oQ,FG]) (by rw [FG];rfl);obtain⟨v1,lf,cV,cl,pm,fZ,c',oc,ws,t,rfl,Ue,hσ,gG,hlf,oR,hd,hv,gF⟩:=q;have La:uU s1.heap H1 lf qual params body scope cV:=by
   refine⟨cl,pm,fZ,c',oc,ws,t,hlf,oR,hd,hv,fun x y c h1 h2=>I1.ok.inj x y c (gG.1 x c h1) (gG.1 y c h2),gG.2,fun x c e=>⟨I1.cell x c (gG.1 x c e),I1.mJ x c (gG.1 x c e)⟩,fun pp Sz=>?_⟩;obtain⟨j,hj1,sD⟩:=hσ pp Sz;have Dj:pp.1∈cs:=by rw [← Ue];exact Jk Sz
   obtain⟨m,hn,hl⟩:=I1.loc;obtain⟨u,ru,lu⟩:=hl j pp.1 _ hj1 sD (.inr (.inl (BW _ Dj)));obtain⟨tk,rfl⟩:=ru
   rcases lu with⟨hk,_⟩ | ⟨_,c0,nR,ic⟩
   ·rw [show X.env.kindOf pp.1=some .cell from BW _ Dj]at hk;cases hk
   ·obtain⟨c1,yN⟩:=gG.2 _ (PySem.mem_of_lookup (S.ME _ Dj)) rfl;have:=gG.1 _ _ yN;rw [nR]at this;cases this;exact⟨c0,tk,yN,ic⟩
  have mH:=F.binds bind s1 us I1.gU (by rw [zJ,← r.length];simp [JS]);rw [zJ]at mH;have FB:=mH;obtain⟨oc2,od,kV,doc,pm2,an,aU,ct,gD,rfl,lk,fN⟩:=F.ex;refine xM (yX (atJ (CX:=pB X.prog X.w) (E:=fun _ _ _=>False) (Q:=Q) (k:=kf) lk fN SF hr I1.GC FB r (by simp [JS]) fun hrb=>?_) fun r s' hq=>?_)
  ·obtain⟨tt,pp,qq⟩:=gH lf cV Ue f aU X.A X.stack s1 H1 (fun _ _ _=>False) hrb La;exact⟨tt,EY pp,GL qq gF⟩
  ·cases r with
   | error ev=>obtain⟨x,cls,dx,H',_,_,_,_,_,_,q⟩:=hq;exact q.elim
   | ok fl =>
    cases fl with
    | ret u=>exact I1.after hq
    | next=>exact False.elim hq
    | brk=>exact False.elim hq
    | cont=>exact False.elim hq
 ·intro G ι Ω H σ ρ Q w r h;unfold DU at h;refine s1 G ι Ω H σ ρ _ w r (bQ.mb h fun a Ω1 v1 H1 G1 ι1 x1 w1 d1 h1=>?_);split at h1
  ·rename_i hk;cases Du:yZ js ρ with
   | none=>rw [Du]at h1;exact False.elim h1
   | some ns =>
    rw [Du]at h1;simp only at h1;obtain⟨cV,yN,yM,Uh⟩:=Xk r X.N FP Du;obtain⟨aP,Ul⟩:=w1.addr hk;obtain⟨gP,⟨c0,Sx⟩,qs,yJ,uH,hq3⟩:=w1.aD k _ aP hk Ul;rw [hT]at Sx;cases Sx;have fin:∀(lf:Addr) (H2 G2:Hp),Ext G1 ι1 G2 ι1→Wd X.K G2 ι1 Ω1 H2→qP X.K ps.length (dW N.length (bfw lf (qW fb (cV.map (·.2))))) [v1,.ref lf] H2 Q (fun _ _ _=>False):=fun lf H2 G2 e2 w2=>by
     refine⟨by simp [JS],G2,ι1,Ω1,[a,.adr lf],w2,.cons (d1.ext e2) (.cons (by simp only [Den]) .nil),?_⟩
     revert h1
     rw [yM];cases nA:rZ (R ns a) Ω1 with
     | none=>intro h1;exact False.elim h1
     | some r0 =>
      intro h1;rw [hR lf ns a Ω1 r0 nA]
      match r0,h1,nA with
      | (.ok b,Ω'),h1,_=>exact fun v H' G' ι' x3 w3 d3=>h1 v H' G' ι' (e2.trans x3) w3 d3
      | (.exc xx,Ω'),_,nA =>
       exfalso;simp only [rZ]at nA
       revert nA
       generalize R ns a Ω1=rr;intro nA
       match rr,nA with
       | some (.exc _,_),nA=>cases nA
       | some (.ok _,_),nA=>cases nA
       | none,nA=>cases nA
    refine⟨qs,yJ,uH,?_⟩
    rcases hq3 with hn | ⟨c',oc,us,t,hn,hgc,hd,hv⟩
    ·refine .inl ⟨hn,fun cl gG f c' oc us t pm fZ sE nR eW hd hv=>?_⟩;obtain⟨tg1,tg2⟩:=acK (c':=c') uH hn;have Dv:c'≠P:=fun z=>by rw [z,yJ]at nR;cases nR
     have Dr:f≠P:=fun z=>by rw [z,yJ]at sE;cases sE
     have wA:=w1.new nR (.dU oc (.own 0));have Vd:upd G1 c' (.dU oc (.own 0)) P=none:=by rw [bP Dv.symm];exact gP
     have wB:=wA.put (c := .tab x dF qual) (o := .iQ (qs ++ #[rawInt dF.line,rawInt dF.col,.ref c'])) Ul Vd ⟨Vd,⟨c,hT⟩,_,eA,tg1,.inr ⟨c',oc,us,t,tg2,eA,hd,hv⟩⟩;have BI:Ω1.set k (.tab x dF qual)=Ω1:=by
      have hlk:=(dI.mp hk);obtain⟨FI,kX⟩:=hlk;rw [← kX];exact List.set_getElem_self _
     rw [BI]at wB;have FJ:upd (upd H1 c' (.dU oc (.own 0))) P (.iQ (qs ++ #[rawInt dF.line,rawInt dF.col,.ref c'])) f=none:=by rw [bP Dr,bP eW.symm];exact sE
     have wC:=wB.new FJ (BD qual params body scope cl pm c' fZ);refine⟨v1,f,cV,cl,pm,fZ,c',oc,us,t,rfl,yN,Uh,gG,eA,?_,hd,hv,fin f _ _ ?_ wC⟩
     ·rw [bP eW,bP Dv,eA]
     ·exact(Ext.new (w1.lA nR) _).trans (Ext.new (wB.lA FJ) _)
    ·refine .inr ⟨c',hn,fun cl gG f pm fZ sE=>?_⟩;have Ug:=w1.sub _ _ hgc;have wC:=w1.new sE (BD qual params body scope cl pm c' fZ);exact⟨v1,f,cV,cl,pm,fZ,c',oc,us,t,rfl,yN,Uh,gG,eA,by rw [bP (gT Ug sE)];exact Ug,hd,hv,fin f _ _ (Ext.new (w1.lA sE) _) wC⟩
  ·exact False.elim h1
end
structure VD(X:Cx)(scope:Scope)(y:Str)(cs:List Str)(js:List Nat):Prop where
 S:HE scope y cs
 free:∀y∈scope.names,y.2 = .free→X.env.kindOf y.1=some .cell∨X.env.kindOf y.1=some .free
 cV:js.map (fun j=>X.N[j]?)=cs.map some
 cell:∀x∈cs,X.env.scope.names.lookup x=some .cell
def Jz(sc:Scope)(N:List Str)(scope:Scope)(y:Str)(cs:List Str)(js:List Nat):Prop :=
 ((scope.kind == .function)=true∧scope.isCoroutine=false∧scope.isGenerator=false)∧(∀x∈scope.names,(x.2 == .cell)=false)∧(scope.names.lookup y == some .local)=true∧(∀x∈cs,(scope.names.lookup x == some .free)=true) ∧
 (∀y∈scope.names,(y.2 == .free)=true→(sc.names.lookup y.1 == some .cell)=true)∧js.map (fun j=>N[j]?)=cs.map some∧∀x∈cs,(sc.names.lookup x == some .cell)=true
instance (sc:Scope) (N:List Str) (scope:Scope) (y:Str) (cs:List Str) (js:List Nat):Decidable (Jz sc N scope y cs js):=by unfold Jz;infer_instance
theorem VD.of{X:Cx}{scope:Scope}{y:Str}{cs:List Str}{js:List Nat}(sc:Scope)(N:List Str)(h1:X.env.scope=sc)(h2:X.N=N)(h:Jz sc N scope y cs js):VD X scope y cs js:=by
 obtain⟨⟨a1,a2,a3⟩,a4,a5,a6,a7,a8,a9⟩:=h;refine⟨⟨by simpa using a1,a2,a3,fun x hx=>by simpa using a4 x hx,by simpa using a5,fun x hx=>by simpa using a6 x hx⟩,fun y hy hf => .inl ?_,by rw [h2];exact a8,fun x hx=>by rw [h1];simpa using a9 x hx⟩;have:=a7 y hy (by simp [hf]);show X.env.scope.names.lookup y.1=some .cell;rw [h1];simpa using this
theorem abC{X:Cx}{W:WX}{e:Expr}{fa:Ev→Mo A}{p pos:Pos}{x z y qual:Str}{st:Stmt}{N ps cs:List Str}{k kf:Nat}{js:List Nat}{params:Arguments}{body:Expr}{scope:Scope}{dF:Pos}{c P:Addr}{fb:Ev→Mo A}{bfw:Addr→(A→Mo A)→MS}{R:List Int→A→Mo A}
  (hT:tabIn X.K x=some (c,P)) (LD:codeHdIn X.K c P=true) (hB:vC X.base X.mg) (FQ:X.env.code = .ref c) (hq:X.env.qual ++ "<lambda>" = qual) (KU:defaultsOf params X.env=([],[]))
  (O:VD X scope y cs js)
  (hz:HasFn X.K X.mg z st) (JS:ps.length=2) (SF:dJ N ps (aX st))
  (bind:∀(kV doc pm:Value) (an:Option Addr) (aU ct:Value) (us:List Value),us.length=ps.length→bindArgs (fnOf z z (iV st) (dX st) (aX st) .none kV doc pm an aU ct) ⟨us,[]⟩=pure (ps.zip us))
  (gH:HE scope y cs→∀(lf:Addr) (cV:List (Str×Int)),cV.map (·.1)=cs→∀(f:Addr) (aU:Value) (A:Around) (outer:List Env) (s:Shared) (H:Hp) (E:XK),cH kf (A.deeper (envOfC z (aX st) s.heap.objs.size f aU))→uU s.heap H lf qual params body scope cV →
   jG (nE X.prog X.w X.K X.mg X.base N z (aX st) f aU A outer s H E) (fun _=>E) (dX st) (bfw lf (qW fb (cV.map (·.2)))))
  (hR:∀lf ns a Ω r,rZ (R ns a) Ω=some r→dW N.length (bfw lf (qW fb ns)) [a,.adr lf] Ω=some r)
  (hr:cH (kf+1) X.A) (hg:Gl X z) (he:VE X W e fa) (gW:(z == ("__debug__" : Str))=false:=by decide)
  (oQ:starEach [e, .Lambda params body scope dF] X.env=[(false,eval e X.env),(false,eval (.Lambda params body scope dF) X.env)]:=by rfl)
  (FG:starEach [.Lambda params body scope dF] X.env=[(false,eval (.Lambda params body scope dF) X.env)]:=by rfl) :
  VE X W (.Call (.Name z p) [e, .Lambda params body scope dF] [] pos) (DU k x dF qual js R fa) :=
 abD hT LD hB FQ hq KU O.S O.free O.cV O.cell hz JS SF bind (gH O.S) hR hr hg he gW oQ FG
def Ub (vs : Array Value) (c P : Addr) : Bool := (match (vs[11]? : Option Value) with | some (.ref P') => P' == P | _ => false) &&
   (match vs.getD 18 .none with | .str _ _=>true | _=>false)&&(match vs.getD 7 .none with | .int _ _=>true | _=>false) &&
   (match vs.getD 9 .none with | .bool _=>true | _=>false)&&(match vs.getD 10 .none with | .int _ _=>true | _=>false)&&c != P
theorem acJ{K:Frag}{x:Str}{f tc tp:Addr}{oc kV dc pm ct:Value}{od an odc:Option Addr}{sl slc:Array (Option Value)}{st:Stmt}{vs:Array Value}(a:nsIn K mainGlobals x=some (some (.ref f)))
  (l:K.lookup f=some ⟨oc,od,.func (fnOf x x (iV st) (dX st) (aX st) .none kV dc pm an (.ref tc) ct),sl⟩) (lc:K.lookup tc=some ⟨.type "code",odc,.fields vs,slc⟩) (hv:vs[11]? = some (.ref tp)) (hh:Ub vs tc tp=true) :
  tabIn K x=some (tc,tp)∧codeHdIn K tc tp=true:=by
 constructor
 ·unfold tabIn;rw [a];simp only [l,lc,hv]
 ·unfold codeHdIn;rw [lc];exact hh
@[elab_as_elim] theorem us0{P:List Value→Prop}(us:List Value)(h:us.length=0)(f:P []):P us:=by cases us with | nil=>exact f | cons _ _=>simp at h
@[elab_as_elim] theorem rQ{P:List Value→Prop}(us:List Value)(h:us.length=1)(f:∀a,P [a]):P us:=by
 cases us with
 | nil=>simp at h
 | cons a r=>exact us0 r (by simpa using h) (f a)
@[elab_as_elim] theorem pT{P:List Value→Prop}(us:List Value)(h:us.length=2)(f:∀a b,P [a,b]):P us:=by
 cases us with
 | nil=>simp at h
 | cons a r=>exact rQ (P:=fun r=>P (a::r)) r (by simpa using h) (f a)
@[elab_as_elim] theorem Mf{P:List Value→Prop}(us:List Value)(h:us.length=3)(f:∀a b c,P [a,b,c]):P us:=by
 cases us with
 | nil=>simp at h
 | cons a r=>exact pT (P:=fun r=>P (a::r)) r (by simpa using h) (f a)
@[elab_as_elim] theorem OJ{P:List Value→Prop}(us:List Value)(h:us.length=4)(f:∀a b c d,P [a,b,c,d]):P us:=by
 cases us with
 | nil=>simp at h
 | cons a r=>exact Mf (P:=fun r=>P (a::r)) r (by simpa using h) (f a)
@[elab_as_elim] theorem WZ{P:List Value→Prop}(us:List Value)(h:us.length=5)(f:∀a b c d e,P [a,b,c,d,e]):P us:=by
 cases us with
 | nil=>simp at h
 | cons a r=>exact OJ (P:=fun r=>P (a::r)) r (by simpa using h) (f a)
abbrev uD(x:Str):Str:=x ++ ".<locals>." ++ "<lambda>"
def OY(K:Frag)(ts:List Addr):Sp:=fun vs H Q _=>∃(a:Addr) (ns:List Int),vs=[.ref a]∧dG K H a (ns.map V.int)∧ns.length≤63∧(∀P∈ts,H P=some (.iQ #[]))∧∀H',Q (.bl true) H'
theorem ahR{K:Frag}{H:Hp}{a:Addr}{xs:List V}{ts:List Addr}(h:dG K H a xs)(hT:∀P∈ts,H P=some (.iQ #[])):dG K (fun b=>if b∈ts then none else H b) a xs:=by
 rcases h with(h | ⟨o,h⟩) | h
 ·exact .inl (.inl (by
   have:a∉ts:=fun z=>by rw [hT a z]at h;cases h
   show(if a∈ts then none else H a)=_;rw [if_neg this];exact h))
 ·exact .inl (.inr ⟨o,by
   have:a∉ts:=fun z=>by rw [hT a z]at h;cases h
   show(if a∈ts then none else H a)=_;rw [if_neg this];exact h⟩)
 ·exact .inr h
section
variable{P:Program}{w:World}{K:Frag}{mg:Str→Option Value}{base:Heap}
theorem aoN{fa:Addr}{fd:FuncData}{k:Nat}{F:List A→Mo A}{ts:List Addr}(tl:List (Addr×Str×Pos×Str))(hnd:(tl.map (·.1)).Nodup)(hsub:∀t∈tl,t.1∈ts)(hT:∀t∈tl,∃c,tabIn K t.2.1=some (c,t.1))
  (h1:iG P w K mg base (pB P w) k fa fd ["_law_script"] (qP K 1 F)) (hF:∀ns:List Int,ns.length≤63→∃Ω,F [.dB ns] (tl.map fun t => .tab t.2.1 t.2.2.1 t.2.2.2)=some (.ok (.bl true),Ω)) :
  iG P w K mg base nZ k fa fd ["_law_script"] (OY K ts):=by
 refine(Gz h1).imp fun vs H Q E hq=>?_;obtain⟨a,ns,rfl,hs,hl,LA,q⟩:=hq;obtain⟨Ω,e⟩:=hF ns hl;refine⟨rfl,fun b=>if b∈ts then none else H b,tl.map (·.1),tl.map (fun t => .tab t.2.1 t.2.2.1 t.2.2.2),[.dB ns],⟨fun b o z=>?_,hnd,by simp,fun b hb=>?_,fun j c b h1 h2=>?_,fun b j i j' i' hh=>?_⟩,.cons (by simp only [Den];exact⟨a,rfl,ahR hs LA⟩) .nil,?_⟩
 ·by_cases hb:b∈ts
  ·have z':(if b∈ts then none else H b)=some o:=z;rw [if_pos hb]at z';cases z'
  ·have z':(if b∈ts then none else H b)=some o:=z;rw [if_neg hb]at z';exact z'
 ·obtain⟨t,ht,rfl⟩:=mM.mp hb;exact⟨_,LA _ (hsub t ht)⟩
 ·rw [kG]at h1 h2;cases ej:tl[j]? with
  | none=>rw [ej]at h1;cases h1
  | some t =>
   rw [ej]at h1 h2;cases h1;cases h2;have ht:=nH ej;refine⟨if_pos (hsub t ht),hT t ht,#[],LA _ (hsub t ht),trivial,.inl rfl⟩
 ·obtain⟨_,_,_,_,_,_,_,_,_,_,z,_⟩:=hh;rw [kG]at z;cases ej:tl[j]? with
  | none=>rw [ej]at z;cases z
  | some t=>rw [ej]at z;cases z
 rw [e];intro v H' G' ι' _ _ d;simp only [Den]at d;subst d;exact q H'
end
open Classical in
noncomputable def tN(g:A→Mo A)(a:A):Mo A:=fun Ω=>if h:∃(ds:List A) (m:Nat),dO Ω a=some ds∧m≤ds.length∧ds.length≤100000∧∀i d,ds[i]? = some d→g d Ω=some (.ok (.bl (decide (m≤i))),Ω)then some (.ok (.int (h.choose_spec.choose:Nat)),Ω)else none
theorem atA{g:A→Mo A}{a:A}{Ω:aF}{ds:List A}{m:Nat}(h1:dO Ω a=some ds)(h2:m≤ds.length)(h3:ds.length≤100000)(h4:∀i d,ds[i]? = some d→g d Ω=some (.ok (.bl (decide (m≤i))),Ω)):tN g a Ω=some (.ok (.int (m:Int)),Ω):=by
 have h:∃(ds:List A) (m:Nat),dO Ω a=some ds∧m≤ds.length∧ds.length≤100000∧∀i d,ds[i]? = some d→g d Ω=some (.ok (.bl (decide (m≤i))),Ω):=⟨ds,m,h1,h2,h3,h4⟩;have key:∀(lG:List A) (m':Nat),dO Ω a=some lG→m'≤lG.length→(∀i d,lG[i]? = some d→g d Ω=some (.ok (.bl (decide (m'≤i))),Ω))→m'=m:=by
  intro lG m' e1 e2 e4;rw [h1]at e1;cases e1
  rcases Nat.lt_trichotomy m' m with z | z | z
  ·have hl:m'<ds.length:=by omega
   have q1:=h4 m' _ (eX hl);have q2:=e4 m' _ (eX hl);rw [q1]at q2;simp at q2;omega
  ·exact z
  ·have hl:m<ds.length:=by omega
   have q1:=h4 m _ (eX hl);have q2:=e4 m _ (eX hl);rw [q1]at q2;simp at q2;omega
 unfold tN;rw [dif_pos h];obtain⟨e1,e2,e3,e4⟩:=h.choose_spec.choose_spec;rw [key _ _ e1 e2 e4]
theorem as9{g:A→Mo A}{a:A}{Ω:aF}{r:Rs A×aF}(h:tN g a Ω=some r):∃(ds:List A) (m:Nat),dO Ω a=some ds∧m≤ds.length∧ds.length≤100000∧(∀i d,ds[i]? = some d→g d Ω=some (.ok (.bl (decide (m≤i))),Ω))∧r=(.ok (.int (m:Int)),Ω):=by
 unfold tN at h;split at h
 ·rename_i hh;cases h;obtain⟨e1,e2,e3,e4⟩:=hh.choose_spec.choose_spec;exact⟨_,_,e1,e2,e3,e4,rfl⟩
 ·cases h
end V2
namespace M
open PySem V2
noncomputable section
def MI(lf:Addr)(g:A→Mo A):MS :=
 (aV (bK (aB (jF) (aB bX bB bZ) fM) (gN 4))
   (eV (bY (WR 1 lf g (aB aW aL fD)))
    (bK fD (gN 3))
    (bK (aB bX fD bL) (gN 2))))
def CS(lf:Addr)(g:A→Mo A):Ev→Mo Bool :=
 (bY (aB mI bB bZ))
def MJ(lf:Addr)(g:A→Mo A):MS :=
 (aV (bK bS (gN 2))
  (aV (bK (aN dQ (aC aL a0)) (gN 3))
  (aV (fun ρ Ω=>nD (CS lf g) (MI lf g) ((fun _ _=>1000000) ρ Ω) ρ Ω)
  (cX bB))))
end
end M
namespace L2
open PySem PySem.Spec PyProof.Rows
open PySem PySem.Spec PyProof.Rows Builtin Builtin.ObjectAttr
section
variable{X:Cx}
def acO(j:Nat):TE:=fun σ H Q=>∃i,σ[j]? = some (some (.int i))∧i.natAbs.log2<1920∧∀x,Q (.str x) H
end
theorem am5{K:Frag}{h:Heap}{N:Addr}{mg:Str→Option Value}{n:Str}{v:Value}(X:K.In h)(G:h.Ns N mg)(e:nsIn K N n=some (some v)):mg n=some v:=by
 obtain⟨o,es,ep,ho,hd,_,hf⟩:=G;unfold nsIn at e;split at e
 ·rename_i c d oV n' sl q;have:=X _ _ q;rw [ho]at this;cases this;cases hd;split at e
  ·rename_i en he;cases e;rw [← hf];unfold nsFind findBy;rw [← Array.find?_toList,he];rfl
  ·split at e <;> cases e
 ·cases e
def Vv(K:Frag)(C fI:Addr):Bool:=match K.lookup C with
 | some ⟨.type "type",_,.cls cd,sl⟩=>(match cd.mro,sl.toList with
  | .ref C'::bm,[_,_,_,_,some (.builtin n),_]=>C' == C&&n == "ValueError.__new__" && !cd.hasDel&&cd.hasDict&&PySem.W.tailIn K MG bm&&PySem.W.nsOkIn K cd.ns&&nsIn K cd.ns "__init__" == some (some (.ref fI))
  | _,_=>false)
 | _=>false
structure Zh(K:Frag)(C fI:Addr)(fld:Str):Prop where
 Cr:Vv K C fI=true
 fn:typeIn K (.ref fI)=some (.type "function")
 ayV:findIn K (.ref C) "__setattr__" = some (some (.builtin "object.__setattr__"))
 nof:findIn K (.ref C) fld=some none
theorem Zh.obj{K:Frag}{C fI:Addr}{fld:Str}(O:Zh K C fI fld){h:Heap}(X:K.In h):∃bm N nm q bs sn sub ab col dd k0 k1 k2 k3 k5 mN oI,h.get? C=some (excClassObj nm q C N bs bm true sn sub ab col dd k0 k1 k2 k3 k5 "ValueError.__new__")∧h.Ns N mN∧mN "__init__" = some (.ref fI)∧OwnTail h MG bm∧h.get? fI=some oI∧oI.cls = .type "function":=by
 have q:=O.Cr;obtain⟨oI,iZ,oR⟩:=zF.mp O.fn;unfold Vv at q;split at q
 ·rename_i dd cd sl ho;split at q
  ·rename_i C' bm k0 k1 k2 k3 n k5 hm hs;simp only [nK,CQ,Bool.not_eq_true']at q;obtain⟨⟨⟨⟨⟨⟨rfl,rfl⟩,KR⟩,Ua⟩,ht⟩,aH⟩,BO⟩:=q;obtain⟨nm,bs,mro,ns,qn,hd,sn,sub,ab,col,del⟩:=cd;dsimp only at hm KR aH BO Ua;subst hm KR Ua;have mZ:sl = #[k0,k1,k2,k3,some (.builtin "ValueError.__new__"),k5]:=by
    obtain⟨l⟩:=sl;simp only at hs;rw [hs]
   subst mZ;exact⟨bm,ns,nm,qn,bs,sn,sub,ab,col,dd,k0,k1,k2,k3,k5,_,oI,X _ _ ho,.of_isNs (isNs_of_in X aH),am5 X (.of_isNs (isNs_of_in X aH)) BO,PySem.W.tail_of_in X ht,X _ _ iZ,oR⟩
  ·cases q
 ·cases q
structure aA5(K:Frag)(R:Addr):Prop where
 reads:PySem.W.readsIn K R (.type "type")=true
 find:PySem.W.findCls K (.ref R) (.type "type") "__init__" = some (.val (.builtin "ValueError.__init__"))
 ga:specialIn K (.ref R) "__getattribute__" = some (some (.builtin "type.__getattribute__"))
section
variable{X:Cx}{pins:List (Addr×Obj)}{σ:St}{H:Hp}{s1:Shared}{C fI R e:Addr}{fld qual rk sf pa:Str}{st:Stmt}{fd:FuncData}{t:Tok}{i:Int}{h2:Heap}{k:Nat}{je:Expr}{np ap cp ep p1 p2 Ig p3 apos:Pos}
structure aA1(st:Stmt)(fld rk sf pa:Str):Prop where
 scope:dJ [sf,pa] [sf,pa] (aX st)
 glob:(aX st).names.lookup rk=some .globalImplicit
 azB:(aX st).names.lookup sf=some .local
 azA:(aX st).names.lookup pa=some .local
 dbg:(rk == ("__debug__" : Str))=false∧(sf == ("__debug__" : Str))=false∧(pa == ("__debug__" : Str))=false∧(sf == ("__classdict__" : Str))=false∧(pa == ("__classdict__" : Str))=false
 text:∃(je:Expr) (np ap cp ep p1 p2 Ig p3 apos:Pos),dX st=[.Expr (.Call (.Attribute (.Name rk np) "__init__" ap) [.Name sf p1,je] [] cp) ep, .Assign [.Attribute (.Name sf p2) fld Ig] (.Name pa p3) apos] ∧
  (∀env,starEach [.Name sf p1,je] env=(false,eval (.Name sf p1) env)::starEach [je] env)∧(∀env,starEach [je] env=(false,eval je env)::starEach [] env) ∧
  (∀env:Env,∃pl,eval (.Call (.Attribute (.Name rk np) "__init__" ap) [.Name sf p1,je] [] cp) env=(do
   let ov ← eval (.Name rk np) env
   standAt ap.atName
   let (f,first) ← holding [ov] (getMethod ov "__init__" pl)
   callWith cp f first (backTo cp (starEach [.Name sf p1,je] env)) [])) ∧
  (∀env,swapsWith (.Call (.Attribute (.Name rk np) "__init__" ap) [.Name sf p1,je] [] cp) none ep.line env=pure false) ∧
  (∀env,swapsWith (.Name pa p3) (some (.Attribute (.Name sf p2) fld Ig)) apos.line env=pure false) ∧
  (∀Y:Cx,Y.N=[sf,pa]→Y.env.scope=aX st→PE Y je (acO 1))
end
structure XAt(K:Frag)(D:Addr)(fld:Str):Prop where
 ga:findIn K (.ref D) "__getattribute__" = some (some (.builtin "BaseException.__getattribute__"))
 gx:findIn K (.ref D) "__getattr__" = some none
 no:findIn K (.ref D) fld=some none
 be:subIn K (.ref D) (.type "BaseException")=some true
 hd:(clsIn K D).any (·.hasDict)=true
end L2
namespace V2
open PySem PySem.Spec PyProof.Rows L2
def ax1(e:Exc)(d:Addr)(dx:Option Addr):Prop:=(e.fs=[]∧dx=none)∨(e.fs≠[]∧dx=some d)
structure Cau(K:Frag)(oe:Obj)(d:Addr)(e:Exc):Prop where
 dat:∃vs,oe.data = .fields vs
 cls:∃E,nsIn K mainGlobals e.cls=some (some (.ref E))∧oe.cls = .ref E
 dic:ax1 e d oe.dict
section
variable{X:Cx}{W:WX}{a b c d:Expr}{ta tb tc td:TE}{fa fb fc fd:Ev→Mo A}{pos:Pos}
theorem av0(hc:X.calm=true):nJ X (.builtin "min") (fun xs H Q=>∃i j k:Int,xs=[.int i,.int j,.int k]∧Q (.int (min (min i j) k)) H):=by
 intro pins s σ H xs us Q I r h;obtain⟨i,j,k,rfl,q⟩:=h;cases r with
 | cons r1 r =>
  cases r with
  | cons r2 r =>
   cases r with
   | cons r3 r =>
    cases r;obtain⟨t1,rfl⟩:=r1;obtain⟨t2,rfl⟩:=r2;obtain⟨t3,rfl⟩:=r3;refine min_three_ints (I.ok.hd hc) fun h' tk kk=>⟨_,H,I.kept kk,?_,q⟩
    by_cases h1:j<i
    ·rw [if_pos h1]
     by_cases h2:k<j
     ·rw [if_pos h2];exact⟨t3,by congr 1;omega⟩
     ·rw [if_neg h2];exact⟨t2,by congr 1;omega⟩
    ·rw [if_neg h1]
     by_cases h2:k<i
     ·rw [if_pos h2];exact⟨t3,by congr 1;omega⟩
     ·rw [if_neg h2];exact⟨t1,by congr 1;omega⟩
@[simp] def RJ(as:List A):Mo A:=match as with
 | [.int i,.int j,.int k]=>ret (.int (min (min i j) k))
 | _=>stuck
theorem awC(hc:X.calm=true):rJ X W (.builtin "min") RJ:=by
 refine⟨_,av0 hc,?_⟩;intro G ι Ω H σ xs as Q w d h;unfold RJ at h;split at h
 ·rename_i i j k;simp only [bD,Den]at d;obtain⟨_,_,rfl,rfl,_,_,rfl,rfl,_,_,rfl,rfl,rfl⟩:=d;exact⟨i,j,k,rfl,gQ w (by simp only [Den]) h⟩
 ·exact False.elim h
def NU(_ j:Int):Prop:=0<j∧j<1152921504606846976
instance (i j:Int):Decidable (NU i j):=by unfold NU;infer_instance
theorem anC{x y:Int}(h:y.natAbs<1152921504606846976):Builtin.divisionGoesByPylong x y=false:=by
 refine PyProof.noPylong_of_log2 ?_
 by_cases h0:y.natAbs=0
 ·rw [h0];decide +kernel
 ·have h60:y.natAbs.log2<60:=(Nat.log2_lt h0).mpr h;omega
theorem amF:fU X (binaryOp .FloorDiv) (rI NU fun i j => .int (i/j)):=JA fun i j _ _ _ _ _ hc q=>by
 have h1:(0:Int)<j:=hc.1;have h2:j<1152921504606846976:=hc.2;exact floordiv_int (by omega) (by rw [Int.fdiv_eq_ediv_of_nonneg i (by omega)];exact q) (.inl (anC (by omega)))
@[simp] def Vg:=gI NU fun i j => .int (i/j)
theorem amZ:jQ X W (binaryOp .FloorDiv) Vg:=⟨_,amF,IZ fun _ _ _ _=>by simp only [Den]⟩
end
end V2
namespace M
open PySem V2
noncomputable section
def Hn:MS :=
 (aV (bK (aB aW bZ bL) (gN 4))
   (aV (bK (aB bX bJ fD) (gN 1))
   (eV (oG (bY (aB mI fD bL)) (bY (aB yS bJ (cI 1000000000))))
    (fun _ _=>none)
    gB)))
def Ho:MS :=
 (aV (bK bS (gN 1))
  (aV (kK (WV aL) (kN 2 (eR (gN 2) (eR (gN 3) lC))) Hn)
  (cX bJ)))
def VJ:List A→Mo A:=dW 5 Ho
def Hk:MS :=
 (aV (ZL (qL (aC (aB bX bB bL) (aC (aB bX bB fD) a0))) bJ bZ)
   (bK (aB bX bB fD) (gN 2)))
def SI:MS :=
 (aV (bK WW (gN 1))
  (aV (bK bS (gN 2))
  (aV (kK (fV (aN (bN 1 HG) (aC aL a0))) (kN 2 (eR (gN 3) (eR (gN 4) lC))) Hk)
  (cX bJ))))
def NO:List A→Mo A:=dW 5 SI
end
end M
namespace PySem
set_option maxRecDepth 100000
end PySem
namespace V2
open PySem PySem.Spec PyProof.Rows L2
theorem apN{P:Program}{w:World}{k:Key}{u:Value}(h:(lO P w).is k u=true):RelV (kV k) u:=by
 rcases sZ (k:=k) (v:=u) h with⟨i,t,q1,q2⟩ | ⟨x,t,q1,q2⟩
 ·subst q1;exact⟨t,q2⟩
 ·subst q1;exact⟨t,q2⟩
section
variable{X:Cx}{W:WX}
theorem Py{α β:Type}{F:α→β→Prop}:∀{l₁:List α} {l₂:List β},Paired F l₁ l₂→∀{j:Nat} {a:α},l₁[j]? = some a→∃b,l₂[j]? = some b∧F a b
 | _,_,.nil,j,a,h=>by simp at h
 | _,_,.cons r _,0,a,h=>by cases h;exact⟨_,rfl,r⟩
 | _,_,.cons _ rs,j+1,a,h=>by obtain⟨b,q,f⟩:=Py rs (j:=j) (by simpa using h);exact⟨b,by simpa using q,f⟩
end
def kA:Key→A
 | .inl i => .int i
 | .inr s => .str s
theorem auG{K:Frag}{G:Hp}{ι:List Addr}(k:Key):Den K G ι (kV k) (kA k):=by cases k <;> simp only [kV,kA,Den]
def JO(kv:Key×A):A := .tup [kA kv.1,kv.2]
end V2
namespace L2
open PySem PySem.Spec PyProof.Rows
def aw6(p:Addr)(oe:Obj)(outer:List Env)(s:Shared)(H:Hp):Prop:=s.heap.get? p=some oe∧H p=none∧p∉gJ outer∧∀v,oe.data ≠ .cell v
def Zb(P:Program)(w:World)(K:Frag)(mg:Str→Option Value)(base:Heap)(k:Nat)(f:Addr)(fd:FuncData)(ps:List Str)(p:Addr)(oe:Obj)(sp:Sp):Prop :=
 ∀(A:Around) (outer:List Env) (s:Shared) (H:Hp) (args:Args) (us:List Value) (vs:List V) (Q:VK) (E:XK),cH k A→vA P w K mg base A outer s H→BindsTo s fd args (ps.zip us)→Vals vs us→aw6 p oe outer s H→sp vs H Q E →
  codeAny (model P w) (A.mark (some (.ref p))) (.call (.ref f) args) (CR nZ outer P w H s Q E) s
section
variable{P:Program}{w:World}{K:Frag}{mg:Str→Option Value}{base:Heap}{p:Addr}{oe:Obj}
set_option maxRecDepth 100000 in
theorem atH{k:Nat}{f:Addr}{name qual:Str}{params:Arguments}{body:List Stmt}{scope:Scope}{dV kV doc pm aU ct oc:Value}{an od:Option Addr}
  {gD:Array (Option Value)} {N ps:List Str} {sp:Sp} (lk:K.lookup f=some ⟨oc,od,.func (fnOf name qual params body scope dV kV doc pm an aU ct),gD⟩) (fN:codeIn K aU qual=true) (S:dJ N ps scope)
  (len:∀vs H Q E,sp vs H Q E→vs.length=ps.length)
  (gH:∀(A:Around) (outer:List Env) (s:Shared) (H:Hp) (vs:List V) (Q:VK) (E:XK),cH k (A.deeper (envOfC qual scope s.heap.objs.size f aU))→sp vs H Q E →
   ∃t,lT ((mK nZ P w K mg base N qual scope f aU A outer s H E).uP p oe) body t∧t { nx:=fun _ H'=>Q .bR H',rt:=Q } (start N vs) H) :
  Zb P w K mg base (k+1) f (fnOf name qual params body scope dV kV doc pm an aU ct) ps p oe sp:=by
 intro A outer s H args us vs Q E hr e0 hb r pin gF;have hl:=len _ _ _ _ gF;have KX:K.In s.heap:=e0.mod.qX.keeps fun b o e=>(e0.bs b o e).1;have lim:s.heap.NoLimit:=e0.mod.nolimit.keeps fun b o e=>(e0.bs b o e).1;have KG:∀y∈ps.zip us,scope.names.lookup y.1=some .local∨(scope.names.lookup y.1=some .cell∧((cellsFrom (s.heap.objs.size+1) scope.names []).lookup y.1).isSome=true):=fun⟨n,v⟩ hy=>by
  rcases S.par n (UL hy).1 with q | q
  ·exact .inl q
  ·exact .inr ⟨q,cellsFrom_some _ _ _ (.inl q)⟩
 refine Wx (A:=A.mark (some (.ref p))) hr.depth (KX _ _ lk) rfl S.co S.gen rfl (codeRec_of KX fN) (hb _ _ _ _ ?_);refine Lc S.kind KG fun env he s1 x=>?_;subst he;refine⟨lim.keeps x.toInCall.keep,codeAny_func ?_⟩;obtain⟨t,ht,hq⟩:=gH A outer s H vs Q E (hr.deeper _) gF;have I0:Inv (mK nZ P w K mg base N qual scope f aU A outer s H E) [] (start N vs) H s1:=Cp S hr.hd e0 hl r x;obtain⟨p1,p2,p3,p4⟩:=pin;have iT:p<s.heap.objs.size:=by
  rcases UG p s.heap.objs.size with h | h
  ·exact h
  ·exfalso
   first | (rw [Heap.aAB h]at p1;cases p1) | (simp [Heap.get?,h]at p1) | (unfold Heap.get? at p1;simp [h]at p1)
 have I:Inv ((mK nZ P w K mg base N qual scope f aU A outer s H E).uP p oe) [] (start N vs) H s1:=I0.uP ⟨x.toInCall.keep _ _ p1,p2,fun z=>absurd iT (by rw [z];exact Nat.lt_irrefl _),p3,p4⟩;refine kJ (ht [] s1 (start N vs) H _ I hq) (fun fl s' hs=>?_) fun e s' hs=>hs.elim;have fin:∀{σ':St} {H':Hp} {v:V} {u:Value},Inv ((mK nZ P w K mg base N qual scope f aU A outer s H E).uP p oe) [] σ' H' s'→RelV v u→Q v H'→CE outer P w H s Q u s' :=
  fun{σ' H' v u} J rv q=>⟨v,H',J.os,J.bare,J.base,J.aH,rv,q⟩
 cases fl with
 | ret u =>
  obtain⟨v,σ',H',J,rv,q⟩:=hs;exact fin J rv q
 | next =>
  obtain⟨σ',H',J,q⟩:=hs;exact fin (v:=V.bR) (u:=Value.none) J rfl q
 | brk =>
  obtain⟨_,_,_,q⟩:=hs;exact False.elim q
 | cont =>
  obtain⟨_,_,_,q⟩:=hs;exact False.elim q
end
end L2
namespace V2
open PySem PySem.Spec PyProof.Rows L2
def aaE(P:Program)(w:World)(K:Frag)(mg:Str→Option Value)(base:Heap)(x:Str)(k:Nat)(ps:List Str)(p:Addr)(oe:Obj)(F:List A→Mo A):Prop :=
 ∃f fd,Zb P w K mg base k f fd ps p oe (fun vs H Q _=>qP K ps.length F vs H Q fun _ _ _=>False)∧mg x=some (.ref f)∧keepIn K (.ref f)=true∧Binds K fd ps []
theorem aaE.of{P:Program}{w:World}{K:Frag}{mg:Str→Option Value}{base:Heap}{p:Addr}{oe:Obj}{x:Str}{st:Stmt}{N ps:List Str}{k:Nat}{b:MS}(h:HasFn K mg x st)(S:dJ N ps (aX st))
  (bind:∀(kV doc pm:Value) (an:Option Addr) (aU ct:Value) (us:List Value),us.length=ps.length→bindArgs (fnOf x x (iV st) (dX st) (aX st) .none kV doc pm an aU ct) ⟨us,[]⟩=pure (ps.zip us))
  (gH:∀(f:Addr) (aU:Value) (A:Around) (outer:List Env) (s:Shared) (H:Hp) (E:XK),cH k (A.deeper (envOfC x (aX st) s.heap.objs.size f aU)) →
   jG ((mK nZ P w K mg base N x (aX st) f aU A outer s H E).uP p oe) yE (dX st) b):aaE P w K mg base x (k+1) ps p oe (dW N.length b):=by
 obtain⟨f,fd,hm,F⟩:=h.ex;refine⟨f,fd,?_,hm,F.kp,F.binds bind⟩;obtain⟨oc,od,kV,doc,pm,an,aU,ct,gD,rfl,lk,fN⟩:=F.ex;refine atH lk fN S (fun vs H Q E h=>h.1) fun A outer s H vs Q E hr gF=>?_;obtain⟨t,p,q⟩:=gH f aU A outer s H E hr;exact⟨t,p,GL (E:=fun _ _ _=>False) q gF⟩
theorem Yn(a:A)(ha:fF 7 a=true):∀(ds:List A),ds.all (fF 7)=true→((ds.map (toPy 7)).any fun y=>PyData.eqv y (toPy 7 a))=ds.any fun d=>kO 7 d a
 | [],_=>rfl
 | d::ds,h=>by
  simp only [Jn,nK]at h;simp only [dH,UP];rw [XO 7 d a h.1 ha,Yn a ha ds h.2]
def Oo(K:Frag)(neg:Bool):R2:=fun x y H Q=>∃ι a ds,fF 7 a=true∧fF 8 (.lst ds)=true∧Den K H ι x a∧Den K H ι y (.lst ds)∧Q (.bl (if neg then !(ds.any fun d=>kO 7 d a)else ds.any fun d=>kO 7 d a)) H
theorem al6{X:Cx}(hu:X.A.units+64<cLine):fU X (compareOp .NotIn) (Oo X.K true):=by
 intro pins s σ H x y v u Q I rx ry h;obtain⟨ι,a,ds,h1,h2,d1,d2,q⟩:=h;obtain⟨as,q1⟩:=EM I 7 x v a h1 d1 rx;obtain⟨bs,q2⟩:=EM I 8 y u (.lst ds) h2 d2 ry;have e1:=XQ 7 a;have hall:ds.all (fF 7)=true:=h2;refine SeqAt.notIn_list_reads (xs:=ds.map (toPy 7)) q2 q1 (SE ds 7 (fun d _=>EC 7 d) hall) (EC 7 a h1) (by omega) ?_;rw [Yn a h1 ds hall];exact⟨.bl (!(ds.any fun d=>kO 7 d a)),H,I,rfl,q⟩
def yR(neg:Bool)(a b:A):Mo A:=fun Ω=>match res Ω 6 a,res Ω 6 b with
 | some x,some (.lst ds)=>if(fF 7 x&&fF 8 (.lst ds))=true then some (.ok (.bl (if neg then !(ds.any fun d=>kO 7 d x)else ds.any fun d=>kO 7 d x)),Ω)else none
 | _,_=>none
theorem al1{K:Frag}{W:WX}{neg:Bool}:rB K W (Oo K neg) (yR neg):=by
 intro G ι Ω H σ x y a b Q w d1 d2 h;unfold yR at h;split at h
 ·rename_i a' ds e1 e2;split at h
  ·rename_i hp;simp only [nK]at hp;exact⟨ι,a',ds,hp.1,hp.2,QG w 6 x a a' d1 e1,QG w 6 y b _ d2 e2,h _ H G ι (Ext.refl _ _) w (by simp only [Den])⟩
  ·exact False.elim h
 ·exact False.elim h
theorem amX{X:Cx}{W:WX}(hu:X.A.units+64<cLine):jQ X W (compareOp .NotIn) (yR true):=⟨_,al6 hu,al1⟩
def IS(i:Nat)(g:MS):MS:=fun ρ Ω=>match (ρ[i]?).join with
 | some (.aD k)=>match Ω[k]? with
  | some (.lst ds)=>g (ρ.set i (some (.lst ds))) (Ω.set k .dead)
  | _=>none
 | _=>none
theorem aiO{i k:Nat}{g:MS}{ρ:Ev}{Ω:aF}{ds:List A}(h1:ρ[i]? = some (some (.aD k)))(h2:Ω[k]? = some (.lst ds)):IS i g ρ Ω=g (ρ.set i (some (.lst ds))) (Ω.set k .dead):=by
 unfold IS;rw [h1];simp only [Option.join];simp [h2]
section
variable{X:Cx}{W:WX}{st:List Stmt}{g:MS}
theorem aaZ(i:Nat)(h:jG X W st g):jG X W st (IS i g):=by
 obtain⟨t,p,s⟩:=h;refine⟨t,p,fun G ι Ω H σ ρ D w r h=>?_⟩;unfold IS at h;cases e:(ρ[i]?).join with
 | none=>rw [e]at h;exact False.elim h
 | some d =>
  rw [e]at h;cases d with
  | aD k =>
   simp only at h;cases e2:Ω[k]? with
   | none=>rw [e2]at h;exact False.elim h
   | some c =>
    rw [e2]at h;cases c with
    | lst ds =>
     obtain⟨v,h1,h2⟩:=r.2 i _ (join_some e);simp only [Den]at h2;obtain⟨p,rfl,h4⟩:=h2;obtain⟨g,xs,h5,h6⟩:=w.aD k _ p e2 h4;have x1:Ext G ι (upd G p (.lst xs)) ι:=Ext.new g _;have r1:=(r.ext x1).set i (v := .ref p) (d := .lst ds) (by simp only [Den];exact⟨p,xs,rfl,eA,h6.ext x1⟩);have e3:σ.set i (some (.ref p))=σ:=by
      apply UO;intro j
      by_cases hj:i=j
      ·subst hj;rw [eT (dI.mp h1).1,h1]
      ·rw [dZ hj]
     rw [e3]at r1;exact s _ ι _ H σ _ D (w.freeze h4 g h5) r1 (eZ.ext h x1)
    | _=>exact False.elim h
  | _=>exact False.elim h
end
end V2
namespace M
open PySem V2
noncomputable def Yg:MS :=
 (cX (zY (aN LK (aC aL (aC (cT "int") a0))) (Ly (aN LK (aC aL (aC (cT "bool") a0))))))
noncomputable def DG:List A→Mo A:=dW 1 Yg
end M
namespace V2
open PySem PySem.Spec PyProof.Rows L2
def putD{α:Type}(f:Str)(v:α):List (Str×α)→List (Str×α)
 | []=>[(f,v)]
 | (g,x)::r=>if g=f then(g,v)::r else(g,x)::putD f v r
@[simp] def Fd.cell:Fd→Option Cell
 | .lst ds=>some (.lst ds)
 | .cW kvs=>some (.cW kvs)
 | .val _=>none
theorem AZ{α:Type}{f:Str}:∀{l:List (Str×α)} {x:α},l.lookup f=some x→∃i,l[i]? = some (f,x)∧∀y,putD f y l=l.set i (f,y)
 | [],_,h=>by simp at h
 | (g,z)::r,x,h=>by
  by_cases e:g=f
  ·subst e;simp [List.lookup]at h;subst h;exact⟨0,rfl,fun y=>by simp [putD]⟩
  ·have hb:(f == g)=false:=uQ.mpr (cQ e);simp only [List.lookup,hb]at h;obtain⟨i,h1,h2⟩:=AZ h;exact⟨i+1,by simpa using h1,fun y=>by simp [putD,e,h2 y]⟩
theorem EN{α:Type}{f g:Str}{v:α}:∀{l:List (Str×α)},(putD f v l).lookup g=if g=f then some v else l.lookup g
 | []=>by
  by_cases e:g=f
  ·subst e;simp [putD]
  ·have hb:(g == f)=false:=uQ.mpr e;simp [putD,List.lookup,hb,e]
 | (k,x)::r=>by
  have ih:=EN (f:=f) (g:=g) (v:=v) (l:=r)
  by_cases h:k=f
  ·subst h
   by_cases e:g=k
   ·subst e;simp [putD]
   ·have hb:(g == k)=false:=uQ.mpr e;simp [putD,List.lookup,hb,e]
  ·by_cases e:g=k
   ·subst e;simp [putD,h]
   ·have hb:(g == k)=false:=uQ.mpr e;simp only [putD,if_neg h,List.lookup,hb];exact ih
theorem vU{α:Type}{f:Str}{v w:α}:∀{l:List (Str×α)},putD f w (putD f v l)=putD f w l
 | []=>by simp [putD]
 | (k,x)::r=>by
  by_cases h:k=f
  ·simp [putD,h]
  ·simp [putD,h,vU (l:=r)]
theorem QH{α:Type}{f:Str}{v:α}:∀{l:List (Str×α)},l.lookup f=some v→putD f v l=l
 | [],h=>by simp at h
 | (k,x)::r,h=>by
  by_cases e:k=f
  ·subst e;simp [List.lookup]at h;subst h;simp [putD]
  ·have hb:(f == k)=false:=uQ.mpr (cQ e);simp only [List.lookup,hb]at h;simp [putD,e,QH h]
section
variable{K:Frag}{G H:Hp}{ι:List Addr}{Ω:aF}
theorem uM:∀{ws:List (Str×V)} {fs:List (Str×Fd)},jM K G ι H ws fs↔ws.length=fs.length∧∀(i:Nat) (h:Str) (v:V) (g:Str) (fd:Fd),ws[i]? = some (h,v)→fs[i]? = some (g,fd)→h=g∧jS K G ι H v fd
 | [],[]=>⟨fun _=>⟨rfl,fun i h v g fd q=>by simp at q⟩,fun _=>trivial⟩
 | [],_::_=>⟨fun h=>h.elim,fun h=>by simp at h⟩
 | _::_,[]=>⟨fun h=>h.elim,fun h=>by simp at h⟩
 | (f,v)::ws,(g,d)::fs=>by
  constructor
  ·rintro⟨h1,h2,h3⟩;obtain⟨q1,q2⟩:=uM.mp h3;refine⟨by simp [q1],fun i h v' g' fd a b=>?_⟩;cases i with
   | zero=>simp at a b;obtain⟨rfl,rfl⟩:=a;obtain⟨rfl,rfl⟩:=b;exact⟨h1,h2⟩
   | succ i=>exact q2 i h v' g' fd (by simpa using a) (by simpa using b)
  ·rintro⟨q1,q2⟩;obtain⟨h1,h2⟩:=q2 0 f v g d rfl rfl;exact⟨h1,h2,uM.mpr ⟨by simpa using q1,fun i h v' g' fd a b=>q2 (i+1) h v' g' fd (by simpa using a) (by simpa using b)⟩⟩
theorem jM.look{ws:List (Str×V)}{fs:List (Str×Fd)}{f:Str}{fd:Fd}(h:jM K G ι H ws fs)(l:fs.lookup f=some fd):∃v,ws.lookup f=some v∧jS K G ι H v fd:=by
 induction fs generalizing ws with
 | nil=>simp at l
 | cons p fs ih =>
  obtain⟨g,d⟩:=p;cases ws with
  | nil=>exact h.elim
  | cons q ws =>
   obtain⟨g',v⟩:=q;obtain⟨e,h2,h3⟩:=h;subst e
   by_cases hb:(f == g')=true
   ·simp only [List.lookup,hb]at l ⊢;cases l;exact⟨v,rfl,h2⟩
   ·have hb:(f == g')=false:=by simpa using hb
    simp only [List.lookup,hb]at l ⊢;exact ih h3 l
theorem jM.am8{ws:List (Str×V)}{fs:List (Str×Fd)}{f:Str}(h:jM K G ι H ws fs)(l:fs.lookup f=none):ws.lookup f=none:=by
 induction fs generalizing ws with
 | nil =>
  cases ws with
  | nil=>rfl
  | cons q ws=>exact h.elim
 | cons p fs ih =>
  obtain⟨g,d⟩:=p;cases ws with
  | nil=>exact h.elim
  | cons q ws =>
   obtain⟨g',v⟩:=q;obtain⟨e,h2,h3⟩:=h;subst e
   by_cases hb:(f == g')=true
   ·simp only [List.lookup,hb]at l;cases l
   ·have hb:(f == g')=false:=by simpa using hb
    simp only [List.lookup,hb]at l ⊢;exact ih h3 l
theorem jM.put{ws:List (Str×V)}{fs:List (Str×Fd)}{f:Str}{fd:Fd}{v:V}(h:jM K G ι H ws fs)(d:jS K G ι H v fd):jM K G ι H (jE f v ws) (putD f fd fs):=by
 induction fs generalizing ws with
 | nil =>
  cases ws with
  | nil=>exact⟨rfl,d,trivial⟩
  | cons q ws=>exact h.elim
 | cons p fs ih =>
  obtain⟨g,x⟩:=p;cases ws with
  | nil=>exact h.elim
  | cons q ws =>
   obtain⟨g',v'⟩:=q;obtain⟨e,h2,h3⟩:=h;subst e
   by_cases hg:g'=f
   ·simp only [jE,putD,if_pos hg];exact⟨rfl,d,h3⟩
   ·simp only [jE,putD,if_neg hg];exact⟨rfl,h2,ih h3⟩
theorem jM.len{ws:List (Str×V)}{fs:List (Str×Fd)}(h:jM K G ι H ws fs):ws.length=fs.length:=(uM.mp h).1
theorem jS.alY{v:V}{fd:Fd}{c:Cell}(h:jS K G ι H v fd)(hc:fd.cell=some c):∃b,v = .ref b∧b∉ι∧(∃o,H b=some o)∧rH K G ι H b c:=by
 cases fd with
 | val a=>cases hc
 | lst ds=>cases hc;obtain⟨b,xs,h1,h2,h3,h4,h5⟩:=h;exact⟨b,h1,h3,⟨_,h4⟩,h2,xs,h4,h5⟩
 | cW kvs=>cases hc;obtain⟨b,ws,h1,h2,h3,h4,h5,h6⟩:=h;exact⟨b,h1,h3,⟨_,h4⟩,h2,ws,h4,h5,h6⟩
theorem jS.AQ{b:Addr}{fd:Fd}{c:Cell}(hc:fd.cell=some c)(hb:b∉ι)(h:rH K G ι H b c):jS K G ι H (.ref b) fd:=by
 cases fd with
 | val a=>cases hc
 | lst ds=>cases hc;obtain⟨h1,xs,h2,h3⟩:=h;exact⟨b,xs,rfl,h1,hb,h2,h3⟩
 | cW kvs=>cases hc;obtain⟨h1,ws,h2,h3,h4⟩:=h;exact⟨b,ws,rfl,h1,hb,h2,h3,h4⟩
theorem Fd.avU{fd:Fd}{c:Cell}(hc:fd.cell=some c):fd.own=true:=by cases fd <;> first | rfl | cases hc
theorem Fd.avV{fd:Fd}{c:Cell}(hc:fd.cell=some c):c.noOwn=true:=by cases fd <;> cases hc <;> rfl
theorem jS.lend{b:Addr}{v:V}{fd:Fd}(h:jS K G ι H v fd)(hb:fd.own=true→v ≠ .ref b):jS K G (ι++[b]) H v fd:=by
 cases fd with
 | val a=>exact Den.ext (Ext.cell b) h
 | lst ds =>
  obtain⟨b',xs,h1,h2,h3,h4,h5⟩:=h;exact⟨b',xs,h1,h2,by simp;exact⟨h3,fun e=>hb rfl (by rw [h1,e])⟩,h4,h5.ext (Ext.cell b)⟩
 | cW kvs =>
  obtain⟨b',ws,h1,h2,h3,h4,h5,h6⟩:=h;exact⟨b',ws,h1,h2,by simp;exact⟨h3,fun e=>hb rfl (by rw [h1,e])⟩,h4,h5,h6.ext (Ext.cell b)⟩
theorem Wd.unfold{s:Nat}{cls f:Str}{fs:List (Str×Fd)}{fd:Fd}{c:Cell}(w:Wd K G ι Ω H)(hs:Ω[s]? = some (.ins cls fs))(hf:fs.lookup f=some fd)(hc:fd.cell=some c) :
  ∃b,Wd K G (ι++[b]) (Ω.set s (.ins cls (putD f (.val (.aD Ω.length)) fs))++[c]) H:=by
 obtain⟨a,ha⟩:=w.addr hs;obtain⟨g,C,dx,ws,h0,h1,h2⟩:=w.aD s _ a hs ha;obtain⟨i0,e1,e2⟩:=AZ hf;obtain⟨q1,q2⟩:=uM.mp h2;have KL:i0<fs.length:=(dI.mp e1).1;obtain⟨⟨k0,v0⟩,e3⟩:∃p,ws[i0]? = some p:=⟨ws[i0]'(by omega),eX _⟩;obtain⟨rfl,o0⟩:=q2 i0 k0 v0 f fd e3 e1;obtain⟨b,rfl,hb,⟨o,ho⟩,hC⟩:=o0.alY hc;have Qa:jI H ι Ω s i0 b:=⟨a,cls,fs,C,dx,ws,_,_,fd,ha,hs,h1,e1,Fd.avU hc,e3⟩;have mZ:s<Ω.length:=(dI.mp hs).1;have hι:∀k,k<Ω.length→(ι++[b])[k]? = ι[k]?:=fun k hk=>jL (by rw [w.len];exact hk);have hΩ:∀k,k<Ω.length→(Ω.set s (.ins cls (putD k0 (.val (.aD Ω.length)) fs))++[c])[k]? = (Ω.set s (.ins cls (putD k0 (.val (.aD Ω.length)) fs)))[k]?:=fun k hk=>jL (by simpa using hk);refine⟨b,w.sub,?_,by simp [w.len],fun x hx=>?_,fun k c' a' z1 z2=>?_,fun b' k i k' i' z1 z2=>?_⟩
 ·rw [UM];exact⟨w.inj,by simp,fun x hx y hy=>by simp at hy;subst hy;exact fun e=>hb (e ▸ hx)⟩
 ·rcases oZ.mp hx with h | h
  ·exact w.live x h
  ·simp at h;subst h;exact⟨o,ho⟩
 ·by_cases hk:k<Ω.length
  ·rw [hι k hk]at z2;rw [hΩ k hk]at z1
   by_cases pJ:k=s
   ·subst pJ;rw [eT mZ]at z1;cases z1;rw [ha]at z2;cases z2;refine⟨g,C,dx,ws,h0,h1,uM.mpr ⟨by rw [e2];simpa using q1,fun j h v g' fd' y1 y2=>?_⟩⟩;rw [e2]at y2
    by_cases hj:j=i0
    ·subst hj;rw [eT KL]at y2;cases y2;rw [e3]at y1;cases y1;refine⟨rfl,?_⟩;simp only [jS,Den];exact⟨b,rfl,by rw [← w.len];simp⟩
    ·rw [dZ (cQ hj)]at y2;obtain⟨r1,r2⟩:=q2 j h v g' fd' y1 y2;refine⟨r1,r2.lend fun ow ev=>hj ?_⟩;subst ev;exact(w.sep b _ j _ i0 ⟨a,cls,fs,C,dx,ws,_,_,fd',ha,hs,h1,y2,ow,y1⟩ Qa).2
   ·rw [dZ (cQ pJ)]at z1;have q:=w.aD k c' a' z1 z2;cases c' with
    | lst ds=>obtain⟨y1,xs,y2,y3⟩:=q;exact⟨y1,xs,y2,y3.ext (Ext.cell b)⟩
    | cW kvs=>obtain⟨y1,nL,y2,y3,y4⟩:=q;exact⟨y1,nL,y2,y3,y4.ext (Ext.cell b)⟩
    | ins oW iB =>
     obtain⟨y0,C',rA,nL,y1,y2,y3⟩:=q;obtain⟨p1,p2⟩:=uM.mp y3;refine⟨y0,C',rA,nL,y1,y2,uM.mpr ⟨p1,fun j h v g' fd' y4 y5=>?_⟩⟩;obtain⟨r1,r2⟩:=p2 j h v g' fd' y4 y5;refine⟨r1,r2.lend fun ow ev=>pJ ?_⟩;subst ev;exact(w.sep b k j s i0 ⟨a',oW,iB,C',rA,nL,_,_,fd',z2,z1,y2,y5,ow,y4⟩ Qa).1
    | tab x pos qual=>exact q
    | dead=>trivial
  ·have kM:k=Ω.length:=by
    have:=(dI.mp z1).1;simp at this;omega
   subst kM;rw [← w.len]at z2;simp at z2;subst z2;simp at z1;subst z1;cases fd with
   | val x=>cases hc
   | lst ds=>cases hc;obtain⟨y1,xs,y2,y3⟩:=hC;exact⟨y1,xs,y2,y3.ext (Ext.cell b)⟩
   | cW kvs=>cases hc;obtain⟨y1,nL,y2,y3,y4⟩:=hC;exact⟨y1,nL,y2,y3,y4.ext (Ext.cell b)⟩
 ·have back:∀{k i},jI H (ι++[b]) (Ω.set s (.ins cls (putD k0 (.val (.aD Ω.length)) fs))++[c]) k i b'→jI H ι Ω k i b':=fun{k i} h=>by
   have Fh:=h;obtain⟨a',oW,iB,C',rA,nL,g',h',fd',y1,y2,y3,y4,y5,y6⟩:=h
   by_cases hk:k<Ω.length
   ·rw [hι k hk]at y1;rw [hΩ k hk]at y2
    by_cases pJ:k=s
    ·subst pJ;rw [eT mZ]at y2;cases y2;rw [ha]at y1;cases y1;rw [h1]at y3;cases y3;rw [e2]at y4
     by_cases hj:i=i0
     ·subst hj;rw [eT KL]at y4;cases y4;cases y5
     ·rw [dZ (cQ hj)]at y4;exact⟨a,_,fs,C,dx,ws,g',h',fd',ha,hs,h1,y4,y5,y6⟩
    ·rw [dZ (cQ pJ)]at y2;exact⟨a',oW,iB,C',rA,nL,g',h',fd',y1,y2,y3,y4,y5,y6⟩
   ·have kM:k=Ω.length:=by
     have:=(dI.mp y2).1;simp at this;omega
    subst kM;exact(Fh.no (by simp) (Fd.avV hc)).elim
  exact w.sep b' k i k' i' (back z1) (back z2)
theorem nI.get{n:Nat}:∀{fs:List (Str×Fd)} {i:Nat} {p:Str×Fd},nI n fs→fs[i]? = some p→mQ n p.2
 | [],_,_,_,h=>by simp at h
 | _::_,0,_,c,h=>by simp at h;subst h;exact c.1
 | _::fs,i+1,_,c,h=>nI.get (fs:=fs) c.2 (by simpa using h)
theorem Wd.fold{s:Nat}{cls f:Str}{fs:List (Str×Fd)}{fd:Fd}{c:Cell}{Ωa:aF}(w:Wd K G ι (Ωa++[c]) H)(hs:Ωa[s]? = some (.ins cls fs))(hf:fs.lookup f=some (.val (.aD Ωa.length)))(hc:fd.cell=some c)
  (hk:∀k c',k≠s→Ωa[k]? = some c'→DM Ωa.length c') (hfs:nI Ωa.length (putD f fd fs)):Wd K G (ι.take Ωa.length) (Ωa.set s (.ins cls (putD f fd fs))) H:=by
 have mZ:s<Ωa.length:=(dI.mp hs).1;have hlen:ι.length=Ωa.length+1:=by rw [w.len];simp
 have hΩ:∀k,k<Ωa.length→(Ωa++[c])[k]? = Ωa[k]?:=fun k hk=>jL hk;have hι:∀k,k<Ωa.length→(ι.take Ωa.length)[k]? = ι[k]?:=fun k hk=>by rw [NI,if_pos hk]
 obtain⟨b,hb⟩:∃b,ι[Ωa.length]? = some b:=⟨ι[Ωa.length]'(by omega),eX _⟩;have eι:ι=ι.take Ωa.length++[b]:=by
  have:=List.take_append_getElem (l:=ι) (i:=Ωa.length) (by omega);rw [eX (show Ωa.length<ι.length by omega)]at hb;cases hb;rw [List.take_append_getElem,NF (by omega)]
 have hbn:b∉ι.take Ωa.length:=fun z=>by
  have nd:=w.inj;rw [eι,UM]at nd;exact nd.2.2 b z b (by simp) rfl
 have sub:∀x,x∉ι→x∉ι.take Ωa.length:=fun x hx z=>hx (Ji z);have ha:∃a,ι[s]? = some a:=w.addr (show(Ωa++[c])[s]? = some (.ins cls fs)by rw [hΩ s mZ];exact hs);obtain⟨a,ha⟩:=ha;obtain⟨g,C,dx,ws,h0,h1,h2⟩:=w.aD s _ a (by rw [hΩ s mZ];exact hs) ha;obtain⟨i0,e1,e2⟩:=AZ hf;obtain⟨q1,q2⟩:=uM.mp h2;have KL:i0<fs.length:=(dI.mp e1).1;have hcb:=w.aD Ωa.length c b (by simp) hb;refine⟨w.sub,w.inj.sublist (List.take_sublist ..),by simp [hlen],fun x hx=>w.live x (Ji hx),fun k c' a' z1 z2=>?_,fun b' k i k' i' z1 z2=>?_⟩
 ·have pW:k<Ωa.length:=by simpa using(dI.mp z1).1
  rw [hι k pW]at z2
  by_cases pJ:k=s
  ·subst pJ;rw [eT mZ]at z1;cases z1;rw [ha]at z2;cases z2;refine⟨g,C,dx,ws,h0,h1,uM.mpr ⟨by rw [e2];simpa using q1,fun j h v g' fd' y1 y2=>?_⟩⟩;have Xd:mQ Ωa.length fd':=hfs.get y2;rw [e2]at y2
   by_cases hj:j=i0
   ·subst hj;rw [eT KL]at y2;cases y2;obtain⟨r1,r2⟩:=q2 j h v _ _ y1 e1;refine⟨r1,?_⟩;simp only [jS,Den]at r2;obtain⟨b2,rfl,kZ⟩:=r2;rw [hb]at kZ;cases kZ;exact jS.AQ hc hbn (hcb.cut hι sub (by cases fd <;> cases hc <;> exact Xd))
   ·rw [dZ (cQ hj)]at y2;obtain⟨r1,r2⟩:=q2 j h v g' fd' y1 y2;exact⟨r1,r2.cut hι sub Xd⟩
  ·rw [dZ (cQ pJ)]at z1;exact(w.aD k c' a' (by rw [hΩ k pW];exact z1) z2).cut hι sub (hk k c' pJ z1)
 ·
  have back:∀{k i},jI H (ι.take Ωa.length) (Ωa.set s (.ins cls (putD f fd fs))) k i b'→(jI H ι (Ωa++[c]) k i b'∧b'∉ι)∨(k=s∧i=i0∧b'=b):=fun{k i} h=>by
   obtain⟨a',oW,iB,C',rA,nL,g',h',fd',y1,y2,y3,y4,y5,y6⟩:=h;have pW:k<Ωa.length:=by simpa using(dI.mp y2).1
   rw [hι k pW]at y1;have out:∀{oW iB nL C' rA fd' g' h'},(Ωa++[c])[k]? = some (.ins oW iB)→H a'=some (.ins C' rA nL)→iB[i]? = some (g',fd')→fd'.own=true→nL[i]? = some (h',V.ref b')→b'∉ι:=fun{_ _ _ _ _ fdx _ _} x1 x2 x3 x4 x5=>by
    obtain⟨_,_,_,ws2,_,p1,p2⟩:=w.aD k _ a' x1 y1;rw [x2]at p1;cases p1;obtain⟨_,r⟩:=(uM.mp p2).2 i _ _ _ _ x5 x3;cases fdx with
    | val x=>cases x4
    | lst ds=>obtain⟨b3,_,t1,_,t2,_⟩:=r;cases t1;exact t2
    | cW kvs=>obtain⟨b3,_,t1,_,t2,_⟩:=r;cases t1;exact t2
   by_cases pJ:k=s
   ·subst pJ;rw [eT mZ]at y2;cases y2;rw [ha]at y1;cases y1;rw [h1]at y3;cases y3;rw [e2]at y4
    by_cases hj:i=i0
    ·subst hj
     right
     rw [eT KL]at y4;cases y4;obtain⟨r1,r2⟩:=q2 i _ _ _ _ y6 e1;simp only [jS,Den]at r2;obtain⟨b2,eb,kZ⟩:=r2;rw [hb]at kZ;cases kZ;cases eb;exact⟨rfl,rfl,rfl⟩
    ·rw [dZ (cQ hj)]at y4;have BL:(Ωa++[c])[k]? = some (.ins cls fs):=by rw [hΩ k pW];exact hs
     exact .inl ⟨⟨a,_,fs,C,dx,ws,g',h',fd',ha,BL,h1,y4,y5,y6⟩,out BL h1 y4 y5 y6⟩
   ·rw [dZ (cQ pJ)]at y2;have BL:(Ωa++[c])[k]? = some (.ins oW iB):=by rw [hΩ k pW];exact y2
    exact .inl ⟨⟨a',oW,iB,C',rA,nL,g',h',fd',y1,BL,y3,y4,y5,y6⟩,out BL y3 y4 y5 y6⟩
  have Ui:b∈ι:=nH hb
  rcases back z1 with⟨x1,x2⟩ | ⟨x1,x2,x3⟩ <;> rcases back z2 with⟨y1,y2⟩ | ⟨y1,y2,y3⟩
  ·exact w.sep b' k i k' i' x1 y1
  ·subst y3;exact absurd Ui x2
  ·subst x3;exact absurd Ui y2
  ·exact⟨x1.trans y1.symm,x2.trans y2.symm⟩
end
def TV(s:Nat)(f:Str)(Ω Ω1:aF):Prop:=∃cls fs fd c,Ω[s]? = some (.ins cls fs)∧fs.lookup f=some fd∧fd.cell=some c∧Ω1=Ω.set s (.ins cls (putD f (.val (.aD Ω.length)) fs))++[c]
def Folds(s:Nat)(f:Str)(n:Nat)(Ω2 Ω':aF):Prop:=∃Ωa c cls fs fd,Ω2=Ωa++[c]∧Ωa.length=n∧Ωa[s]? = some (.ins cls fs)∧fs.lookup f=some (.val (.aD n))∧fd.cell=some c ∧
 (∀k c',k≠s→Ωa[k]? = some c'→DM n c')∧nI n (putD f fd fs)∧Ω'=Ωa.set s (.ins cls (putD f fd fs))
structure DL(Ω:aF)(ρ:Ev):Prop where
 aD:∀(k:Nat) (c:Cell),Ω[k]? = some c→DM Ω.length c
 env:∀(i:Nat) (d:A),ρ[i]? = some (some d)→Cl Ω.length d
section
variable{K:Frag}{G H:Hp}{ι:List Addr}{Ω Ω1 Ω2 Ω':aF}{σ:L2.St}{ρ:Ev}{W:WX}{s:Nat}{f:Str}
theorem Wd.Gs(w:Wd K G ι Ω H)(r:iN K G ι σ ρ):DL Ω ρ where
 aD:=fun k c h=>by
  obtain⟨a,ha⟩:=w.addr h;have:=(w.aD k c a h ha).cl;rwa [w.len]at this
 env:=fun i d h=>by
  obtain⟨v,_,q⟩:=r.2 i d h;have:=q.cl;rwa [w.len]at this
theorem Wd.Mj(w:Wd K G ι Ω H)(h:TV s f Ω Ω1):∃b,Wd K G (ι++[b]) Ω1 H:=by
 obtain⟨cls,fs,fd,c,h1,h2,h3,rfl⟩:=h;exact w.unfold h1 h2 h3
theorem Vt{G':Hp}{ι':List Addr}{b:Addr}{n:Nat}(hl:ι.length=n)(e:Ext G (ι++[b]) G' ι'):Ext G ι G' (ι'.take n):=⟨e.same,fun k x h=>by
 have hk:=(dI.mp h).1;rw [NI,if_pos (by omega)];exact e.pre k x (by rw [jL hk];exact h)⟩
theorem Wd.Vl{n:Nat}(w:Wd K G ι Ω2 H)(h:Folds s f n Ω2 Ω'):Wd K G (ι.take n) Ω' H:=by
 obtain⟨Ωa,c,cls,fs,fd,rfl,rfl,h3,h4,h5,h6,h7,rfl⟩:=h;exact w.fold h3 h4 h5 h6 h7
theorem Mr{ι':List Addr}{n:Nat}:∀k,k<n→(ι'.take n)[k]? = ι'[k]?:=fun k hk=>by rw [NI,if_pos hk]
theorem aj9{α β:Type}{rel:Rl α β}{cl:Nat→α→Prop}(RC:∀(G:Hp) (ι ι':List Addr) (n:Nat) (v:β) (a:α),(∀k,k<n→ι[k]? = ι'[k]?)→rel G ι' v a→cl n a→rel G ι v a)
  {b:Addr} {Q:β→Hp→Prop} {a:α} (w:Wd K G ι Ω H) (hF:Folds s f Ω.length Ω2 Ω') (ha:cl Ω.length a) (h:bQ K rel W G ι σ Q (some (.ok a,Ω'))):bQ K rel W G (ι++[b]) σ Q (some (.ok a,Ω2)):=by
 intro v H' G' ι' e w' d;exact h v H' G' (ι'.take Ω.length) (Vt w.len e) (w'.Vl hF) (RC _ _ _ _ _ _ Mr d ha)
theorem Vz{σ':L2.St}{ρ':Ev}{G':Hp}{ι':List Addr}{n:Nat}(r:iN K G' ι' σ' ρ')(hc:∀(i:Nat) (d:A),ρ'[i]? = some (some d)→Cl n d):iN K G' (ι'.take n) σ' ρ' :=
 ⟨r.1,fun i d h=>let ⟨v,h1,h2⟩:=r.2 i d h; ⟨v,h1,h2.cut Mr (hc i d h)⟩⟩
theorem akA{b:Addr}{D:Ends}{ρ':Ev}(w:Wd K G ι Ω H)(hF:Folds s f Ω.length Ω2 Ω')(hc:∀(i:Nat) (d:A),ρ'[i]? = some (some d)→Cl Ω.length d)(h:eZ K W G ι D (some (.nx,ρ',Ω'))):eZ K W G (ι++[b]) D (some (.nx,ρ',Ω2)):=by
 intro σ' H' G' ι' e w' r';exact h σ' H' G' (ι'.take Ω.length) (Vt w.len e) (w'.Vl hF) (Vz r' hc)
end
section
variable{X:Cx}{W:WX}{e:Expr}{tg:Expr}{st:Stmt}{g d:Ev→Mo A}{gb db:Ev→Mo Bool}{gs ds:MS}{gt dt:A→MS}
theorem WK(h:VE X W e g)(hd:∀ρ Ω r,DL Ω ρ→d ρ Ω=some r→∃s f Ω1 a Ω2,TV s f Ω Ω1∧g ρ Ω1=some (.ok a,Ω2)∧Folds s f Ω.length Ω2 r.2∧Cl Ω.length a∧r.1 = .ok a):VE X W e d:=by
 obtain⟨t,p,sm⟩:=h;refine⟨t,p,fun G ι Ω H σ ρ Q w r h=>?_⟩;cases e:d ρ Ω with
 | none=>rw [e]at h;exact h.elim
 | some q =>
  obtain⟨s,f,Ω1,a,Ω2,h1,h2,h3,h4,h5⟩:=hd ρ Ω q (w.Gs r) e;obtain⟨b,wb⟩:=w.Mj h1;obtain⟨q1,q2⟩:=q;simp only at h3 h5;subst h5;rw [e]at h;refine sm G (ι++[b]) Ω1 H σ ρ Q wb (r.ext (Ext.cell b)) ?_;rw [h2];exact aj9 (rel:=Den X.K) (cl:=Cl) (fun _ _ _ _ _ _ h1 h2 h3=>h2.cut h1 h3) w h3 h4 h
theorem aa3(h:VS X W st gs)(hd:∀ρ Ω r,DL Ω ρ→ds ρ Ω=some r→∃s f Ω1 Ω2,TV s f Ω Ω1∧gs ρ Ω1=some (.nx,r.2.1,Ω2)∧Folds s f Ω.length Ω2 r.2.2∧(∀(i:Nat) (d:A),r.2.1[i]? = some (some d)→Cl Ω.length d)∧r.1 = .nx):VS X W st ds:=by
 obtain⟨t,p,sm⟩:=h;refine⟨t,p,fun G ι Ω H σ ρ D w r h=>?_⟩;cases e:ds ρ Ω with
 | none=>rw [e]at h;exact h.elim
 | some q =>
  obtain⟨s,f,Ω1,Ω2,h1,h2,h3,h4,h5⟩:=hd ρ Ω q (w.Gs r) e;obtain⟨b,wb⟩:=w.Mj h1;obtain⟨q1,q2,q3⟩:=q;simp only at h2 h3 h4 h5;subst h5;rw [e]at h;refine sm G (ι++[b]) Ω1 H σ ρ D wb (r.ext (Ext.cell b)) ?_;rw [h2];exact akA w h3 h4 h
end
def eM(K:Frag)(cs:List Str)(f:Str):Prop:=∀cls∈cs,∃C,nsIn K mainGlobals cls=some (some (.ref C))∧nY K C∧CV K C f
@[simp] def Fo(cs:List Str)(f:Str)(a:A):Mo A:=fun Ω=>match a with
 | .aD s=>match Ω[s]? with
  | some (.ins cls fs)=>if cls∈cs then match fs.lookup f with
   | some (.val b)=>some (.ok b,Ω)
   | _=>none else none
  | _=>none
 | _=>none
@[simp] def bV(cs:List Str)(f:Str)(fe:Ev→Mo A):Ev→Mo A:=fun ρ=>mb (fe ρ) (Fo cs f)
@[simp] def sV(cs:List Str)(f:Str)(fo fv:Ev→Mo A):MS:=fun ρ=>sM (fv ρ) ρ fun b=>sM (fo ρ) ρ fun a Ω=>match a with
 | .aD s=>match Ω[s]? with
  | some (.ins cls fs)=>if cls∈cs∧fs.length<1000 then some (.nx,ρ,Ω.set s (.ins cls (putD f (.val b) fs)))else none
  | _=>none
 | _=>none
section
variable{K:Frag}{G H:Hp}{ι:List Addr}{Ω:aF}
theorem Wd.ins(w:Wd K G ι Ω H){s:Nat}{cls:Str}{fs:List (Str×Fd)}{v:V}(h:Ω[s]? = some (.ins cls fs))(d:Den K G ι v (.aD s)):∃a C dx,∃ws:List (Str×V),v = .ref a∧ι[s]? = some a∧G a=none∧nsIn K mainGlobals cls=some (some (.ref C))∧H a=some (.ins C dx ws)∧jM K G ι H ws fs:=by
 simp only [Den]at d;obtain⟨a,rfl,ha⟩:=d;obtain⟨g,C,dx,ws,h1,h2,h3⟩:=w.aD s _ a h ha;exact⟨a,C,dx,ws,rfl,ha,g,h1,h2,h3⟩
theorem Pc{f:Str}{v:V}{b:A}:∀{ws:List (Str×V)} {fs:List (Str×Fd)} {i:Nat} {g h:Str} {fd:Fd} {x:V},jM K G ι H ws fs→(putD f (.val b) fs)[i]? = some (g,fd)→fd.own=true→(jE f v ws)[i]? = some (h,x)→fs[i]? = some (g,fd)∧ws[i]? = some (h,x)
 | [],[],i,g,h,fd,x,_,y,o,_=>by
  cases i with
  | zero=>simp [putD]at y;obtain⟨_,rfl⟩:=y;cases o
  | succ i=>simp [putD]at y
 | [],_::_,_,_,_,_,_,q,_,_,_=>q.elim
 | _::_,[],_,_,_,_,_,q,_,_,_=>q.elim
 | (k,u)::ws,(k',d)::fs,i,g,h,fd,x,q,y,o,z=>by
  obtain⟨rfl,q2,q3⟩:=q
  by_cases e:k=f
  ·simp only [putD,jE,if_pos e]at y z;cases i with
   | zero=>simp at y;obtain⟨_,rfl⟩:=y;cases o
   | succ i=>exact⟨by simpa using y,by simpa using z⟩
  ·simp only [putD,jE,if_neg e]at y z;cases i with
   | zero=>exact⟨by simpa using y,by simpa using z⟩
   | succ i =>
    have:=Pc (f:=f) (v:=v) (b:=b) (i:=i) q3 (by simpa using y) o (by simpa using z);exact⟨by simpa using this.1,by simpa using this.2⟩
theorem Wd.aiC(w:Wd K G ι Ω H){s:Nat}{cls f:Str}{fs:List (Str×Fd)}{a C dx:Addr}{ws:List (Str×V)}{v:V}{b:A}(h:Ω[s]? = some (.ins cls fs))(ha:ι[s]? = some a)(hg:G a=none)(h0:nsIn K mainGlobals cls=some (some (.ref C)))
  (h1:H a=some (.ins C dx ws)) (h2:jM K G ι H ws fs) (d:Den K G ι v b):Wd K G ι (Ω.set s (.ins cls (putD f (.val b) fs))) (upd H a (.ins C dx (jE f v ws))):=by
 have mZ:s<Ω.length:=(dI.mp h).1;have ho:∀b o,b∉ι→G b=none→H b=some o→b∉ι∧G b=none∧upd H a (.ins C dx (jE f v ws)) b=some o:=fun b o x y z=>by
  have nb:b≠a:=fun e=>by subst e;exact x (ET ha)
  exact⟨x,y,by rw [bP nb];exact z⟩
 have CB:jM K G ι (upd H a (.ins C dx (jE f v ws))) ws fs:=h2.map fun _ _ q=>q.mono (Ext.refl _ _) ho;refine⟨fun b u q=>?_,w.inj,by simp [w.len],fun b hb=>?_,fun j c' b z1 z2=>?_,fun b2 j i j' i' z1 z2=>?_⟩
 ·have e:b≠a:=fun e=>by subst e;rw [hg]at q;cases q
  rw [bP e];exact w.sub _ _ q
 ·by_cases e:b=a
  ·subst e;exact⟨_,eA⟩
  ·rw [bP e];exact w.live b hb
 ·by_cases hj:j=s
  ·subst hj;rw [eT mZ]at z1;cases z1;rw [ha]at z2;cases z2;exact⟨hg,C,dx,_,h0,eA,CB.put d⟩
  ·rw [dZ (cQ hj)]at z1;have eW:b≠a:=fun e=>by subst e;exact hj (AS w.inj z2 ha)
   exact(w.aD j c' b z1 z2).mono (Ext.refl _ _) rfl (bP eW) ho
 ·have back:∀{j i},jI (upd H a (.ins C dx (jE f v ws))) ι (Ω.set s (.ins cls (putD f (.val b) fs))) j i b2→jI H ι Ω j i b2:=fun{j i} q=>by
   obtain⟨a',oW,iB,C',rA,nL,g',h',fd',y1,y2,y3,y4,y5,y6⟩:=q
   by_cases hj:j=s
   ·subst hj;rw [eT mZ]at y2;cases y2;rw [ha]at y1;cases y1;rw [eA]at y3;cases y3;have pi:=Pc h2 y4 y5 y6;exact⟨a,cls,fs,C,dx,ws,g',h',fd',ha,h,h1,pi.1,y5,pi.2⟩
   ·rw [dZ (cQ hj)]at y2;have eW:a'≠a:=fun e=>by subst e;exact hj (AS w.inj y1 ha)
    rw [bP eW]at y3;exact⟨a',oW,iB,C',rA,nL,g',h',fd',y1,y2,y3,y4,y5,y6⟩
  exact w.sep b2 j i j' i' (back z1) (back z2)
end
section
variable{X:Cx}{W:WX}{e o value:Expr}{f:Str}{cs:List Str}{pos pos':Pos}{fe fo fv:Ev→Mo A}
theorem kT(h:VE X W e fe)(hc:eM X.K cs f)(hb:attributeBase e f X.env (eval e X.env)=eval e X.env:=by rfl):VE X W (.Attribute e f pos) (bV cs f fe):=by
 obtain⟨t,p,s⟩:=h;refine⟨_,alF p hb,fun G ι Ω H σ ρ Q w r h=>?_⟩;refine s G ι Ω H σ ρ _ w r (bQ.mb h fun a Ω1 v H1 G1 ι1 x1 w1 d1 h1=>?_);unfold Fo at h1;cases a with
 | aD k =>
  simp only at h1;cases e2:Ω1[k]? with
  | none=>rw [e2]at h1;exact h1.elim
  | some c =>
   rw [e2]at h1;cases c with
   | ins cls fs =>
    simp only at h1
    by_cases gG:cls∈cs
    ·rw [if_pos gG]at h1;cases e3:fs.lookup f with
     | none=>rw [e3]at h1;exact h1.elim
     | some fd =>
      rw [e3]at h1;cases fd with
      | val b =>
       obtain⟨a,C,dx,ws,rfl,ha,hg,h0,hH,hF⟩:=w1.ins e2 d1;obtain⟨C',q0,q1,q2⟩:=hc cls gG;rw [h0]at q0;cases q0;obtain⟨u,l,du⟩:=hF.look e3;exact⟨a,C,dx,ws,u,rfl,hH,q1,q2,l,h1 u H1 G1 ι1 (Ext.refl _ _) w1 du⟩
      | _=>exact h1.elim
    ·rw [if_neg gG]at h1;exact h1.elim
   | _=>exact h1.elim
 | _=>exact h1.elim
theorem xO(ho:VE X W o fo)(hv:VE X W value fv)(hc:eM X.K cs f)(hs:swapsWith value (some (.Attribute o f pos')) pos.line X.env=pure false:=by rfl):VS X W (.Assign [.Attribute o f pos'] value pos) (sV cs f fo fv):=by
 obtain⟨t,p,s⟩:=ho;obtain⟨u,q,z⟩:=hv;refine⟨_,aj0 p q hs,fun G ι Ω H σ ρ D w r h=>?_⟩;refine z G ι Ω H σ ρ _ w r (eZ.sM h r fun b Ω1 y H1 G1 ι1 x1 w1 d1 h1=>?_);refine s G1 ι1 Ω1 H1 σ ρ _ w1 (r.ext x1) (eZ.sM h1 (r.ext x1) fun a Ω2 v H2 G2 ι2 x2 w2 d2 h2=>?_);cases a with
 | aD k =>
  simp only at h2;cases e2:Ω2[k]? with
  | none=>rw [e2]at h2;exact h2.elim
  | some c =>
   rw [e2]at h2;cases c with
   | ins cls fs =>
    simp only at h2
    by_cases gG:cls∈cs∧fs.length<1000
    ·rw [if_pos gG]at h2;obtain⟨a,C,dx,ws,rfl,ha,hg,h0,hH,hF⟩:=w2.ins e2 d2;obtain⟨C',q0,q1,q2⟩:=hc cls gG.1;rw [h0]at q0;cases q0;refine⟨a,C,dx,ws,rfl,hH,q1,q2,by rw [hF.len];exact gG.2,?_⟩;exact sY (w2.aiC e2 ha hg h0 hH hF (d1.ext x2)) ((r.ext x1).ext x2) h2
    ·rw [if_neg gG]at h2;exact h2.elim
   | _=>exact h2.elim
 | _=>exact h2.elim
end
end V2
namespace L2
open PySem PySem.Spec PyProof.Rows
section
variable{X:Cx}{W:WX}{k:Nat}{f C:Addr}{fd:FuncData}{ps:List Str}{sp:Sp}{dvs:List V}{ds:List Value}{x m:Str}{p pos apos:Pos}{e o:Expr}{es:List Expr}{ta:TE}{t:TA}
theorem Oh{pins:List (Addr×Obj)}{σ:St}{H:Hp}{s:Shared}{Q:VK}{us:List Value}{vs:List V}(T:qC X W)(F:iG X.prog X.w X.K X.mg X.base (pB X.prog X.w) k f fd ps sp)(hr:cH k X.A)(hb:Binds X.K fd ps ds)(hd:Vals dvs ds)
  (I:Inv X pins σ H s) (r:Vals vs us) (h:sp (vs++dvs) H Q fun cls dx H'=>W σ cls dx H'):wpAny (model X.prog X.w) X.A (call (.ref f) us) (EP X pins σ Q) X.xe s:=by
 have r2:Vals (vs++dvs) (us++ds):=r.append hd;have hl:(us++ds).length=ps.length:=by rw [← r2.length];exact F.len _ _ _ _ h
 refine xM (yX (F.run X.A X.stack s H ⟨us,[]⟩ (us++ds) (vs++dvs) Q _ hr I.GC (hb s us I.gU hl) r2 h) fun r s' hq=>?_);cases r with
 | error ev =>
  obtain⟨a,cls,dx,H',rfl,os,bare,un,aH,ex,q'⟩:=hq;have I2:=(I.GI os un aH bare (fun b z=>absurd z (by simp))).ZZ;exact T.to _ _ ⟨σ,H',a,cls,dx,rfl,I2,(ex.first I T.ex).any,q'⟩
 | ok fl =>
  cases fl with
  | ret u=>exact I.after hq
  | next=>exact False.elim hq
  | brk=>exact False.elim hq
  | cont=>exact False.elim hq
def XW(X:Cx)(W:WX)(m:Str)(ta:TE)(t:TA):TE:=fun σ H Q=>ta σ H fun x H1=>∃a C dx fs k f fd ps ds dvs sp,x = .ref a∧H1 a=some (.ins C dx fs)∧fs.lookup m=none∧nY X.K C∧Meth X.K C m f ∧
 iG X.prog X.w X.K X.mg X.base (pB X.prog X.w) k f fd ps sp∧cH k X.A∧Binds X.K fd ps ds∧Vals dvs ds∧t σ H1 fun vs H2=>sp (.ref a::vs++dvs) H2 Q fun cls dx H'=>W σ cls dx H'
theorem ak6{pl:Sem Bool}(T:qC X W)(he:PE X o ta)(ha:PA X (e::es) t)
  (oQ:starEach (e::es) X.env=(false,eval e X.env)::starEach es X.env:=by rfl) (fJ:(backTo pos (starEach es X.env)).any (·.1)=false:=by rfl)
  (ht:eval (.Call (.Attribute o m apos) (e::es) [] pos) X.env=(do
   let ov ← eval o X.env
   standAt apos.atName
   let (f,first) ← holding [ov] (getMethod ov m pl)
   callWith pos f first (backTo pos (starEach (e::es) X.env)) (backToKw pos (keywordEach [] X.env))):=by rfl) :
  PE X (.Call (.Attribute o m apos) (e::es) [] pos) (XW X W m ta t):=by
 intro pins s σ H Q I h;refine PySem.W.methodCall_KW (pl:=pl) (bG (he pins s σ H _ I h) fun u s1 ⟨x,H1,I1,rx,a,C,dx,fs,k,f,fd,ps,ds,dvs,sp,ex,ea,l,c,hm,F,hr,hb,hd,q⟩=>?_) ht;subst ex;obtain rfl:u=Value.ref a:=rx;refine Uw I1 ea c hm l ?_;refine callWith_K (first:=[.ref a]) (h₀:=X.base) I.ok.mod.qX hm.kp (bG (ha pos pins s1 σ H1 _ I1 q) fun us s2 ⟨vs,H2,I2,r,q2⟩=>⟨I2.gU,?_⟩) oQ fJ;exact Oh (us := .ref a::us) (vs := .ref a::vs) T F hr hb hd I2 (.cons rfl r) q2
theorem ak5{pl:Sem Bool}(T:qC X W)(he:PE X o ta)
  (ht:eval (.Call (.Attribute o m apos) [] [] pos) X.env=(do
   let ov ← eval o X.env
   standAt apos.atName
   let (f,first) ← holding [ov] (getMethod ov m pl)
   callWith pos f first (backTo pos (starEach [] X.env)) (backToKw pos (keywordEach [] X.env))):=by rfl) :
  PE X (.Call (.Attribute o m apos) [] [] pos) (XW X W m ta OR):=by
 intro pins s σ H Q I h;refine PySem.W.methodCall_KW (pl:=pl) (bG (he pins s σ H _ I h) fun u s1 ⟨x,H1,I1,rx,a,C,dx,fs,k,f,fd,ps,ds,dvs,sp,ex,ea,l,c,hm,F,hr,hb,hd,q⟩=>?_) ht;subst ex;obtain rfl:u=Value.ref a:=rx;refine Uw I1 ea c hm l ?_;exact PySem.W.callWith_K0 (first:=[.ref a]) I1.gU hm.kp (Oh (us:=[.ref a]) (vs:=[.ref a]) T F hr hb hd I1 (.cons rfl .nil) q)
structure aaJ(K:Frag)(R:Addr)(m:Str)(f:Addr):Prop where
 reads:PySem.W.readsIn K R (.type "type")=true
 find:PySem.W.findCls K (.ref R) (.type "type") m=some (.val (.ref f))
 ga:specialIn K (.ref R) "__getattribute__" = some (some (.builtin "type.__getattribute__"))
 kp:keepIn K (.ref f)=true
end
end L2
namespace V2
open PySem PySem.Spec PyProof.Rows L2
@[simp] def dD(n:Nat)(jA:List A)(F:List A→Mo A):List A→Mo A:=fun as=>if as.length+jA.length=n then F (as++jA)else stuck
structure fL(P:Program)(w:World)(K:Frag)(mg:Str→Option Value)(base:Heap)(cls m:Str)(k:Nat)(n:Nat)(jA:List A)(F:List A→Mo A):Prop where
 ex:∃C f fd ps ds dvs,nsIn K mainGlobals cls=some (some (.ref C))∧nY K C∧Meth K C m f∧ps.length=n∧iG P w K mg base (pB P w) k f fd ps (qP K ps.length F)∧Binds K fd ps ds∧Vals dvs ds∧∀G ι,bD K G ι dvs jA
@[simp] def RK(m:Str)(tab:List (Str×(List A→Mo A)))(fs:Mo (List A))(a:A):Mo A:=fun Ω=>match a with
 | .aD s=>match Ω[s]? with
  | some (.ins cls Ft)=>match tab.lookup cls,Ft.lookup m with
   | some F,none=>mb fs (fun as=>F (.aD s::as)) Ω
   | _,_=>none
  | _=>none
 | _=>none
@[simp] def dE(m:Str)(tab:List (Str×(List A→Mo A)))(fo:Ev→Mo A)(fs:Ev→Mo (List A)):Ev→Mo A:=fun ρ=>mb (fo ρ) (RK m tab (fs ρ))
def eB(X:Cx)(m:Str)(tab:List (Str×(List A→Mo A))):Prop:=∀cls F,tab.lookup cls=some F→∃k n jA F0,F=dD n jA F0∧cH k X.A∧fL X.prog X.w X.K X.mg X.base cls m k n jA F0
section
variable{X:Cx}{W:WX}{m:Str}{tab:List (Str×(List A→Mo A))}{o e:Expr}{es:List Expr}{fo:Ev→Mo A}{fs:Ev→Mo (List A)}{pos apos:Pos}
theorem eB.nil:eB X m []:=fun cls F h=>by simp at h
theorem eB.cons{cls:Str}{k n:Nat}{jA:List A}{F:List A→Mo A}(h:fL X.prog X.w X.K X.mg X.base cls m k n jA F)(hr:cH k X.A)(t:eB X m tab):eB X m ((cls,dD n jA F)::tab):=fun c F' q=>by
 by_cases e:c=cls
 ·subst e;simp [List.lookup]at q;exact⟨k,n,jA,F,q.symm,hr,h⟩
 ·have hb:(c == cls)=false:=uQ.mpr e;simp only [List.lookup,hb]at q;exact t c F' q
theorem Nq{ta:TE}{t:TA}(JR:eB X m tab)(s1:fK X.K (Den X.K) W ta fo)(s2:fK X.K (bD X.K) W t fs):fK X.K (Den X.K) W (XW X W m ta t) (dE m tab fo fs):=by
 intro G ι Ω H σ ρ Q w r h;refine s1 G ι Ω H σ ρ _ w r (bQ.mb h fun a Ω1 v H1 G1 ι1 x1 w1 d1 h1=>?_);unfold RK at h1;cases a with
 | aD s =>
  simp only at h1;cases e2:Ω1[s]? with
  | none=>rw [e2]at h1;exact h1.elim
  | some c =>
   rw [e2]at h1;cases c with
   | ins cls Ft =>
    simp only at h1;cases e3:tab.lookup cls with
    | none=>rw [e3]at h1;exact h1.elim
    | some F =>
     rw [e3]at h1;cases e4:Ft.lookup m with
     | some _=>rw [e4]at h1;exact h1.elim
     | none =>
      rw [e4]at h1;obtain⟨k,n,jA,F0,rfl,hr,MV⟩:=JR cls F e3;obtain⟨C,f,fd,ps,ds,dvs,hC,gG,hme,hn,FO,hb,hv,hda⟩:=MV.ex;obtain⟨a,C',dx,ws,rfl,ha,hg,h0,hH,hF⟩:=w1.ins e2 d1;rw [hC]at h0;cases h0;refine⟨a,C,dx,ws,k,f,fd,ps,ds,dvs,_,rfl,hH,hF.am8 e4,gG,hme,FO,hr,hb,hv,?_⟩;refine s2 G1 ι1 Ω1 H1 σ ρ _ w1 (r.ext x1) (bQ.mb h1 fun as Ω2 vs H2 G2 ι2 x2 w2 d2 h2=>?_);unfold dD at h2;split at h2
      ·rename_i hl;have dd:bD X.K G2 ι2 (.ref a::vs++dvs) (.aD s::as++jA):=(bD.cons (by simp only [Den]at d1 ⊢;obtain⟨a2,e5,e6⟩:=d1;exact⟨a2,e5,x2.pre _ _ e6⟩) d2).append (hda _ _);refine⟨?_,G2,ι2,Ω2,.aD s::as++jA,w2,dd,Xl h2 (Ext.refl _ _)⟩;have:=dd.length;rw [this,hn];simp only [kF,gO]at hl ⊢;omega
      ·exact h2.elim
   | _=>exact h1.elim
 | _=>exact h1.elim
theorem pC{pl:Sem Bool}(T:qC X W)(JR:eB X m tab)(ho:VE X W o fo)(ha:VA X W (e::es) fs)
  (oQ:starEach (e::es) X.env=(false,eval e X.env)::starEach es X.env:=by rfl) (fJ:(backTo pos (starEach es X.env)).any (·.1)=false:=by rfl)
  (ht:eval (.Call (.Attribute o m apos) (e::es) [] pos) X.env=(do
   let ov ← eval o X.env
   standAt apos.atName
   let (f,first) ← holding [ov] (getMethod ov m pl)
   callWith pos f first (backTo pos (starEach (e::es) X.env)) (backToKw pos (keywordEach [] X.env))):=by rfl) :
  VE X W (.Call (.Attribute o m apos) (e::es) [] pos) (dE m tab fo fs):=by
 obtain⟨ta,p1,s1⟩:=ho;obtain⟨t,p2,s2⟩:=ha;exact⟨_,ak6 T p1 p2 oQ fJ ht,Nq JR s1 s2⟩
theorem OG{pl:Sem Bool}(T:qC X W)(JR:eB X m tab)(ho:VE X W o fo)
  (ht:eval (.Call (.Attribute o m apos) [] [] pos) X.env=(do
   let ov ← eval o X.env
   standAt apos.atName
   let (f,first) ← holding [ov] (getMethod ov m pl)
   callWith pos f first (backTo pos (starEach [] X.env)) (backToKw pos (keywordEach [] X.env))):=by rfl) :
  VE X W (.Call (.Attribute o m apos) [] [] pos) (dE m tab fo a0):=by
 obtain⟨ta,p1,s1⟩:=ho;refine⟨_,ak5 T p1 ht,Nq JR s1 ?_⟩;intro G ι Ω H σ ρ Q w r h;exact h [] H G ι (Ext.refl _ _) w .nil
structure GY(P:Program)(w:World)(K:Frag)(mg:Str→Option Value)(base:Heap)(cls:Str)(k:Nat)(n:Nat)(F:List A→Mo A):Prop where
 ex:∃C f fd ps,nsIn K mainGlobals cls=some (some (.ref C))∧mg cls=some (.ref C)∧Mk K C f∧ps.length=n∧iG P w K mg base (pB P w) k f fd ps (qP K ps.length F)∧Binds K fd ps []
@[simp] def FU(cls:Str)(n:Nat)(F:List A→Mo A)(as:List A):Mo A:=fun Ω=>if as.length+1=n then match F (.aD Ω.length::as) (Ω++[.ins cls []])with
 | some (.ok .bR,Ω2)=>some (.ok (.aD Ω.length),Ω2)
 | _=>none else none
theorem aa9{cls:Str}{k n:Nat}{F:List A→Mo A}{p:Pos}(M:GY X.prog X.w X.K X.mg X.base cls k n F)(hr:cH (k+1) X.A)(hg:Gl X cls)(ha:VA X W (e::es) fs)
  (gW:(cls == ("__debug__" : Str))=false:=by decide) (he:starEach (e::es) X.env=(false,eval e X.env)::starEach es X.env:=by rfl) (fJ:(backTo pos (starEach es X.env)).any (·.1)=false:=by rfl) :
  VE X W (.Call (.Name cls p) (e::es) [] pos) (aN (FU cls n F) fs):=by
 obtain⟨C,f,fd,ps,hC,hm,mk,hn,FO,hb⟩:=M.ex;obtain⟨t,p1,s1⟩:=ha;refine⟨_,ak7 mk (Gz FO) hr hg hm hb .nil Px p1 gW he fJ,fun G ι Ω H σ ρ Q w r h=>?_⟩;refine s1 G ι Ω H σ ρ _ w r (bQ.mb h fun as Ω1 vs H1 G1 ι1 x1 w1 d1 h1=>?_);unfold FU at h1
 by_cases hl:as.length+1=n
 ·rw [if_pos hl]at h1;intro x dx hx RB eW;have wA:=w1.grow (H':=upd H1 dx (.own x)) (jB.new RB);have wJ:upd H1 dx (.own x) x=none:=by rw [bP (cQ eW)];exact hx
  have wB:Wd X.K G1 (ι1++[x]) (Ω1++[.ins cls []]) (upd (upd H1 dx (.own x)) x (.ins C dx [])):=wA.cell wJ ⟨w1.lA hx,C,dx,[],hC,eA,trivial⟩;have rA:bD X.K G1 (ι1++[x]) (.ref x::(vs++[])) (.aD Ω1.length::as) := .cons (by simp only [Den];exact⟨x,rfl,by rw [← w1.len];simp⟩) (by rw [zJ];exact d1.ext (Ext.cell x));refine⟨by rw [rA.length,hn];simpa using hl,G1,ι1++[x],_,_,wB,rA,?_⟩
  revert h1
  generalize F (.aD Ω1.length::as) (Ω1++[.ins cls []])=q;intro h1
  match q,h1 with
  | some (.ok .bR,Ω2),h1 =>
   intro v H' G' ι' e' w' d';simp only [Den]at d';subst d';refine⟨rfl,h1 (.ref x) H' G' ι' ⟨e'.same,fun k a q=>e'.pre k a (by rw [jL (dI.mp q).1];exact q)⟩ w' ?_⟩;simp only [Den];exact⟨x,rfl,e'.pre _ _ (by rw [← w1.len];simp)⟩
 ·rw [if_neg hl]at h1;exact h1.elim
structure UZ(P:Program)(w:World)(K:Frag)(mg:Str→Option Value)(base:Heap)(rk m:Str)(k:Nat)(n:Nat)(F:List A→Mo A):Prop where
 ex:∃R f fd ps,mg rk=some (.ref R)∧aaJ K R m f∧ps.length=n∧iG P w K mg base (pB P w) k f fd ps (qP K ps.length F)∧Binds K fd ps []
end
def rY(cs:List Str)(i:Nat)(f:Str)(ρ:Ev)(Ω:aF):Option (Nat×Str×List (Str×Fd)×Fd):=match (ρ[i]?).join with
 | some (.aD s)=>match Ω[s]? with
  | some (.ins cls fs)=>if cls∈cs then(fs.lookup f).map fun fd=>(s,cls,fs,fd)else none
  | _=>none
 | _=>none
abbrev eQ(Ω:aF)(s:Nat)(cls f:Str)(fs:List (Str×Fd))(c:Cell):aF:=Ω.set s (.ins cls (putD f (.val (.aD Ω.length)) fs))++[c]
section
variable{cs:List Str}{i:Nat}{f:Str}{ρ:Ev}{Ω:aF}{s:Nat}{cls:Str}{fs:List (Str×Fd)}{fd fd':Fd}{c c':Cell}
theorem IX(h:rY cs i f ρ Ω=some (s,cls,fs,fd)):ρ[i]? = some (some (.aD s))∧Ω[s]? = some (.ins cls fs)∧cls∈cs∧fs.lookup f=some fd:=by
 unfold rY at h;cases e1:(ρ[i]?).join with
 | none=>rw [e1]at h;cases h
 | some d =>
  rw [e1]at h;cases d with
  | aD k =>
   simp only at h;cases e2:Ω[k]? with
   | none=>rw [e2]at h;cases h
   | some c =>
    rw [e2]at h;cases c with
    | ins oW iB =>
     simp only at h
     by_cases hc:oW∈cs
     ·rw [if_pos hc]at h;cases e3:iB.lookup f with
      | none=>rw [e3]at h;cases h
      | some x =>
       rw [e3]at h;cases h;exact⟨join_some e1,e2,hc,e3⟩
     ·rw [if_neg hc]at h;cases h
    | _=>cases h
  | _=>cases h
theorem Pz(h1:ρ[i]? = some (some (.aD s)))(h2:Ω[s]? = some (.ins cls fs))(h3:cls∈cs)(h4:fs.lookup f=some fd):rY cs i f ρ Ω=some (s,cls,fs,fd):=by
 unfold rY;rw [h1];simp [h2,h3,h4]
theorem Mi(h:rY cs i f ρ Ω=some (s,cls,fs,fd))(hc:fd.cell=some c):TV s f Ω (eQ Ω s cls f fs c):=by
 obtain⟨h1,h2,h3,h4⟩:=IX h;exact⟨cls,fs,fd,c,h2,h4,hc,rfl⟩
theorem MC{n:Nat}{f:Str}{fd:Fd}:∀{fs:List (Str×Fd)},nI n fs→mQ n fd→nI n (putD f fd fs)
 | [],_,h=>⟨h,trivial⟩
 | (g,x)::r,c,h=>by
  by_cases e:g=f
  ·simp only [putD,if_pos e];exact⟨h,c.2⟩
  ·simp only [putD,if_neg e];exact⟨c.1,MC c.2 h⟩
theorem Vk(cl:DL Ω ρ)(h:rY cs i f ρ Ω=some (s,cls,fs,fd))(hc:fd'.cell=some c')(hn:mQ Ω.length fd'):Folds s f Ω.length (eQ Ω s cls f fs c') (Ω.set s (.ins cls (putD f fd' fs))):=by
 obtain⟨h1,h2,h3,h4⟩:=IX h;have hs:s<Ω.length:=(dI.mp h2).1;refine⟨Ω.set s (.ins cls (putD f (.val (.aD Ω.length)) fs)),c',cls,putD f (.val (.aD Ω.length)) fs,fd',rfl,by simp,eT hs,?_,hc,fun k x hk hx=>?_,?_,?_⟩
 ·rw [EN,if_pos rfl]
 ·rw [dZ (cQ hk)]at hx;exact cl.aD k x hx
 ·rw [vU];have:=cl.aD s _ h2;exact MC this hn
 ·rw [vU,zH]
theorem atG(cl:DL Ω ρ)(h:rY cs i f ρ Ω=some (s,cls,fs,fd))(hc:fd.cell=some c):Folds s f Ω.length (eQ Ω s cls f fs c) Ω:=by
 obtain⟨h1,h2,h3,h4⟩:=IX h;obtain⟨j,e1,_⟩:=AZ h4;have hn:mQ Ω.length fd:=(cl.aD s _ h2:nI _ fs).get e1;have:=Vk cl h hc hn;rw [QH h4]at this;have e:Ω.set s (.ins cls fs)=Ω:=by
  apply UO;intro j
  by_cases hj:s=j
  ·subst hj;rw [eT (dI.mp h2).1,h2]
  ·rw [dZ hj]
 rwa [e]at this
theorem Ax(h:rY cs i f ρ Ω=some (s,cls,fs,fd)):(eQ Ω s cls f fs c)[Ω.length]? = some c:=by
 rw [sL (by simp)];simp
theorem Rq(h:rY cs i f ρ Ω=some (s,cls,fs,fd)):bV cs f (fS i) ρ (eQ Ω s cls f fs c)=some (.ok (.aD Ω.length),eQ Ω s cls f fs c):=by
 obtain⟨h1,h2,h3,h4⟩:=IX h;have hs:s<Ω.length:=(dI.mp h2).1;have e:(eQ Ω s cls f fs c)[s]? = some (.ins cls (putD f (.val (.aD Ω.length)) fs)):=by
  rw [jL (by simpa using hs),eT hs]
 have l:(putD f (Fd.val (.aD Ω.length)) fs).lookup f=some (.val (.aD Ω.length)):=by rw [EN,if_pos rfl]
 have tL:(ρ[i]?).join=some (.aD s):=by rw [h1];rfl
 simp only [bV,fS,need,mb,tL,UE,Fo,e,if_pos h3,l]
theorem Aw(c2:Cell):(eQ Ω s cls f fs c).set Ω.length c2=eQ Ω s cls f fs c2:=by
 unfold eQ;rw [List.set_append_right _ _ (by simp)];simp
theorem JH{α β:Type}{m:Mo α}{k:α→Mo β}{Ω Ω1:aF}{a:α}(h:m Ω=some (.ok a,Ω1)):mb m k Ω=k a Ω1:=by simp [mb,h]
end
def Zd(fe:Ev→Mo A):Prop:=∀ρ Ω Ω' r,fe ρ Ω=some r→∃a,r=(.ok a,Ω)∧fe ρ Ω'=some (.ok a,Ω')∧(DL Ω ρ→Cl Ω.length a)
theorem ajK(j:Nat):Zd (fS j):=fun ρ Ω Ω' r h=>by
 simp only [fS,need]at h ⊢;cases e:(ρ[j]?).join with
 | none=>rw [e]at h;cases h
 | some a=>rw [e]at h;cases h;exact⟨a,rfl,rfl,fun c=>c.env j a (join_some e)⟩
@[simp] def mS(cs:List Str)(i:Nat)(f:Str):Ev→Mo A:=fun ρ Ω=>match rY cs i f ρ Ω with
 | some (_,_,_,.lst ds)=>some (.ok (.int ds.length),Ω)
 | _=>none
@[simp] def DV(cs:List Str)(i:Nat)(f:Str)(fe:Ev→Mo A):Ev→Mo A:=fun ρ Ω=>match rY cs i f ρ Ω with
 | some (s,cls,fs,.lst ds)=>match fe ρ Ω with
  | some (.ok a,_)=>if ds.length<sizeLine then some (.ok .bR,Ω.set s (.ins cls (putD f (.lst (ds++[a])) fs)))else none
  | _=>none
 | _=>none
theorem Xb{n:Nat}:∀{ds es:List A},fH n ds→fH n es→fH n (ds++es)
 | [],_,_,h=>h
 | _::_,_,c,h=>⟨c.1,Xb c.2 h⟩
theorem alX{cs:List Str}{i:Nat}{f:Str}{ρ:Ev}{Ω:aF}{s:Nat}{cls:Str}{fs:List (Str×Fd)}{fd:Fd}(cl:DL Ω ρ)(h:rY cs i f ρ Ω=some (s,cls,fs,fd)):mQ Ω.length fd:=by
 obtain⟨h1,h2,h3,h4⟩:=IX h;obtain⟨j,e1,_⟩:=AZ h4;exact(cl.aD s _ h2:nI _ fs).get e1
section
variable{X:Cx}{W:WX}{e e1 o tg:Expr}{f:Str}{cs:List Str}{i:Nat}{pos pos' apos atE:Pos}{fe fi:Ev→Mo A}
theorem OH(h:VE X W e (aN dQ (aC (bV cs f (fS i)) a0))):VE X W e (mS cs i f):=by
 refine WK h fun ρ Ω r cl hd=>?_;unfold mS at hd;split at hd
 ·rename_i s cls fs ds eo;cases hd;refine⟨s,f,_,.int ds.length,_,Mi eo rfl,?_,atG cl eo rfl,by simp only [Cl],rfl⟩;have q:=Rq (c := .lst ds) eo;have l:cK (eQ Ω s cls f fs (.lst ds)) (.aD Ω.length)=some ds:=iJ (Ax eo);have l2:dO (eQ Ω s cls f fs (.lst ds)) (.aD Ω.length)=some ds:=l;show mb (mb (bV cs f (fS i) ρ) fun x=>mb (a0 ρ) fun xs=>ret (x::xs)) dQ _=_;rw [JH (a:=[A.aD Ω.length]) (Ω1:=eQ Ω s cls f fs (.lst ds)) (by rw [JH q];rfl)];simp [dQ,l,l2]
 ·cases hd
theorem abE(h:VE X W e (jZ nB (bV cs f (fS i)) (aC fe a0)))(hp:Zd fe):VE X W e (DV cs i f fe):=by
 refine WK h fun ρ Ω r cl hd=>?_;unfold DV at hd;split at hd
 ·rename_i s cls fs ds eo;split at hd
  ·rename_i a Ω' e2;split at hd
   ·rename_i hl;cases hd;obtain⟨b,q1,q2,q3⟩:=hp ρ Ω (eQ Ω s cls f fs (.lst ds)) _ e2;cases q1;refine⟨s,f,_,.bR,eQ Ω s cls f fs (.lst (ds++[a])),Mi eo rfl,?_,Vk cl eo rfl (Xb (alX cl eo) ⟨q3 cl,trivial⟩),by simp only [Cl],rfl⟩;have q:=Rq (c := .lst ds) eo;have l:lS (eQ Ω s cls f fs (.lst ds)) (.aD Ω.length)=some (Ω.length,ds):=tO (Ax eo);have il:pI (eQ Ω s cls f fs (.lst ds)) (.aD Ω.length):=tE (iJ (Ax eo));simp only [jZ];rw [JH q,if_pos il];rw [JH (a:=[a]) (Ω1:=eQ Ω s cls f fs (.lst ds)) (by
     show mb (fe ρ) (fun x=>mb (a0 ρ) fun xs=>ret (x::xs)) _=_;rw [JH q2];rfl)]
    simp only [nB,l,if_pos hl,Aw]
   ·cases hd
  ·cases hd
 ·cases hd
end
def EV(Ω:aF):A→Option (List A)
 | .lst ds=>some ds
 | .aD k=>match Ω[k]? with
  | some (.lst ds)=>some ds
  | _=>none
 | _=>none
theorem aoG{K:Frag}{G H:Hp}{ι:List Addr}{Ω:aF}{v:V}{a:A}{ds:List A}(w:Wd K G ι Ω H)(d:Den K G ι v a)(h:EV Ω a=some ds):∃p xs,v = .ref p∧H p=some (.lst xs)∧bD K G ι xs ds:=by
 cases a with
 | lst es =>
  simp only [EV,kD]at h;subst h;simp only [Den]at d;obtain⟨p,xs,rfl,h2,h3⟩:=d;exact⟨p,xs,rfl,w.sub _ _ h2,h3⟩
 | aD j =>
  simp only [EV]at h;split at h
  ·rename_i es e;cases h;simp only [Den]at d;obtain⟨p,rfl,hk⟩:=d;obtain⟨g,xs,h3,h4⟩:=w.aD j _ p e hk;exact⟨p,xs,rfl,h3,h4⟩
  ·cases h
 | _=>simp [EV]at h
@[simp] def Fp(o:A)(as:List A):Mo A:=fun Ω=>match lS Ω o,as with
 | some (k,ds),[y]=>match EV Ω y with
  | some es=>if ds.length+es.length≤sizeLine then some (.ok .bR,Ω.set k (.lst (ds++es)))else none
  | none=>none
 | _,_=>none
theorem an8{X:Cx}{W:WX}:UH X.K W Ov Fp:=by
 intro G ι Ω H σ x xs a as Q w d1 d2 h;unfold Fp at h;split at h
 ·rename_i k ds y e;split at h
  ·rename_i es e2;split at h
   ·rename_i hl;obtain⟨p,zs,rfl,hk,g,h3,h4⟩:=Gx w d1 e;obtain⟨u,rfl,du⟩:=sH d2;obtain⟨p2,ys,rfl,h5,h6⟩:=aoG w du e2;refine⟨p,p2,zs,ys,rfl,rfl,h3,h5,by rw [h4.length,h6.length];exact hl,?_⟩;exact h _ _ G ι (Ext.refl _ _) (w.put (c := .lst (ds++es)) hk g ⟨g,_,eA,h4.append h6⟩) (by simp only [Den])
   ·exact False.elim h
  ·exact False.elim h
 ·exact False.elim h
def DB(i:Nat)(f:Str)(g:MS)(ρ:Ev)(Ω:aF)(r:Out×Ev×aF):Prop :=
 ∃s cls fs fd c Ωa fd' c',ρ[i]? = some (some (.aD s))∧Ω[s]? = some (.ins cls fs)∧fs.lookup f=some fd∧fd.cell=some c∧g ρ (eQ Ω s cls f fs c)=some (.nx,r.2.1,Ωa++[c'])∧Ωa.length=Ω.length ∧
  Ωa[s]? = some (.ins cls (putD f (.val (.aD Ω.length)) fs))∧fd'.cell=some c'∧(∀(k:Nat) (x:Cell),k≠s→Ωa[k]? = some x→Ω[k]? = some x∨DM Ω.length x)∧(fd'=fd∨mQ Ω.length fd') ∧
  (∀(j:Nat) (d:A),r.2.1[j]? = some (some d)→ρ[j]? = some (some d)∨Cl Ω.length d)∧r.1 = .nx∧r.2.2=Ωa.set s (.ins cls (putD f fd' fs))
open Classical in
noncomputable def oK(i:Nat)(f:Str)(g:MS):MS:=fun ρ Ω=>if h:∃r,DB i f g ρ Ω r then some (Classical.choose h)else none
theorem Xi{a b:Fd}{c:Cell}(h1:a.cell=some c)(h2:b.cell=some c):a=b:=by
 cases a with
 | val x=>cases h1
 | lst ds=>cases b with
  | lst es=>cases h1;cases h2;rfl
  | val _=>cases h2
  | cW _=>cases h1;cases h2
 | cW kvs=>cases b with
  | cW es=>cases h1;cases h2;rfl
  | val _=>cases h2
  | lst _=>cases h1;cases h2
theorem DB.uniq{i:Nat}{f:Str}{g:MS}{ρ:Ev}{Ω:aF}{r r':Out×Ev×aF}(h:DB i f g ρ Ω r)(h':DB i f g ρ Ω r'):r=r':=by
 obtain⟨s,cls,fs,fd,c,Ωa,LR,c1,a1,a2,a3,a4,a5,a6,a7,a8,a9,MT,MR,MQ,Ii⟩:=h;obtain⟨s',oW,iB,fd',c',Ωb,fd2,c2,b1,b2,b3,b4,b5,b6,b7,b8,b9,b10,b11,Hz,b13⟩:=h';rw [a1]at b1;cases b1;rw [a2]at b2;cases b2;rw [a3]at b3;cases b3;rw [a4]at b4;cases b4;rw [a5]at b5;obtain⟨r1,r2,r3⟩:=r;obtain⟨p1,p2,p3⟩:=r';simp only [kD,MX,true_and]at *;obtain⟨e1,e2⟩:=b5;obtain⟨rfl,e3⟩:=List.append_inj' e2 rfl;simp only [sN,and_true]at e3;subst e3;have:=Xi a8 b8;subst this;subst MQ Hz;exact⟨rfl,e1,by rw [Ii,b13]⟩
theorem Of{i:Nat}{f:Str}{g:MS}{ρ:Ev}{Ω:aF}{r:Out×Ev×aF}(h:DB i f g ρ Ω r):oK i f g ρ Ω=some r:=by
 have ex:∃r,DB i f g ρ Ω r:=⟨r,h⟩;unfold oK;rw [dif_pos ex];exact congrArg some (DB.uniq (HM ex) h)
section
variable{X:Cx}{W:WX}{st:Stmt}{f:Str}{cs:List Str}{i:Nat}{pos dF apos atE ay4:Pos}{gs:MS}{x:Str}
theorem OD(h:VS X W st gs):VS X W st (oK i f gs):=by
 refine aa3 h fun ρ Ω r cl hd=>?_;unfold oK at hd;split at hd
 ·rename_i ex;cases hd;generalize hr:Classical.choose ex=r;have gF:=HM ex;rw [hr]at gF;obtain⟨s,cls,fs,fd,c,Ωa,LR,c1,a1,a2,a3,a4,a5,a6,a7,a8,a9,MT,MR,MQ,Ii⟩:=gF;obtain⟨ix,e1,_⟩:=AZ a3;have Dq:mQ Ω.length fd:=(cl.aD s _ a2:nI _ fs).get e1;refine⟨s,f,_,Ωa++[c1],⟨cls,fs,fd,c,a2,a3,a4,rfl⟩,a5,⟨Ωa,c1,cls,_,LR,rfl,a6,a7,by rw [EN,if_pos rfl],a8,fun k x hk hx=>?_,?_,by rw [vU];exact Ii⟩,fun j d hj=>?_,MQ⟩
  ·rcases a9 k x hk hx with z | z
   ·exact cl.aD k x z
   ·exact z
  ·rw [vU];exact MC (cl.aD s _ a2:nI _ fs) (by rcases MT with z | z;exact z ▸ Dq;exact z)
  ·rcases MR j d hj with z | z
   ·exact cl.env j d z
   ·exact z
 ·cases hd
end
def vV(cs:List Str)(i:Nat)(ρ:Ev)(Ω:aF):Option (Nat×Str×List (Str×Fd)):=match (ρ[i]?).join with
 | some (.aD s)=>match Ω[s]? with
  | some (.ins cls fs)=>if cls∈cs then some (s,cls,fs)else none
  | _=>none
 | _=>none
theorem amV{cs:List Str}{i:Nat}{ρ:Ev}{Ω:aF}{s:Nat}{cls:Str}{fs:List (Str×Fd)}(h:vV cs i ρ Ω=some (s,cls,fs)):ρ[i]? = some (some (.aD s))∧Ω[s]? = some (.ins cls fs)∧cls∈cs:=by
 unfold vV at h;cases e1:(ρ[i]?).join with
 | none=>rw [e1]at h;cases h
 | some d =>
  rw [e1]at h;cases d with
  | aD k =>
   simp only at h;cases e2:Ω[k]? with
   | none=>rw [e2]at h;cases h
   | some c =>
    rw [e2]at h;cases c with
    | ins oW iB =>
     simp only at h
     by_cases hc:oW∈cs
     ·rw [if_pos hc]at h;cases h;exact⟨join_some e1,e2,hc⟩
     ·rw [if_neg hc]at h;cases h
    | _=>cases h
  | _=>cases h
@[simp] def Fd.AQ:Cell→Option Fd
 | .lst ds=>some (.lst ds)
 | .cW kvs=>some (.cW kvs)
 | _=>none
theorem Fd.amP{c:Cell}{fd:Fd}(h:Fd.AQ c=some fd):fd.cell=some c:=by
 cases c <;> cases h <;> rfl
open Classical in
@[simp] noncomputable def uA(cs:List Str)(i:Nat)(f:Str)(fv:Ev→Mo A):MS:=fun ρ Ω=>match vV cs i ρ Ω with
 | some (s,cls,fs)=>match fv ρ Ω with
  | some (.ok (.aD n),Ω1)=>match Ω1[Ω.length]? with
   | some c=>match Fd.AQ c with
    | some fd=>if n=Ω.length∧Ω1=Ω++[c]∧fs.length<1000∧mQ Ω.length fd then some (.nx,ρ,Ω.set s (.ins cls (putD f fd fs)))else none
    | none=>none
   | none=>none
  | _=>none
 | none=>none
section
variable{X:Cx}{W:WX}{st:Stmt}{f:Str}{cs:List Str}{i:Nat}{fv:Ev→Mo A}
theorem WD(h:VS X W st (sV cs f (fS i) fv)):VS X W st (uA cs i f fv):=by
 obtain⟨t,p,sm⟩:=h;refine⟨t,p,fun G ι Ω H σ ρ D w r h=>?_⟩;have cl:=w.Gs r;unfold uA at h;split at h
 ·rename_i s cls fs eo;split at h
  ·rename_i n Ω1 e1;split at h
   ·rename_i c e2;split at h
    ·rename_i fd e3;split at h
     ·rename_i hc;obtain⟨rfl,rfl,hl,gG⟩:=hc;obtain⟨h1,h2,h3⟩:=amV eo;have mZ:s<Ω.length:=(dI.mp h2).1;have BW:=Fd.amP e3;refine sm G ι Ω H σ ρ D w r ?_;have tL:(ρ[i]?).join=some (.aD s):=by rw [h1];rfl
      have CB:(Ω++[c])[s]? = some (.ins cls fs):=by rw [jL mZ];exact h2
      have e:sV cs f (fS i) fv ρ Ω=some (.nx,ρ,Ω.set s (.ins cls (putD f (.val (.aD Ω.length)) fs))++[c]):=by
       simp only [sV,sM,e1,fS,need,tL,UE,CB,if_pos (And.intro h3 hl)];rw [List.set_append_left _ _ mZ]
      rw [e];intro σ' H' G' ι' ex w' r';have wf:=w'.fold (s:=s) (f:=f) (fd:=fd) (cls:=cls) (fs:=putD f (.val (.aD Ω.length)) fs) (eT mZ) (by rw [EN,if_pos rfl];simp) BW (fun k x hk hx=>by
       rw [dZ (cQ hk)]at hx;have:=cl.aD k x hx;simpa using this) (by
       rw [vU];have:=MC (f:=f) (cl.aD s _ h2:nI _ fs) gG;simpa using this)
      rw [vU,zH,HC]at wf;refine h σ' H' G' (ι'.take Ω.length) ⟨ex.same,fun k x q=>?_⟩ wf (Vz r' fun j d hj=>cl.env j d hj);have hk:=(dI.mp q).1;rw [NI,if_pos (by rw [← w.len];exact hk)];exact ex.pre k x q
     ·exact h.elim
    ·exact h.elim
   ·exact h.elim
  ·exact h.elim
 ·exact h.elim
end
theorem GD{K:Frag}{f:Str}:eM K [] f:=fun cls h=>by simp at h
theorem GG{K:Frag}{f cls:Str}{cs:List Str}{C:Addr}(h1:nsIn K mainGlobals cls=some (some (.ref C)))(h2:nY K C)(h3:findIn K (.ref C) f=some none)(t:eM K cs f):eM K (cls::cs) f:=fun c h=>by
 rcases dN.mp h with e | e
 ·subst e;exact⟨C,h1,h2,h3⟩
 ·exact t c e
section
variable{P:Program}{w:World}{K:Frag}{mg:Str→Option Value}{base:Heap}
theorem Fw{x qual:Str}{st:Stmt}{N ps:List Str}{k:Nat}{b:MS}{f:Addr}{fd:FuncData}(F:qF K x qual st f fd)(S:dJ N ps (aX st))
  (gH:∀(f:Addr) (aU:Value) (A:Around) (outer:List Env) (s:Shared) (H:Hp) (E:XK),cH k (A.deeper (envOfC qual (aX st) s.heap.objs.size f aU)) →
   jG (nE P w K mg base N qual (aX st) f aU A outer s H E) (fun _=>E) (dX st) b):iG P w K mg base (pB P w) (k+1) f fd ps (qP K ps.length (dW N.length b)):=by
 obtain⟨oc,od,kV,doc,pm,an,aU,ct,gD,rfl,lk,fN⟩:=F.ex;refine FY lk fN S (fun vs H Q E h=>h.1) fun A outer s H vs Q E hr gF=>?_;obtain⟨t,p,q⟩:=gH f aU A outer s H E hr;exact⟨t,EY p,GL q gF⟩
structure zO(K:Frag)(mg:Str→Option Value)(cls m qual:Str)(st:Stmt):Prop where
 ex:∃C f fd,nsIn K mainGlobals cls=some (some (.ref C))∧mg cls=some (.ref C)∧nY K C∧Meth K C m f∧qF K m qual st f fd
theorem fL.of{cls m qual:Str}{st:Stmt}{N ps:List Str}{k:Nat}{b:MS}(h:zO K mg cls m qual st)(S:dJ N ps (aX st))
  (bind:∀(kV doc pm:Value) (an:Option Addr) (aU ct:Value) (us:List Value),us.length=ps.length→bindArgs (fnOf m qual (iV st) (dX st) (aX st) .none kV doc pm an aU ct) ⟨us,[]⟩=pure (ps.zip us))
  (gH:∀(f:Addr) (aU:Value) (A:Around) (outer:List Env) (s:Shared) (H:Hp) (E:XK),cH k (A.deeper (envOfC qual (aX st) s.heap.objs.size f aU)) →
   jG (nE P w K mg base N qual (aX st) f aU A outer s H E) (fun _=>E) (dX st) b):fL P w K mg base cls m (k+1) ps.length [] (dW N.length b):=by
 obtain⟨C,f,fd,h1,_,h2,h3,F⟩:=h.ex;exact⟨C,f,fd,ps,[],[],h1,h2,h3,rfl,Fw F S gH,F.binds bind,.nil,fun _ _ => .nil⟩
theorem fL.none{cls m qual:Str}{st:Stmt}{N ps:List Str}{k n:Nat}(h:zO K mg cls m qual st)(hn:ps.length=n)(bind:∀(kV doc pm:Value) (an:Option Addr) (aU ct:Value) (us:List Value),us.length=ps.length→bindArgs (fnOf m qual (iV st) (dX st) (aX st) .none kV doc pm an aU ct) ⟨us,[]⟩=pure (ps.zip us)) :
  fL P w K mg base cls m k n [] (fun _=>stuck):=by
 obtain⟨C,f,fd,h1,_,h2,h3,F⟩:=h.ex;exact⟨C,f,fd,ps,[],[],h1,h2,h3,hn,⟨fun vs H Q E h=>h.1,fun A outer s H args us vs Q E hr he hb hv hs=>by obtain⟨_,_,_,_,_,_,_,q⟩:=hs;exact q.elim⟩,F.binds bind,.nil,fun _ _ => .nil⟩
structure Jy(K:Frag)(mg:Str→Option Value)(cls qual:Str)(st:Stmt):Prop where
 ex:∃C f fd,nsIn K mainGlobals cls=some (some (.ref C))∧mg cls=some (.ref C)∧Mk K C f∧qF K "__init__" qual st f fd
theorem GY.of{cls qual:Str}{st:Stmt}{N ps:List Str}{k:Nat}{b:MS}(h:Jy K mg cls qual st)(S:dJ N ps (aX st))
  (bind:∀(kV doc pm:Value) (an:Option Addr) (aU ct:Value) (us:List Value),us.length=ps.length→bindArgs (fnOf "__init__" qual (iV st) (dX st) (aX st) .none kV doc pm an aU ct) ⟨us,[]⟩=pure (ps.zip us))
  (gH:∀(f:Addr) (aU:Value) (A:Around) (outer:List Env) (s:Shared) (H:Hp) (E:XK),cH k (A.deeper (envOfC qual (aX st) s.heap.objs.size f aU)) →
   jG (nE P w K mg base N qual (aX st) f aU A outer s H E) (fun _=>E) (dX st) b):GY P w K mg base cls (k+1) ps.length (dW N.length b):=by
 obtain⟨C,f,fd,h1,h2,h3,F⟩:=h.ex;exact⟨C,f,fd,ps,h1,h2,h3,rfl,Fw F S gH,F.binds bind⟩
structure Zz(K:Frag)(mg:Str→Option Value)(rk m qual:Str)(st:Stmt):Prop where
 ex:∃R f fd,mg rk=some (.ref R)∧aaJ K R m f∧qF K m qual st f fd
theorem UZ.of{rk m qual:Str}{st:Stmt}{N ps:List Str}{k:Nat}{b:MS}(h:Zz K mg rk m qual st)(S:dJ N ps (aX st))
  (bind:∀(kV doc pm:Value) (an:Option Addr) (aU ct:Value) (us:List Value),us.length=ps.length→bindArgs (fnOf m qual (iV st) (dX st) (aX st) .none kV doc pm an aU ct) ⟨us,[]⟩=pure (ps.zip us))
  (gH:∀(f:Addr) (aU:Value) (A:Around) (outer:List Env) (s:Shared) (H:Hp) (E:XK),cH k (A.deeper (envOfC qual (aX st) s.heap.objs.size f aU)) →
   jG (nE P w K mg base N qual (aX st) f aU A outer s H E) (fun _=>E) (dX st) b):UZ P w K mg base rk m (k+1) ps.length (dW N.length b):=by
 obtain⟨R,f,fd,h1,h2,F⟩:=h.ex;exact⟨R,f,fd,ps,h1,h2,rfl,Fw F S gH,F.binds bind⟩
end
def UR(K:Frag)(a b:Addr):It :=
 ⟨fun i H=>∃xs ys x y,dG K H a xs∧dG K H b ys∧xs[i]? = some x∧ys[i]? = some y,fun i H x H'=>∃p y z,H p=none∧H'=upd H p (.tup [y,z])∧x = .ref p∧(∀xs,dG K H a xs→xs[i]? = some y)∧(∀ys,dG K H b ys→ys[i]? = some z),
  fun i H=>∃xs ys,dG K H a xs∧dG K H b ys∧(xs.length≤i∨ys.length≤i)⟩
theorem Inv.OL{X:Cx}{pins:List (Addr×Obj)}{σ:L2.St}{H:Hp}{s:Shared}{h':Heap}{t':Nat}{ch:List Addr}(I:Inv X pins σ H s)(k:∀b o,b∉ch→s.heap.get? b=some o→h'.get? b=some o)(hf:∀b∈ch,mP X pins H b):Inv X pins σ H { s with heap:=h',toks:=t' }:=by
 have ne:∀b u,H b=some u→b∉ch:=fun b u q z=>by rw [(hf b z).1]at q;cases q
 refine I.step (g':=s.gens) (d':=s.drawn) (ch:=ch) (fun b hb=>?_) (fun b o _ _ hc q _=>k b o hc q) (fun b o _ _ hc q _=>⟨o.slots,k b o hc q⟩) (fun _ _ _ _ n=>n)
  (fun b o hc q=>⟨o,k b o hc q⟩) (fun _ _ q=>q) (fun _ _ _ q=>q) (fun b ps q=>⟨#[],by rw [q];simp⟩) (fun m hm=>?_) (fun b u q=>?_) I.bare
 ·obtain⟨a0,a1,a2,a3,a4,a5⟩:=hf b hb;exact⟨a3,a1,a4,a5⟩
 ·obtain⟨o,es,ep,ho,r⟩:=hm;exact⟨o,es,ep,k _ o (fun z=>(hf _ z).2.1 rfl) ho,r⟩
 ·refine(I.aH b u q).mD (fun c v hc q'=>k c v ?_ q') (fun _ q=>q) fun _ _ q=>q
  rcases hc with z | z
  ·rw [z];exact ne b u q
  ·exact ne c _ z
theorem yF{h:Heap}{x y:Addr}{o1 o2:Obj}(h1:h.get? x=some o1)(h2:h.get? y=some o2)(hc:o1.cls≠o2.cls):x≠y:=fun e=>by
 subst e;rw [h1]at h2;cases h2;exact hc rfl
theorem Kv{h:Heap}{a b z TI TO i1 i2:Addr}{xs ys:Array Value}{u v:Value}{i:Nat}(hd:[z,TI,TO,i1,i2].Nodup)(hz:IsZip h z TI TO .none)(Uo:IsPair h TO u v)(h1:h.IsListIter i1 a i)(h2:h.IsListIter i2 b i)(l1:h.IsList a xs)(l2:h.IsList b ys):ZipApart z TI TO i1 i2 a b:=by
 obtain⟨o1,q1,c1,d1⟩:=h1;obtain⟨o2,q2,c2,d2⟩:=h2;obtain⟨p1,r1,e1,_⟩:=l1;obtain⟨p2,r2,e2,_⟩:=l2;simp only [zI,dN,rE,qR,not_or,not_false_eq_true,List.nodup_nil,and_true]at hd;obtain⟨⟨n1,n2,n3,n4⟩,⟨n5,n6,n7⟩,⟨n8,n9⟩,n10⟩:=hd;exact⟨cQ n1,cQ n2,cQ n3,cQ n4,n5,n6,n7,n8,n9,n10,
  yF r1 hz (by rw [e1];show Value.type "list" ≠ Value.type "zip";decide),yF r1 Uo (by rw [e1];show Value.type "list" ≠ Value.type "tuple";decide),yF r1 q1 (by rw [e1,c1];decide),yF r1 q2 (by rw [e1,c2];decide),
  yF r2 hz (by rw [e2];show Value.type "list" ≠ Value.type "zip";decide),yF r2 Uo (by rw [e2];show Value.type "list" ≠ Value.type "tuple";decide),yF r2 q1 (by rw [e2,c1];decide),yF r2 q2 (by rw [e2,c2];decide)⟩
theorem abV{P:Program}{w:World}{K:Frag}{elts:List Expr}{x1:Nat}{tp:Pos}(a b z TI TO i1 i2:Addr)(hd:[z,TI,TO,i1,i2].Nodup) :
  Turn P w K (.Tuple elts x1 tp) (UR K a b) [z,TI,TO,i1,i2] z (fun i h=>IsZip h z TI TO .none∧IsPair h TI (.ref i1) (.ref i2)∧(∃u v,IsPair h TO u v)∧h.IsListIter i1 a i∧h.IsListIter i2 b i)where
 mem:=by simp
 obj:=fun i h st c hc=>by
  obtain⟨s1,s2,⟨u,v,s3⟩,⟨o1,q1,c1,d1⟩,⟨o2,q2,c2,d2⟩⟩:=st;simp only [dN,rE,qR]at hc
  rcases hc with e | e | e | e | e <;> subst e
  ·exact⟨_,s1,fun v z=>by cases z⟩
  ·exact⟨_,s2,fun v z=>by cases z⟩
  ·exact⟨_,s3,fun v z=>by cases z⟩
  ·exact⟨o1,q1,fun v z=>by rw [d1]at z;cases z⟩
  ·exact⟨o2,q2,fun v z=>by rw [d2]at z;cases z⟩
 keep:=fun i h h' st k=>⟨k z (by simp) _ st.1,k TI (by simp) _ st.2.1,let ⟨u,v,q⟩:=st.2.2.1; ⟨u,v,k TO (by simp) _ q⟩,st.2.2.2.1.at fun o q=>k i1 (by simp) o q,st.2.2.2.2.at fun o q=>k i2 (by simp) o q⟩
 item:=by
  intro X hP hw hK hc i pins s σ H E I hf st hg;subst hP hw hK;obtain⟨s1,s2,⟨u0,v0,s3⟩,s4,s5⟩:=st;obtain⟨xs,ys,x,y,yJ,uH,hx,hy⟩:=hg;obtain⟨apK,PZ,p1,_⟩:=I.list yJ;obtain⟨tD,PY,p2,_⟩:=I.list uH;obtain⟨u,hu,ru⟩:=PZ.get hx;obtain⟨v,hv,rv⟩:=PY.get hy;have D:=Kv hd s1 s3 s4 s5 p1.isList p2.isList;have hsz:z<s.heap.objs.size:=dA s1;have oQ:TO<s.heap.objs.size:=dA s3;have hsT:TI<s.heap.objs.size:=dA s2;have hs1:i1<s.heap.objs.size:=let ⟨_,q,_⟩:=s4;dA q;have tH:i2<s.heap.objs.size:=let ⟨_,q,_⟩:=s5;dA q;refine wpAny_pyNext_zip_item D s1 s2 s3 s4 s5 p1.isList p2.isList (x:=u) (y:=v) (by simpa using hu) (by simpa using hv) fun h1 a1 a2 a3 a4 a5 a6 a7=>?_;refine⟨_,rfl,wpAny_letOwnedTupleGo_zip (s:={ s with heap:=h1 }) a1 fun h2 e2 sb=>?_⟩;have kB:H s.heap.objs.size=none:=I.aH.fresh cJ;have k2:∀c o,c∉[z,TO,i1,i2]→s.heap.get? c=some o→h2.get? c=some o:=fun c o hc q=>by
   simp only [dN,rE,qR,not_or]at hc;exact sb.extBut c o hc.1 (a7 c o hc.1 hc.2.1 hc.2.2.1 hc.2.2.2 q)
  have Ds:∀c∈[z,TO,i1,i2],mP X pins H c:=fun c hc=>hf c (by
   simp only [dN,rE,qR]at hc ⊢
   rcases hc with e | e | e | e <;> simp [e])
  have t2:h2.get? s.heap.objs.size=some { cls := .type "tuple",data := .seq #[u,v] }:=sb.extBut _ _ (CY hsz) a5;have I1:Inv X pins σ H { s with heap:=h2 }:=Inv.OL (t':=s.toks) I k2 Ds;have aH:eY X.prog X.w (upd H s.heap.objs.size (.tup [x,y])) h2:=by
   refine fun b o q=>?_
   by_cases eb:b=s.heap.objs.size
   ·subst eb;rw [eA]at q;cases q;exact⟨by show 2≤sizeLine;decide,[u,v],.cons ru (.cons rv .nil),⟨_,t2,rfl,_,rfl⟩⟩
   ·rw [bP eb]at q;exact(I1.aH b o q).mD (fun c v _ z=>z) (fun c z=>by rw [bP (gT z kB)];exact z) fun c xs z=>by rw [bP (gT z kB)];exact z
  have fp:mP X pins H s.heap.objs.size:=I.pX cJ kB;have h0:X.s₀.heap.get? s.heap.objs.size=none:=by
   cases q:X.s₀.heap.get? s.heap.objs.size with
   | none=>rfl
   | some ob=>exact absurd (kE (dA q) I.sz) (Nat.lt_irrefl _)
  have I2:Inv X pins σ (upd H s.heap.objs.size (.tup [x,y])) { s with heap:=h2 }:=Inv.ON I1 kB h0 fp.2.1 fp.2.2.2.2.1 fp.2.2.2.2.2 aH;refine⟨.ref s.heap.objs.size,_,I2,rfl,⟨_,x,y,kB,rfl,rfl,fun ys hy=>by rw [I.JL hy yJ];exact hx,fun zs hz=>by rw [I.JL hz uH];exact hy⟩,
   ⟨e2,k2 TI _ (by simp only [dN,rE,qR,not_or];exact⟨D.TIz,D.TITO,D.TIi1,D.TIi2⟩) s2,⟨u,v,sb.extBut _ _ D.TOz a2⟩,a3.extBut sb.extBut D.i1z,a4.extBut sb.extBut D.i2z⟩,fun c hc=>?_⟩
  have yM:=(hf c hc).1;have iT:c<s.heap.objs.size:=by
   simp only [dN,rE,qR]at hc
   rcases hc with e | e | e | e | e <;> subst e <;> assumption
  rw [bP (iE iT)];exact yM
 done:=by
  intro X hP hw hK hc i pins s σ H E I hf st hg;subst hP hw hK;obtain⟨s1,s2,⟨u0,v0,s3⟩,s4,s5⟩:=st;obtain⟨xs,ys,yJ,uH,hx⟩:=hg;obtain⟨apK,PZ,p1,_⟩:=I.list yJ;obtain⟨tD,PY,p2,_⟩:=I.list uH;have D:=Kv hd s1 s3 s4 s5 p1.isList p2.isList;have l1:=PZ.length;have l2:=PY.length;have Ds:∀c∈[z,TO,i1,i2],mP X pins H c:=fun c hc=>hf c (by
   simp only [dN,rE,qR]at hc ⊢
   rcases hc with e | e | e | e <;> simp [e])
  refine wpAny_pyNext_zip_end (I.ok.hd hc) D s1 s2 s3 s4 s5 p1.isList p2.isList (by
   rcases hx with q | q
   ·left;simp;omega
   ·right;simp;omega) fun h' hk=>⟨rfl,Inv.OL (t':=s.toks) I (fun c o hc q=>by
    simp only [dN,rE,qR,not_or]at hc;exact hk c o hc.1 hc.2.1 hc.2.2.1 hc.2.2.2 q) Ds⟩
 self:=fun _ _ _ _ _ st h=>wpAny_pyIter_zip st.1 h
section
variable{X:Cx}{W:WX}{pos:Pos}
theorem akM{elts:List Expr}{x1:Nat}{tp p:Pos}{l l2:Expr}{tl Mm:TE}(hg:Gl X "zip")(hm:X.mg "zip" = none)(hl:PE X l tl)(kX:PE X l2 Mm)(hs:starEach [l,l2] X.env=(false,eval l X.env)::starEach [l2] X.env:=by rfl)(tH:starEach [l2] X.env=[(false,eval l2 X.env)]:=by rfl) :
  PI X (.Tuple elts x1 tp) (.Call (.Name "zip" p) [l,l2] [] pos) (fun σ H R=>tl σ H fun x H1=>Mm σ H1 fun y H2=>∃a b,x = .ref a∧y = .ref b∧(∃xs,dG X.K H2 a xs)∧(∃ys,dG X.K H2 b ys)∧R (UR X.K a b) H2):=by
 intro pins s σ H R I h;refine vH (BC I hg hm boot_zip ?_);refine Iu (bG (AM hl (AM kX IW tH) hs pos pins s σ H (fun vs H1=>match vs with
  | [x,y]=>∃a b,x=V.ref a∧y=V.ref b∧(∃xs,dG X.K H1 a xs)∧(∃ys,dG X.K H1 b ys)∧R (UR X.K a b) H1
  | _=>False) I h) fun us s1 ⟨vs,H1,I1,r1,q1⟩=>?_) hs (by rw [tH];rfl)
 match vs,q1 with
 | [x,y],q1 =>
 obtain⟨a,b,e1,e2,⟨xs,hq⟩,⟨ys,uH⟩,q⟩:=q1;obtain⟨u,v,rfl,ru,rv⟩:=vals2 r1;subst e1 e2;cases ru;cases rv;obtain⟨aQ,PZ,pl,_⟩:=I1.list hq;obtain⟨tD,PY,pl2,_⟩:=I1.list uH;refine call_zip_2 pl.isList pl2.isList fun h' g1 g2 g3 g4 g5 hsz hk=>?_;refine wpAny_pyIter_zip (s:={ s1 with heap:=h' }) g1 ?_;have I2:Inv X pins σ H1 { s1 with heap:=h' }:=I1.kept (t':=s1.toks) hk;have hle:∀c∈[s1.heap.objs.size+4,s1.heap.objs.size+2,s1.heap.objs.size+3,s1.heap.objs.size,s1.heap.objs.size+1],s1.heap.objs.size≤c:=fun c hc=>by
  simp only [dN,rE,qR]at hc
  rcases hc with e | e | e | e | e <;> subst e <;> omega
 refine⟨_,[s1.heap.objs.size+4,s1.heap.objs.size+2,s1.heap.objs.size+3,s1.heap.objs.size,s1.heap.objs.size+1],_,_,H1,rfl,I2,abV a b _ _ _ _ _ (by simp),⟨g1,g2,⟨_,_,g3⟩,g4,g5⟩,fun c hc=>?_,q⟩;exact I1.pX (hle c hc) (I1.aH.fresh (hle c hc))
def rL:List A→List A→List A
 | x::xs,y::ys => .tup [x,y]::rL xs ys
 | _,_=>[]
theorem zip_get:∀(i:Nat) (xs ys:List A),(rL xs ys)[i]? = match xs[i]?,ys[i]? with | some x,some y=>some (.tup [x,y]) | _,_=>none
 | _,[],ys=>by simp [rL]
 | i,x::xs,[]=>by cases h:(x::xs)[i]? <;> simp [rL]
 | 0,x::xs,y::ys=>by simp [rL]
 | i+1,x::xs,y::ys=>by simpa [rL]using zip_get i xs ys
theorem VP:∀(xs ys:List A),(rL xs ys).length=min xs.length ys.length
 | [],ys=>by simp [rL]
 | x::xs,[]=>by simp [rL]
 | x::xs,y::ys=>by simp [rL,VP xs ys]
def zipSrc(a b:A)(ds es:List A):Src:=⟨rL ds es,fun Ω=>cK Ω a=some ds∧cK Ω b=some es⟩
@[simp] def Lw(f g:Ev→Mo A):Ev→Mo Src:=fun ρ=>mb (f ρ) fun a=>mb (g ρ) fun b Ω=>match cK Ω a,cK Ω b with
 | some ds,some es=>some (.ok (zipSrc a b ds es),Ω)
 | _,_=>none
theorem apD{K:Frag}{G:Hp}{ι:List Addr}{p p2:Addr}{a b:A}{ds es:List A}(d:Den K G ι (.ref p) a)(d2:Den K G ι (.ref p2) b):tU K G ι (UR K p p2) (zipSrc a b ds es):=by
 have key:∀{a:A} {p:Addr} {ds:List A},Den K G ι (.ref p) a→∀G' ι' Ω' H',Ext G ι G' ι'→Wd K G' ι' Ω' H'→cK Ω' a=some ds→∃xs,dG K H' p xs∧bD K G' ι' xs ds:=fun d G' ι' Ω' H' e w h=>by
  obtain⟨q,xs,h1,h2,h3⟩:=qV w (d.ext e) h;cases h1;exact⟨xs,h2,h3⟩
 refine⟨fun G' ι' Ω' H' e w h i hi=>?_,fun G' ι' Ω' H' e w h i hi=>?_,fun G' ι' Ω' H' e w h i x H2 y hy hd=>?_⟩
 ·obtain⟨xs,h2,h3⟩:=key d G' ι' Ω' H' e w h.1;obtain⟨ys,h4,h5⟩:=key d2 G' ι' Ω' H' e w h.2;have hl:i<min ds.length es.length:=by rw [← VP];exact hi
  have l1:i<xs.length:=by rw [h3.length];omega
  have l2:i<ys.length:=by rw [h5.length];omega
  exact⟨xs,ys,xs[i],ys[i],h2,h4,eX l1,eX l2⟩
 ·obtain⟨xs,h2,h3⟩:=key d G' ι' Ω' H' e w h.1;obtain⟨ys,h4,h5⟩:=key d2 G' ι' Ω' H' e w h.2;have hl:min ds.length es.length≤i:=by rw [← VP];exact hi
  exact⟨xs,ys,h2,h4,by rw [h3.length,h5.length];omega⟩
 ·obtain⟨xs,h2,h3⟩:=key d G' ι' Ω' H' e w h.1;obtain⟨ys,h4,h5⟩:=key d2 G' ι' Ω' H' e w h.2;obtain⟨q,z,z2,e1,e2,e3,e4,e5⟩:=hd;subst e2 e3;have jO:(rL ds es)[i]? = some y:=hy;rw [zip_get]at jO;cases ed:ds[i]? with
  | none=>rw [ed]at jO;cases jO
  | some d' =>
   cases ee:es[i]? with
   | none=>rw [ed,ee]at jO;cases jO
   | some d'' =>
    rw [ed,ee]at jO;cases jO;obtain⟨z',q1,q2⟩:=h3.get ed;rw [e4 xs h2]at q1;cases q1;obtain⟨z'',q3,q4⟩:=h5.get ee;rw [e5 ys h4]at q3;cases q3;refine⟨upd G' q (.tup [z,z2]),Ext.new (w.lA e1) _,w.new e1 _,?_⟩;simp only [Den];exact⟨q,[z,z2],rfl,eA,.cons (q2.ext (Ext.new (w.lA e1) _)) (.cons (q4.ext (Ext.new (w.lA e1) _)) .nil)⟩
theorem aa4{elts:List Expr}{x1:Nat}{tp p:Pos}{l l2:Expr}{fe Vs:Ev→Mo A}(hg:Gl X "zip")(hm:X.mg "zip" = none)(h:VE X W l fe)(h2:VE X W l2 Vs)(hs:starEach [l,l2] X.env=(false,eval l X.env)::starEach [l2] X.env:=by rfl)(tH:starEach [l2] X.env=[(false,eval l2 X.env)]:=by rfl) :
  VI X W (.Tuple elts x1 tp) (.Call (.Name "zip" p) [l,l2] [] pos) (Lw fe Vs):=by
 obtain⟨t,p,s⟩:=h;obtain⟨t2,p2,s2⟩:=h2;refine⟨_,akM hg hm p p2 hs tH,fun G ι Ω H σ ρ R w r h=>?_⟩;refine s G ι Ω H σ ρ _ w r (bQ.mb h fun a Ω1 v H1 G1 ι1 x1 w1 d1 h1=>?_);refine s2 G1 ι1 Ω1 H1 σ ρ _ w1 (r.ext x1) (bQ.mb h1 fun b Ω2 v2 H2 G2 ι2 x2 w2 d2 h3=>?_);cases e:cK Ω2 a with
 | none=>simp only [e]at h3;exact False.elim h3
 | some ds =>
  cases e2:cK Ω2 b with
  | none=>simp only [e,e2]at h3;exact False.elim h3
  | some es =>
   simp only [e,e2]at h3;obtain⟨q,xs,g1,g2,g3⟩:=qV w2 (d1.ext x2) e;obtain⟨q2,ys,g4,g5,g6⟩:=qV w2 d2 e2;subst g1 g4;exact⟨q,q2,rfl,rfl,⟨xs,g2⟩,⟨ys,g5⟩,h3 _ H2 G2 ι2 (Ext.refl _ _) w2 (apD (d1.ext x2) d2)⟩
end
section
variable{X:Cx}{pins:List (Addr×Obj)}{σ:L2.St}{H:Hp}{s:Shared}
theorem Inv.LP(I:Inv X pins σ H s):∃m,s.heap.Ns X.env.locals m∧Fr X.base X.env.locals s.heap m :=
 let ⟨m,hn,_⟩:=I.loc
 ⟨m,hn,hn,I.bk,qE I.ok.pN I.ok.above⟩
end
end V2
namespace L2
open PySem
theorem ab3{h h':Heap}{t:Addr}{xs:Array Value}(q:h.IsTuple t xs)(f:∀o,h.get? t=some o→h'.get? t=some o):h'.IsTuple t xs:=by
 obtain⟨o,q1,q2⟩:=q;exact⟨o,f o q1,q2⟩
open PySem PySem.Spec PyProof.Rows
theorem at0:entryFor table "dict_itemiterator.__iter__" = some Builtin.«dict_keyiterator.__iter__» :=
 entryFor_alias (id' := "dict_keyiterator.__iter__") (by kernel_rfl) (by rfl) (by decide +kernel) (by kernel_rfl)
theorem apL{prog:Program}{w:World}{A:Around}{E:Value→Shared→Prop}{s:Shared}{it d:Addr}{i n ep:Nat}{ok ov:Value}{Q:Value→Shared→Prop}(h:IsItemIter s.heap it d i n ep ok ov)(q:Q (.ref it) s):wpAny (model prog w) A (pyIter (.ref it)) Q E s:=by
 have ty:s.TypeIs (.ref it) "dict_itemiterator":=⟨_,h,rfl⟩;exact wpAny_pyIter_slot ty F.slot_dict_itemiterator_iter (NX F.slot_dict_itemiterator_iter ty at0 (dM ⟨_,rfl,_,_,ty,F.slot_dict_itemiterator_next.lookup,q⟩) (F.args_dict_itemiterator_iter_1 _))
end L2
namespace V2
open PySem PySem.Spec PyProof.Rows L2
def Ju(a:Addr)(o:Obj)(kvs:List (Key×V)):It :=
 ⟨fun i H=>H a=some (.dU o (.dK kvs))∧i<kvs.length,fun i H x H'=>∃p kv,kvs[i]? = some kv∧H p=none∧H'=upd H p (.tup [kV kv.1,kv.2])∧x = .ref p,fun i H=>H a=some (.dU o (.dK kvs))∧kvs.length≤i⟩
theorem Vi{X:Cx}{pins:List (Addr×Obj)}{σ:L2.St}{H:Hp}{s:Shared}{a:Addr}{o:Obj}{kvs:List (Key×V)}{es:Array DictEntry}{ep:Nat}(I:Inv X pins σ H s)(h:H a=some (.dU o (.dK kvs)))(hd:o.data = .dict es ep) :
  ∃vs,KV kvs vs∧Heap.DictAt (lO X.prog X.w) s.heap a vs ep:=by
 obtain⟨h1,z,y,vs,rel,o',oV,RU,q1,q2,q3,q4⟩:=I.aH a _ h;rw [h1]at q1;cases q1;rw [hd]at q3;cases q3;exact⟨vs,rel,o,es,h1,q2,hd,q4⟩
theorem ab1{P:Program}{w:World}{K:Frag}{elts:List Expr}{x1:Nat}{tp:Pos}(a it:Addr)(o:Obj)(kvs:List (Key×V))(es:Array DictEntry)(ep:Nat)(hd:o.data = .dict es ep) :
  Turn P w K (.Tuple elts x1 tp) (Ju a o kvs) [it] it (fun i h=>∃ok ov,IsItemIter h it a i kvs.length ep ok ov)where
 mem:=by simp
 obj:=fun i h st c hc=>by
  obtain⟨ok,ov,st⟩:=st;have e:c=it:=by simpa using hc
  subst e;exact⟨_,st,fun v z=>by cases z⟩
 keep:=fun i h h' st k=>by
  obtain⟨ok,ov,st⟩:=st;exact⟨ok,ov,k it (by simp) _ st⟩
 item:=by
  intro X hP hw hK hc i pins s σ H E I hf st hg;subst hP hw hK;obtain⟨ok,ov,st⟩:=st;obtain⟨hH,hi⟩:=hg;obtain⟨vs,rel,dat⟩:=Vi I hH hd;have hl:kvs.length=vs.length:=rel.length;have Dh:kvs[i]? = some kvs[i]:=eX hi;generalize kvs[i]=kv at Dh;obtain⟨BE,g1,g2,g3⟩:=Py rel Dh;have hsz:it<s.heap.objs.size:=dA st;rw [hl]at st;refine wpAny_pyNext_items_item (k:=BE.1) (v:=BE.2) st dat g1 fun key h1 hk a1 a2 a3 a4=>?_;refine⟨_,rfl,wpAny_letOwnedTupleGo_items (s:={ s with heap:=h1 }) a1 fun h2 e2 sb=>?_⟩;have kB:H s.heap.objs.size=none:=I.aH.fresh cJ;have k2:∀c o,c∉[it]→s.heap.get? c=some o→h2.get? c=some o:=fun c o hc q=>by
   have hc:c≠it:=by simpa using hc
   exact sb.extBut c o hc (a4 c o hc q)
  have t2:h2.get? s.heap.objs.size=some { cls := .type "tuple",data := .seq #[key,BE.2] }:=sb.extBut _ _ (CY hsz) a2;have I1:Inv X pins σ H { s with heap:=h2 }:=Inv.OL (t':=s.toks) I k2 hf;have rk:RelV (kV kv.1) key:=by rw [g2];exact apN hk
  have aH:eY X.prog X.w (upd H s.heap.objs.size (.tup [kV kv.1,kv.2])) h2:=by
   refine fun b o q=>?_
   by_cases eb:b=s.heap.objs.size
   ·subst eb;rw [eA]at q;cases q;exact⟨by show 2≤sizeLine;decide,[key,BE.2],.cons rk (.cons g3 .nil),⟨_,t2,rfl,_,rfl⟩⟩
   ·rw [bP eb]at q;exact(I1.aH b o q).mD (fun c v _ z=>z) (fun c z=>by rw [bP (gT z kB)];exact z) fun c xs z=>by rw [bP (gT z kB)];exact z
  have fp:mP X pins H s.heap.objs.size:=I.pX cJ kB;have h0:X.s₀.heap.get? s.heap.objs.size=none:=by
   cases q:X.s₀.heap.get? s.heap.objs.size with
   | none=>rfl
   | some ob=>exact absurd (kE (dA q) I.sz) (Nat.lt_irrefl _)
  have I2:Inv X pins σ (upd H s.heap.objs.size (.tup [kV kv.1,kv.2])) { s with heap:=h2 }:=Inv.ON I1 kB h0 fp.2.1 fp.2.2.2.2.1 fp.2.2.2.2.2 aH;rw [← hl]at e2;refine⟨.ref s.heap.objs.size,_,I2,rfl,⟨_,kv,Dh,kB,rfl,rfl⟩,⟨_,_,e2⟩,fun c hc=>?_⟩;have yM:=(hf c hc).1;have e:c=it:=by simpa using hc
  subst e;rw [bP (iE hsz)];exact yM
 done:=by
  intro X hP hw hK hc i pins s σ H E I hf st hg;subst hP hw hK;obtain⟨ok,ov,st⟩:=st;obtain⟨hH,hi⟩:=hg;obtain⟨vs,rel,dat⟩:=Vi I hH hd;have hl:kvs.length=vs.length:=rel.length;rw [hl]at st;refine wpAny_pyNext_items_end (I.ok.hd hc) st dat (by simp;omega) fun h' hk=>⟨rfl,Inv.OL (t':=s.toks) I (fun c o hc q=>hk c o (by simpa using hc) q) hf⟩
 self:=fun _ _ _ _ _ st h=>by
  obtain⟨ok,ov,st⟩:=st;exact apL st h
theorem Inv.atD{X:Cx}{pins:List (Addr×Obj)}{σ:L2.St}{H:Hp}{s:Shared}{a:Addr}{kvs:List (Key×V)}{o:Obj}(I:Inv X pins σ H s)(h:H a=some (.dK kvs))(ho:s.heap.get? a=some o):Inv X pins σ (upd H a (.dU o (.dK kvs))) s where
 ok:=I.ok
 os:=I.os
 bare:=I.bare
 base:={
  keep:=I.base.keep
  slot:=I.base.slot
  free:=fun b ob q n hx=>by
   have z:=I.base.free b ob q n hx;rw [bP (cQ (gT h z))];exact z
  there:=I.base.there
  mT:=fun b xs q=>by have z:=I.base.mT b xs q;rw [bP (AV z h (by intro w;cases w))];exact z
  lD:=fun b ob u q=>by have z:=I.base.lD b ob u q;rw [bP (AV z h (by intro w;cases w))];exact z
  mB:=fun b ps q=>by obtain⟨more,z⟩:=I.base.mB b ps q;exact⟨more,by rw [bP (AV z h (by intro w;cases w))];exact z⟩ }
 loc:=I.loc
 cell:=I.cell
 free:=by rw [bP (cQ (gT h I.free))];exact I.free
 mJ:=fun x c q=>by rw [bP (cQ (gT h (I.mJ x c q)))];exact I.mJ x c q
 pin:=fun q hq=>by
  obtain⟨x,y,c⟩:=I.pin q hq;exact⟨x,by rw [bP (cQ (gT h y))];exact y,c⟩
 aH:=fun b u q=>by
  have st:∀c v,H c=some v→v ≠ .dK kvs→upd H a (.dU o (.dK kvs)) c=some v:=fun c v z hv=>by rw [bP (AV z h hv)];exact z
  by_cases eb:b=a
  ·subst eb;rw [eA]at q;cases q;exact⟨ho,(I.aH b _ h).mD (fun c v _ z=>z) (fun c z=>st c _ z (by intro w;cases w)) fun c xs z=>st c _ z (by intro w;cases w)⟩
  ·rw [bP eb]at q;exact(I.aH b u q).mD (fun c v _ z=>z) (fun c z=>st c _ z (by intro w;cases w)) fun c xs z=>st c _ z (by intro w;cases w)
 len:=I.len
section
variable{X:Cx}{W:WX}{pos:Pos}
theorem akR{o:Expr}{td:TE}{elts:List Expr}{x1:Nat}{tp apos q2:Pos}(ho:PE X o td)(wO:attributeBase o "items" X.env (eval o X.env)=eval o X.env:=by rfl)(BP:(apos.endLine == q2.line)=true:=by rfl) :
  PI X (.Tuple elts x1 tp) (.Call (.Attribute o "items" apos) [] [] q2) (fun σ H R=>td σ H fun x H1=>∃a kvs,x = .ref a∧H1 a=some (.dK kvs)∧∀ob,R (Ju a ob kvs) (upd H1 a (.dU ob (.dK kvs)))):=by
 intro pins s σ H R I h;refine wpAny_Call_method0_late wO BP (bG (ho pins s σ H _ I h) fun v s1 ⟨x,H1,I1,r1,q1⟩=>?_);obtain⟨a,kvs,rfl,hH,q⟩:=q1;cases r1;obtain⟨h1,h2,hsm⟩:=Sj I1 (.inl ⟨kvs,.inl hH⟩);obtain⟨z,_,vs,rel,dd⟩:=Gi I1.aH hH;refine⟨"dict", "dict.items",PySem.F.plainAttrs_dict,PySem.F.slot_dict_items,PySem.F.type_dict_items,h1,h2,aaH rfl (PySem.evalArgs_none ?_)⟩;refine call_meetsIn PySem.F.slot_dict_items dd.typeIs PySem.F.entry_dict_items (PySem.F.args_dict_items_1 _) (meets_dict_items (lO X.prog X.w) a hsm) ⟨⟨vs,dd⟩,?_⟩;obtain⟨ob,es,ep,g1,g2,g3,g4⟩:=dd;have hl:kvs.length=vs.length:=rel.length;have I2:Inv X pins σ H1 { s1 with heap:=s1.heap.push { cls := .type "dict_items",data := .fields #[.ref a] } }:=I1.kept (t':=s1.toks) fun b o e=>eL _ e;have dat:Heap.DictAt (lO X.prog X.w) (s1.heap.push { cls := .type "dict_items",data := .fields #[.ref a] }) a vs ep:=⟨ob,es,eL _ g1,g2,g3,g4⟩;refine wpAny_pyIter_items (s:={ s1 with heap:=s1.heap.push { cls := .type "dict_items",data := .fields #[.ref a] } }) ⟨_,kH _ rfl,rfl,rfl⟩ dat ?_;generalize tH:({ s1 with heap:=s1.heap.push { cls := .type "dict_items",data := .fields #[.ref a] } }:Shared)=s2 at I2 dat;have ga:s2.heap.get? a=some ob:=by rw [← tH];exact eL _ g1
 have I3:=V2.Inv.atD I2 hH ga;have I4:Inv X pins σ (upd H1 a (.dU ob (.dK kvs))) { s2 with heap:=s2.heap.push { cls := .type "dict_itemiterator",data := .fields #[.none,.bool false,.ref a,.int 0 0,.int vs.length 0,.int ep 0,.none,.none] } }:=I3.kept (t':=s2.toks) fun b o e=>eL _ e;have QY:s2.heap=s1.heap.push { cls := .type "dict_items",data := .fields #[.ref a] }:=by rw [← tH]
 refine⟨s2.heap.objs.size,[s2.heap.objs.size],_,_,_,rfl,I4,ab1 a _ ob kvs es ep g3,⟨.none,.none,by rw [hl];exact kH _ rfl⟩,fun c hc=>?_,q ob⟩;have e:c=s2.heap.objs.size:=by simpa using hc
 subst e;exact I3.pX cJ (I3.aH.fresh cJ)
def JN(kvs:List (Key×A)):Src:=⟨kvs.map JO,fun _=>True⟩
@[simp] def Ma(f:Ev→Mo A):Ev→Mo Src:=fun ρ=>mb (f ρ) fun a Ω=>match oY Ω a with
 | some (k,kvs)=>some (.ok (JN kvs),Ω.set k .dead)
 | none=>none
theorem apJ{K:Frag}{G:Hp}{ι:List Addr}{p:Addr}{o:Obj}{ws:List (Key×V)}{kvs:List (Key×A)}(hG:G p=some (.dU o (.dK ws)))(hk:ws.map (·.1)=kvs.map (·.1))(d:bD K G ι (ws.map (·.2)) (kvs.map (·.2))):tU K G ι (Ju p o ws) (JN kvs):=by
 have hl:ws.length=kvs.length:=by have:=congrArg List.length hk;simpa using this
 have ls:(JN kvs).ds.length=kvs.length:=by simp [JN]
 refine⟨fun G' ι' Ω' H' e w h i hi=>⟨w.sub _ _ (e.same _ _ hG),by rw [hl,← ls];exact hi⟩,fun G' ι' Ω' H' e w h i hi=>⟨w.sub _ _ (e.same _ _ hG),by rw [hl,← ls];exact hi⟩,fun G' ι' Ω' H' e w h i x H2 y hy hd=>?_⟩;obtain⟨q,kv,g1,g2,rfl,rfl⟩:=hd;have jO:(kvs.map JO)[i]? = some y:=hy;rw [kG]at jO;cases ek:kvs[i]? with
 | none=>rw [ek]at jO;cases jO
 | some BE =>
  rw [ek]at jO;cases jO;have k1:kv.1=BE.1:=by
   have:=congrArg (fun l=>l[i]?) hk;simp only [kG,g1,ek,UE,kD]at this;exact this
  obtain⟨z,z1,z2⟩:=d.get (i:=i) (d:=BE.2) (by rw [kG,ek];rfl);rw [kG,g1]at z1;cases z1;refine⟨upd G' q (.tup [kV kv.1,kv.2]),Ext.new (w.lA g2) _,w.new g2 _,?_⟩;simp only [JO,Den];exact⟨q,[kV kv.1,kv.2],rfl,eA,.cons (by rw [k1];exact auG _) (.cons ((z2.ext e).ext (Ext.new (w.lA g2) _)) .nil)⟩
theorem aa6{o:Expr}{f:Ev→Mo A}{elts:List Expr}{x1:Nat}{tp apos q2:Pos}(ho:VE X W o f)(wO:attributeBase o "items" X.env (eval o X.env)=eval o X.env:=by rfl)(BP:(apos.endLine == q2.line)=true:=by rfl) :
  VI X W (.Tuple elts x1 tp) (.Call (.Attribute o "items" apos) [] [] q2) (Ma f):=by
 obtain⟨t,p,s⟩:=ho;refine⟨_,akR p wO BP,fun G ι Ω H σ ρ R w r h=>?_⟩;refine s G ι Ω H σ ρ _ w r (bQ.mb h fun a Ω1 v H1 G1 ι1 x1 w1 d1 h1=>?_);split at h1
 ·rename_i k kvs e;obtain⟨p,ws,rfl,hk,g,q1,q2,q3⟩:=GH w1 d1 e;refine⟨p,ws,rfl,q1,fun ob=>?_⟩;have w2:=w1.put (k:=k) (c := .dead) (o := .dU ob (.dK ws)) hk g trivial;have w3:=w2.freeze hk g eA;rw [zH]at w3;have e0:Ext G1 ι1 (upd G1 p (.dU ob (.dK ws))) ι1:=Ext.new g _;exact h1 _ _ _ _ e0 w3 (apJ eA q2 (q3.ext e0))
 ·exact False.elim h1
end
end V2
namespace L2
open PySem PySem.Spec PyProof.Rows
theorem av9{M:Model}{A:Around}{E:Value→Shared→Prop}{s:Shared}{env:Env}{pos:Pos}{T:String}{e:Expr}{rest:List Expr}{FC:List Keyword}{Q:Value→Shared→Prop}
  (h:wpAny M A (spliced (backTo pos (starEach (e::rest) env))) (fun vs s₁=>wpAny M A (evalAll ((backToKw pos (keywordEach FC env)).map fun x=>x.2)) (fun kvs s₂=>wpAny M A (call (.type T) vs (((backToKw pos (keywordEach FC env)).filterMap fun x=>x.1).zip kvs)) Q E s₂) E s₁) E s)
  (h1:backTo pos (starEach (e::rest) env)=(false,eval e env)::backTo pos (starEach rest env):=by rfl) (h2:((backTo pos (starEach (e::rest) env)).any fun x=>x.1)=false:=by rfl)
  (h3:((backToKw pos (keywordEach FC env)).all fun x=>x.1.isSome)=true:=by rfl) (h4:((backToKw pos (keywordEach FC env)).any fun x=>x.1.isNone)=false:=by rfl) :
  wpAny M A (callWith pos (.type T) [] (backTo pos (starEach (e::rest) env)) (backToKw pos (keywordEach FC env))) Q E s:=by
 unfold callWith;refine aZ (xK ?_);rw [h2,h4];rw [h1]at h ⊢;refine evalArgs_kwB h3 ?_;refine kJ h (fun vs s1 q=>kJ q (fun kvs s2 q2=>?_) fun _ _ z=>z) fun _ _ z=>z;refine aZ (wpAny_standAt ?_);refine aZ (dM ?_);refine aZ (kJ q2 (fun r s3 q3=>?_) fun _ _ z=>z);exact aZ (xK (wpAny_point (dM q3)))
theorem kwT(t:Tok)(l:Addr):checkTypeCall "enumerate" { pos:=[.ref l],kw:=[(Str.ofString "start",.int 1 t)] }=pure ():=by kernel_rfl
theorem kwN(t:Tok)(l:Addr):checkBuiltinCall "enumerate.__new__" { pos:=[.type "enumerate",.ref l],kw:=[(Str.ofString "start",.int 1 t)] }=pure ():=by kernel_rfl
theorem kwI(t:Tok)(o:Value)(l:Addr):argsOk "object.__init__" { pos:=[o,.ref l],kw:=[(Str.ofString "start",.int 1 t)] }:=by kernel_rfl
theorem av7{prog:Program}{w:World}{A:Around}{E:Value→Shared→Prop}{s:Shared}{l:Addr}{items:Array Value}{t:Tok}{Q:Value→Shared→Prop}(hl:s.heap.IsList l items)
  (hQ:∀h',IsEnum h' (s.heap.objs.size+1) s.heap.objs.size 1 .none→h'.IsListIter s.heap.objs.size l 0→h'.objs.size=s.heap.objs.size+2→(∀b o,s.heap.get? b=some o→h'.get? b=some o)→Q (.ref (s.heap.objs.size+1)) { s with heap:=h' }) :
  wpAny (model prog w) A (call (.type "enumerate") [.ref l] [(Str.ofString "start",.int 1 t)]) Q E s:=by
 refine xM ?_;refine codeAny_of_tree ?_;show wpAny _ _ (pure (Fin.again (Code.builtin "type.__call__" { pos:=[.type "enumerate",.ref l],kw:=[(Str.ofString "start",.int 1 t)] }))) _ _ s;refine dM ⟨Code.quiet_builtin _ (by decide +kernel),?_⟩;refine codeAny_builtin F.entry_type_call ?_;rw [Around.under_plain (weight_type_call_type ..) (units_type_call_type ..)];have TC:=F.called_enumerate;unfold Builtin.«type.__call__»;refine rM TC.notType ?_;refine rM TC.canCreate ?_;refine aZ (oB (kwT t l) ?_);obtain⟨c,tl,hm⟩:=TC.mro;refine aZ (oB hm ?_);refine rM rfl ?_;refine aZ (oB TC.made ?_);refine aZ (dM ?_);refine aZ (xK (xM (codeAny_call_builtin TC.plain F.entry_enumerate_new (oB (kwN t l) ?_))));unfold Builtin.«enumerate.__new__» Builtin.SmallTypes.newClass;refine aZ (aZ (oB (a:=true) rfl ?_));refine rM rfl ?_;refine aZ (oB TC.sub ?_);refine rM rfl (dM ?_);refine NW rfl ?_;unfold Builtin.SmallTypes.calledThroughType;refine aZ (aZ (wpAny_stack_any fun st=>dM ?_));have fin:∀(h':Heap),IsEnum h' (s.heap.objs.size+1) s.heap.objs.size 1 .none→h'.IsListIter s.heap.objs.size l 0→h'.objs.size=s.heap.objs.size+2→(∀b o,s.heap.get? b=some o→h'.get? b=some o) →
   ∀{Q':PySem.Fin→Shared→Prop} {E':Value→Shared→Prop},(∀s',Q (.ref (s.heap.objs.size+1)) s'→Q' (.done (.ret (.ref (s.heap.objs.size+1)))) s') →
   wpAny (model prog w) A.in1 (do
       let __do_lift ← isInstance (.ref (s.heap.objs.size+1)) (Value.type "enumerate")
       if(!__do_lift)=true then do
         rule "type.call.new-gave-other-type"
         ret (.ref (s.heap.objs.size+1))
        else do
         let __do_lift ←
          holding [.ref (s.heap.objs.size+1)]
            (callSpecial? (.ref (s.heap.objs.size+1)) (Str.ofString "__init__") [Value.ref l] [(Str.ofString "start",Value.int 1 t)])
         match __do_lift with
          | none=>ret (.ref (s.heap.objs.size+1))
          | some r =>
           if(r != Value.none)=true then do
            rule "type.call.init-returned-value"
            let __do_lift ← typeNameOf r
            raiseErrorMade "TypeError"
              (toString "__init__() should return None, not '" ++ toString __do_lift++toString "'")
            ret (.ref (s.heap.objs.size+1))
           else ret (.ref (s.heap.objs.size+1))) Q' E' { s with heap:=h' }:=by
  intro h' g1 g2 g3 g4 Q' E' hq;have ty:({ s with heap:=h' }:Shared).TypeIs (.ref (s.heap.objs.size+1)) "enumerate":=⟨_,g1,rfl⟩;refine aZ (wpAny_isInstance (b:=true) ty TC.sub ?_);refine rM rfl ?_;refine aZ (xK (VX ty TC.init ?_));refine xM (codeAny_call_builtin TC.init.plain F.entry_object_init (TC.init.check _ _ _ _ _ _ _ _ ty (kwI t _ l) ?_));unfold Builtin.«object.__init__»;refine NW rfl ?_;refine aZ (wpAny_typeOf ty ?_);refine aZ (oB TC.init.lookup ?_);refine aZ (oB TC.made ?_);refine rM rfl ?_;refine rM (by simp) ?_;refine dM ?_;refine rM rfl ?_;exact dM (hq _ (hQ h' g1 g2 g3 g4))
 dsimp only;split
 ·split
  ·refine aZ (oB (a:=(.ref l,some (.int 1 t))) (by kernel_rfl) ?_);refine aZ (oB (a := .int 1 t) (by kernel_rfl) ?_);refine aZ (oB (a:=some 1) (by kernel_rfl) ?_);refine rM rfl ?_;refine aZ (VR hl ?_);unfold Builtin.SmallTypes.newRecord;refine aZ (vG ?_ (show 6≤sizeLine+2 by decide));refine dM ?_;have e1:(s.heap.push { cls := .type "list_iterator",data := .fields #[.ref l,.int 0 0] }).objs.size=s.heap.objs.size+1:=tV _ _;have k:∀{Q':PySem.Fin→Shared→Prop} {E':Value→Shared→Prop},_→wpAny _ _ _ Q' E' _:=fin _ (Heap.get?_push_at (h:=s.heap.push { cls := .type "list_iterator",data := .fields #[.ref l,.int 0 0] }) (o:={ cls := .type "enumerate",data := .fields #[.none,.bool false,.ref s.heap.objs.size,rawInt 1,.none,.none] }) e1.symm rfl) ⟨{ cls := .type "list_iterator",data := .fields #[.ref l,.int 0 0] },eL _ (kH _ rfl),rfl,rfl⟩ (by simp only [tV]) (fun b o q=>eL _ (eL _ q));show wpAny _ _ (isInstance (Value.ref (s.heap.push { cls := .type "list_iterator",data := .fields #[.ref l,.int 0 0] }).objs.size) _ >>= _) _ _ _;rw [e1];exact k fun s' hs=>hs
  ·refine aZ (oB (a:=(.ref l,some (.int 1 t))) (by kernel_rfl) ?_);refine aZ (oB (a := .int 1 t) (by kernel_rfl) ?_);refine aZ (oB (a:=some 1) (by kernel_rfl) ?_);refine rM rfl ?_;refine aZ (VR hl ?_);unfold Builtin.SmallTypes.newRecord;refine aZ (vG ?_ (show 6≤sizeLine+2 by decide));refine dM ?_;have e1:(s.heap.push { cls := .type "list_iterator",data := .fields #[.ref l,.int 0 0] }).objs.size=s.heap.objs.size+1:=tV _ _;have k:∀{Q':PySem.Fin→Shared→Prop} {E':Value→Shared→Prop},_→wpAny _ _ _ Q' E' _:=fin _ (Heap.get?_push_at (h:=s.heap.push { cls := .type "list_iterator",data := .fields #[.ref l,.int 0 0] }) (o:={ cls := .type "enumerate",data := .fields #[.none,.bool false,.ref s.heap.objs.size,rawInt 1,.none,.none] }) e1.symm rfl) ⟨{ cls := .type "list_iterator",data := .fields #[.ref l,.int 0 0] },eL _ (kH _ rfl),rfl,rfl⟩ (by simp only [tV]) (fun b o q=>eL _ (eL _ q));show wpAny _ _ (isInstance (Value.ref (s.heap.push { cls := .type "list_iterator",data := .fields #[.ref l,.int 0 0] }).objs.size) _ >>= _) _ _ _;rw [e1];exact k fun s' hs=>hs
 ·refine rM rfl ?_;refine aZ (oB (a:=(.ref l,some (.int 1 t))) (by kernel_rfl) ?_);refine aZ (oB (a := .int 1 t) (by kernel_rfl) ?_);refine aZ (oB (a:=some 1) (by kernel_rfl) ?_);refine rM rfl ?_;refine aZ (VR hl ?_);unfold Builtin.SmallTypes.newRecord;refine aZ (vG ?_ (show 6≤sizeLine+2 by decide));refine dM ?_;have e1:(s.heap.push { cls := .type "list_iterator",data := .fields #[.ref l,.int 0 0] }).objs.size=s.heap.objs.size+1:=tV _ _;have k:∀{Q':PySem.Fin→Shared→Prop} {E':Value→Shared→Prop},_→wpAny _ _ _ Q' E' _:=fin _ (Heap.get?_push_at (h:=s.heap.push { cls := .type "list_iterator",data := .fields #[.ref l,.int 0 0] }) (o:={ cls := .type "enumerate",data := .fields #[.none,.bool false,.ref s.heap.objs.size,rawInt 1,.none,.none] }) e1.symm rfl) ⟨{ cls := .type "list_iterator",data := .fields #[.ref l,.int 0 0] },eL _ (kH _ rfl),rfl,rfl⟩ (by simp only [tV]) (fun b o q=>eL _ (eL _ q));show wpAny _ _ (isInstance (Value.ref (s.heap.push { cls := .type "list_iterator",data := .fields #[.ref l,.int 0 0] }).objs.size) _ >>= _) _ _ _;rw [e1];exact k fun s' hs=>hs
theorem anE{prog:Program}{w:World}{A:Around}{E:Value→Shared→Prop}{s:Shared}{e it l:Addr}{j:Int}{i:Nat}{items:Array Value}{x old:Value}{Q:Option Value→Shared→Prop}(he:IsEnum s.heap e it j old)(hi:s.heap.IsListIter it l i)(hl:s.heap.IsList l items)(hx:items[i]? = some x)(eW:e≠it)
  (hQ:∀h',IsEnumOut h' e it (j+1) x s.heap.objs.size→h'.IsListIter it l (i+1)→h'.get? s.heap.objs.size=some { cls := .type "tuple",data := .seq #[.int j s.toks,x] }→h'.objs.size=s.heap.objs.size+1 →
   (∀b o,b≠e→b≠it→s.heap.get? b=some o→h'.get? b=some o)→Q (some (.ref s.heap.objs.size)) { s with heap:=h',toks:=s.toks+1 }):wpAny (model prog w) A (pyNext (.ref e)) Q E s:=by
 have ty:s.TypeIs (.ref e) "enumerate":=⟨_,he,rfl⟩;have BJ:e<s.heap.objs.size:=dA he;unfold pyNext;refine aZ (wpAny_attempt (VX ty Ke (NX Ke ty F.entry_enumerate_next ?_ (F.args_enumerate_next_1 _))));unfold Builtin.«enumerate.__next__»;refine aZ (dM ?_);refine aZ (qK he rfl (i:=2) rfl ?_);refine aZ (wpAny_nextOf_list_item hi hl hx fun h1 n1 YN=>?_);have e1:=YN.extBut _ _ eW he;refine aZ (qK e1 rfl (i:=3) rfl ?_);refine aZ (qK e1 rfl (i:=4) rfl ?_);refine NW rfl ?_;refine aZ (wpAny_mkInt' ?_);refine aZ (NV e1 (by simp) fun h2 e2 Oe=>?_);refine aZ (NV e2 (by simp) fun h3 e3 Od=>?_);refine aZ (wpAny_newTuple ?_ (show 2≤sizeLine by decide));have sz:h3.objs.size=s.heap.objs.size:=Od.1.trans (Oe.1.trans YN.1);have p3:=eL { cls := .type "tuple",data := .seq [Value.int j s.toks,x].toArray } e3;unfold Builtin.SmallTypes.ownedTupleIsFree;refine aZ (aZ (qK p3 rfl (i:=0) rfl (dM ?_)));refine NW rfl ?_;refine aZ (wpAny_rule ?_);refine aZ (qK p3 rfl (i:=5) rfl ?_);refine aZ (NV p3 (by simp) fun h5 e5 Oc=>?_);unfold Builtin.SmallTypes.ownedTupleHandOut;refine aZ (aZ (NV e5 (by simp) fun h6 e6 Ob=>?_));refine NV e6 (by simp) fun h7 e7 Oa=>?_;refine aZ (wpAny_letGo ?_);refine dM ⟨_,rfl,dM ?_⟩;show Q (some (.ref h3.objs.size)) { s with heap:=h7,toks:=s.toks+1 };rw [sz];have k5:∀b o,b≠e→(h3.push { cls := .type "tuple",data := .seq [Value.int j s.toks,x].toArray }).get? b=some o→h7.get? b=some o:=fun b o q1 q=>Oa.extBut _ _ q1 (Ob.extBut _ _ q1 (Oc.extBut _ _ q1 q));have k3:∀b o,b≠e→h1.get? b=some o→h7.get? b=some o:=fun b o q1 q=>k5 b o q1 (eL _ (Od.extBut _ _ q1 (Oe.extBut _ _ q1 q)));have hp:(h3.push { cls := .type "tuple",data := .seq [Value.int j s.toks,x].toArray }).get? s.heap.objs.size=some { cls := .type "tuple",data := .seq #[.int j s.toks,x] }:=by
  rw [← sz];exact kH _ rfl
 rw [sz]at e7;refine hQ h7 e7 ?_ (k5 _ _ (CY BJ) hp) (by rw [Oa.1,Ob.1,Oc.1,tV,sz]) fun b o q1 q2 q=>k3 b o q1 (YN.extBut _ _ q2 q);exact n1.at fun o q=>k3 it o (cQ eW) q
theorem anF{prog:Program}{w:World}{A:Around}{E:Value→Shared→Prop}{s:Shared}{e it l:Addr}{j:Int}{i:Nat}{items:Array Value}{old:Value}{Q:Option Value→Shared→Prop}(hh:A.handled=none)(he:IsEnum s.heap e it j old)(hi:s.heap.IsListIter it l i)(hl:s.heap.IsList l items)(hx:items[i]? = none)
  (hQ:∀h',Heap.ExtBut it s.heap h'→Q none { s with heap:=h' }):wpAny (model prog w) A (pyNext (.ref e)) Q E s:=by
 have ty:s.TypeIs (.ref e) "enumerate":=⟨_,he,rfl⟩;unfold pyNext;refine aZ (wpAny_attempt (VX ty Ke (NX Ke ty F.entry_enumerate_next ?_ (F.args_enumerate_next_1 _))));unfold Builtin.«enumerate.__next__»;refine aZ (dM ?_);refine aZ (qK he rfl (i:=2) rfl ?_);refine aZ (wpAny_nextOf_list_end hh hi hl hx fun h1 e xb g2=>?_);refine aZ (wpAny_isInstance (T := "StopIteration") g2 isSubtype_stop ?_);exact NW rfl (dM (hQ h1 xb))
end L2
namespace V2
open PySem PySem.Spec PyProof.Rows L2
def UT(K:Frag)(a:Addr):It :=
 ⟨fun i H=>∃xs x,dG K H a xs∧xs[i]? = some x,fun i H x H'=>∃p y,H p=none∧H'=upd H p (.tup [.int ((i:Int)+1),y])∧x = .ref p∧∀xs,dG K H a xs→xs[i]? = some y,fun i H=>∃xs,dG K H a xs∧xs.length≤i⟩
theorem abZ{P:Program}{w:World}{K:Frag}{elts:List Expr}{x1:Nat}{tp:Pos}(a e it:Addr)(eW:e≠it):Turn P w K (.Tuple elts x1 tp) (UT K a) [e,it] e (fun i h=>(∃old,IsEnum h e it ((i:Int)+1) old)∧h.IsListIter it a i)where
 mem:=by simp
 obj:=fun i h st b hb=>by
  obtain⟨⟨old,mV⟩,o,q,c,d⟩:=st
  rcases dN.mp hb with z | z
  ·subst z;exact⟨_,mV,fun v z=>by cases z⟩
  ·have z:b=it:=by simpa using z
   subst z;exact⟨o,q,fun v z=>by rw [d]at z;cases z⟩
 keep:=fun i h h' st k=>⟨let ⟨old,q⟩:=st.1; ⟨old,k e (by simp) _ q⟩,st.2.at fun o q=>k it (by simp) o q⟩
 item:=by
  intro X hP hw hK hc i pins s σ H E I hf st hg;subst hP hw hK;obtain⟨⟨old,mV⟩,mE⟩:=st;obtain⟨xs,x,hq,hx⟩:=hg;obtain⟨aQ,rv,p,hz⟩:=I.list hq;obtain⟨u,hu,ru⟩:=rv.get hx;have fe:=hf e (by simp);have ft:=hf it (by simp);have BJ:e<s.heap.objs.size:=dA mV;have Cw:it<s.heap.objs.size:=let ⟨_,q,_⟩:=mE;dA q;refine anE mV mE p.isList (x:=u) (by simpa using hu) eW fun h1 e1 i1 t1 z1 k1=>?_;refine⟨_,rfl,wpAny_letOwnedTupleGo_enum (s:={ s with heap:=h1,toks:=s.toks+1 }) e1 fun h2 e2 s2=>?_⟩;have kB:H s.heap.objs.size=none:=I.aH.fresh cJ;have k2:∀b o,b≠e→b≠it→s.heap.get? b=some o→h2.get? b=some o:=fun b o n1 n2 q=>s2.extBut b o n1 (k1 b o n1 n2 q);have t2:h2.get? s.heap.objs.size=some { cls := .type "tuple",data := .seq #[.int ((i:Int)+1) s.toks,u] }:=s2.extBut _ _ (CY BJ) t1;have I1:Inv X pins σ H { s with heap:=h2,toks:=s.toks+1 }:=Inv.Ml (t':=s.toks+1) I k2 fe ft;have i2:h2.IsListIter it a (i+1):=i1.extBut s2.extBut (cQ eW);have aH:eY X.prog X.w (upd H s.heap.objs.size (.tup [.int ((i:Int)+1),x])) h2:=by
   refine fun b o q=>?_
   by_cases eb:b=s.heap.objs.size
   ·subst eb;rw [eA]at q;cases q;exact⟨by show 2≤sizeLine;decide,[.int ((i:Int)+1) s.toks,u],.cons ⟨_,rfl⟩ (.cons ru .nil),⟨_,t2,rfl,_,rfl⟩⟩
   ·rw [bP eb]at q;exact(I1.aH b o q).mD (fun c v _ z=>z) (fun c z=>by rw [bP (gT z kB)];exact z) fun c xs z=>by rw [bP (gT z kB)];exact z
  have fp:mP X pins H s.heap.objs.size:=I.pX cJ kB;have h0:X.s₀.heap.get? s.heap.objs.size=none:=by
   cases q:X.s₀.heap.get? s.heap.objs.size with
   | none=>rfl
   | some ob=>exact absurd (kE (dA q) I.sz) (Nat.lt_irrefl _)
  have I2:Inv X pins σ (upd H s.heap.objs.size (.tup [.int ((i:Int)+1),x])) { s with heap:=h2,toks:=s.toks+1 }:=Inv.ON I1 kB h0 fp.2.1 fp.2.2.2.2.1 fp.2.2.2.2.2 aH;refine⟨.ref s.heap.objs.size,_,I2,rfl,⟨_,x,kB,rfl,rfl,fun ys hy=>by rw [I.JL hy hq];exact hx⟩,⟨⟨_,by rw [Int.natCast_add];exact e2⟩,i2⟩,fun b hb=>?_⟩
  rcases dN.mp hb with z | z
  ·subst z;rw [bP (iE BJ)];exact fe.1
  ·have z:b=it:=by simpa using z
   subst z;rw [bP (iE Cw)];exact ft.1
 done:=by
  intro X hP hw hK hc i pins s σ H E I hf st hg;subst hP hw hK;obtain⟨⟨old,mV⟩,mE⟩:=st;obtain⟨xs,hq,hx⟩:=hg;obtain⟨aQ,rv,p,hz⟩:=I.list hq;obtain⟨f0,f1,f2,f3,f4,f5⟩:=hf it (by simp);have hl:=rv.length;exact anF (I.ok.hd hc) mV mE p.isList (by simp;omega) fun h' eb=>⟨rfl,I.turned (t':=s.toks) (fun b o hb e=>eb b o hb e) f0 f1 f3 f4 f5⟩
 self:=fun _ _ _ _ _ st h=>let ⟨_,q⟩:=st.1;VU q h
section
variable{X:Cx}{W:WX}{pos:Pos}
theorem akP{elts:List Expr}{x1:Nat}{tp p kp vp:Pos}{jj:Nat}{l:Expr}{tl:TE}(hg:Gl X "enumerate")(hm:X.mg "enumerate" = none)(hl:PE X l tl)(hs:starEach [l] X.env=[(false,eval l X.env)]:=by rfl) :
  PI X (.Tuple elts x1 tp) (.Call (.Name "enumerate" p) [l] [⟨some "start", .Constant (.int 1) jj vp,kp⟩] pos) (fun σ H R=>tl σ H fun x H1=>∃a,x = .ref a∧(∃xs,dG X.K H1 a xs)∧R (UT X.K a) H1):=by
 intro pins s σ H R I h;refine vH (BC I hg hm boot_enumerate ?_);refine av9 (bG (AM hl IW hs pos pins s σ H (fun vs H1=>match vs with
  | [x]=>∃a,x=V.ref a∧(∃xs,dG X.K H1 a xs)∧R (UT X.K a) H1
  | _=>False) I h) fun us s1 ⟨vs,H1,I1,r1,q1⟩=>?_) (by rw [hs];rfl) (by rw [hs];rfl)
 match vs,q1 with
 | [x],q1 =>
 obtain⟨a,e1,⟨xs,hq⟩,q⟩:=q1;obtain⟨u,rfl,ru⟩:=vals1 r1;subst e1;cases ru;obtain⟨aQ,rv,pl,hz⟩:=I1.list hq;refine kws_cons ?_;refine wpAny_Constant_int ?_;refine kws_nil ?_;have I1':=I1.tok (s1.toks+1);refine av7 (s:={ s1 with toks:=s1.toks+1 }) (show s1.heap.IsList a aQ.toArray from pl.isList) fun h' hE hI hsz hk=>?_;refine VU (s:={ s1 with heap:=h',toks:=s1.toks+1 }) hE ?_;have I2:Inv X pins σ H1 { s1 with heap:=h',toks:=s1.toks+1 }:=I1.kept (t':=s1.toks+1) hk;refine⟨_,[s1.heap.objs.size+1,s1.heap.objs.size],_,_,H1,rfl,I2,abZ a _ _ (Nat.succ_ne_self _),⟨⟨.none,hE⟩,hI⟩,fun b hb=>?_,q⟩
 rcases dN.mp hb with z | z
 ·subst z;exact I1.pX (NA _) (I1.aH.fresh (NA _))
 ·have z:b=s1.heap.objs.size:=by simpa using z
  subst z;exact I1.pX cJ (I1.aH.fresh cJ)
def Gb(a:A)(ds:List A):Src:=⟨kP 1 ds,fun Ω=>cK Ω a=some ds⟩
@[simp] def Lz(f:Ev→Mo A):Ev→Mo Src:=fun ρ=>mb (f ρ) fun a Ω=>match cK Ω a with
 | some ds=>some (.ok (Gb a ds),Ω)
 | none=>none
theorem apH{K:Frag}{G:Hp}{ι:List Addr}{p:Addr}{a:A}{ds:List A}(d:Den K G ι (.ref p) a):tU K G ι (UT K p) (Gb a ds):=by
 have key:∀G' ι' Ω' H',Ext G ι G' ι'→Wd K G' ι' Ω' H'→cK Ω' a=some ds→∃xs,dG K H' p xs∧bD K G' ι' xs ds:=fun G' ι' Ω' H' e w h=>by
  obtain⟨q,xs,h1,h2,h3⟩:=qV w (d.ext e) h;cases h1;exact⟨xs,h2,h3⟩
 refine⟨fun G' ι' Ω' H' e w h i hi=>?_,fun G' ι' Ω' H' e w h i hi=>?_,fun G' ι' Ω' H' e w h i x H2 y hy hd=>?_⟩
 ·obtain⟨xs,h2,h3⟩:=key G' ι' Ω' H' e w h;have hl:i<xs.length:=by rw [h3.length,← LW 1 ds];exact hi
  exact⟨xs,xs[i],h2,eX hl⟩
 ·obtain⟨xs,h2,h3⟩:=key G' ι' Ω' H' e w h;exact⟨xs,h2,by rw [h3.length,← LW 1 ds];exact hi⟩
 ·obtain⟨xs,h2,h3⟩:=key G' ι' Ω' H' e w h;obtain⟨q,z,e1,e2,e3,e4⟩:=hd;subst e2 e3;have jO:(kP 1 ds)[i]? = some y:=hy;rw [Ga]at jO;cases ed:ds[i]? with
  | none=>rw [ed]at jO;cases jO
  | some d' =>
   rw [ed]at jO;cases jO;obtain⟨z',q1,q2⟩:=h3.get ed;rw [e4 xs h2]at q1;cases q1;refine⟨upd G' q (.tup [.int ((i:Int)+1),z]),Ext.new (w.lA e1) _,w.new e1 _,?_⟩;simp only [Den];exact⟨q,_,rfl,eA,.cons (by simp only [Den];congr 1;omega) (.cons (q2.ext (Ext.new (w.lA e1) _)) .nil)⟩
theorem aa5{elts:List Expr}{x1:Nat}{tp p kp vp:Pos}{jj:Nat}{l:Expr}{fe:Ev→Mo A}(hg:Gl X "enumerate")(hm:X.mg "enumerate" = none)(h:VE X W l fe)(hs:starEach [l] X.env=[(false,eval l X.env)]:=by rfl) :
  VI X W (.Tuple elts x1 tp) (.Call (.Name "enumerate" p) [l] [⟨some "start", .Constant (.int 1) jj vp,kp⟩] pos) (Lz fe):=by
 obtain⟨t,p,s⟩:=h;refine⟨_,akP hg hm p hs,fun G ι Ω H σ ρ R w r h=>?_⟩;refine s G ι Ω H σ ρ _ w r (bQ.mb h fun a Ω1 v H1 G1 ι1 x1 w1 d1 h1=>?_);cases e:cK Ω1 a with
 | none=>simp only [e]at h1;exact False.elim h1
 | some ds =>
  simp only [e]at h1;obtain⟨q,xs,h2,h3,h4⟩:=qV w1 d1 e;subst h2;exact⟨q,rfl,⟨xs,h3⟩,h1 _ H1 G1 ι1 (Ext.refl _ _) w1 (apH d1)⟩
end
theorem Pf(ns:List Int):∀j,j≤ns.length→preSum (fun i=>(ns[i]?).getD 0) j=(ns.take j).sum
 | 0,_=>rfl
 | j+1,h=>by
  have ih:=Pf ns j (by omega);show preSum _ j+(ns[j]?).getD 0=_;rw [ih,List.take_add_one,List.sum_append];rw [eX (by omega)];simp
section
variable{X:Cx}{W:WX}
theorem avX(hc:X.calm=true):nJ X (.builtin "sum") (fun xs H Q=>∃(a:Addr) (ns:List Int),xs=[.ref a]∧gA X.K H a (ns.map V.int)∧Q (.int ns.sum) H):=by
 intro pins s σ H xs us Q I r h;obtain⟨a,ns,rfl,hq,q⟩:=h;obtain⟨u,rfl,ru⟩:=vals1 r;cases ru;obtain⟨aQ,rv,p,hz⟩:=I.tuple hq;have p':s.heap.IsTuple a aQ.toArray:=p;have iT:a<s.heap.objs.size:=let ⟨_,z,_⟩:=p;dA z;have hl:aQ.length=ns.length:=by have:=rv.length;simpa using this.symm
 refine call_sum_walkG (wpAny_pyIter_tuple p' ?_);refine⟨s.heap.objs.size,_,_,_,_,_,fun i=>(ns[i]?).getD 0,rfl,Walks.tuple (A:=X.A.in1) (show X.A.in1.handled=none from I.ok.hd hc) s.heap.objs.size a (iE iT) aQ.toArray,⟨⟨_,kH _ rfl,rfl,rfl⟩,ab3 p' fun o z=>eL _ z⟩,fun b hb=>?_,fun i v hv=>?_,fun h' tk t' hk=>?_⟩
 ·simp only [dN,rE,qR]at hb;rw [tV]
  rcases hb with e | e <;> subst e
  ·exact Iz _
  ·exact Ja iT
 ·have FF:aQ[i]? = some v:=by simpa using hv
  have hi:i<aQ.length:=(dI.mp FF).1;obtain⟨u,hu,ru⟩:=rv.get (i:=i) (x:=V.int (ns[i]'(by omega))) (by rw [kG,eX (by omega)];rfl);rw [FF]at hu;cases hu;obtain⟨t,rfl⟩:=ru;have en:ns[i]? = some (ns[i]'(by omega)):=eX (by omega);exact⟨t,by simp [en]⟩
 ·have e:preSum (fun i=>(ns[i]?).getD 0) aQ.toArray.size=ns.sum:=by
   rw [show aQ.toArray.size=ns.length by simpa using hl,Pf ns _ cJ,NF cJ]
  rw [e];refine⟨.int ns.sum,H,I.kept (t':=tk) (fun b o z=>?_),⟨t',rfl⟩,q⟩;refine hk b o (fun w=>?_) (eL _ z);have:b=s.heap.objs.size:=by simpa using w
  exact absurd (dA z) (by rw [this];exact Nat.lt_irrefl _)
@[simp] def Fl(as:List A):Mo A:=fun Ω=>match as with
 | [.tup ds]=>(match intsOf ds with
  | some ns=>some (.ok (.int ns.sum),Ω)
  | none=>none)
 | as=>tM as Ω
theorem awA(hc:X.calm=true):rJ X W (.builtin "sum") Fl:=by
 obtain⟨r,c1,c2⟩:=GJ (X:=X) (W:=W) hc;refine⟨_,(avX hc).or c1,?_⟩;intro G ι Ω H σ xs as Q w d h;unfold Fl at h;split at h
 ·rename_i ds;split at h
  ·rename_i ns e;obtain⟨x,rfl,d1⟩:=sH d;simp only [Den]at d1;obtain⟨p,ys,rfl,h2,h3⟩:=d1;rw [Cq e h3]at h2;exact .inl ⟨p,ns,rfl,gA.of (w.sub _ _ h2),h _ H G ι (Ext.refl _ _) w (by simp only [Den])⟩
  ·exact False.elim h
 ·exact .inr (c2 G ι Ω H σ xs as Q w d h)
@[simp] def LI(o:A)(as:List A):Mo A:=fun Ω=>match lS Ω o,as with
 | some (k,y::ds),[.int 0]=>some (.ok y,Ω.set k (.lst ds))
 | _,_=>none
theorem an7:UH X.K W Om LI:=by
 intro G ι Ω H σ x xs a as Q w d1 d2 h;unfold LI at h;split at h
 ·rename_i k y ds e;obtain⟨p,zs,rfl,hk,g,h3,h4⟩:=Gx w d1 e;obtain⟨u,rfl,du⟩:=sH d2;simp only [Den]at du;subst du;obtain⟨z,zs',rfl,q1,q2⟩:=h4.nM;refine⟨p,z::zs',0,0,z,rfl,rfl,h3,by decide,by decide,by simp [seqIndex?],rfl,?_⟩;exact h _ _ G ι (Ext.refl _ _) (w.put (c := .lst ds) hk g ⟨g,_,eA,q2⟩) q1
 ·exact False.elim h
end
def DC(i:Nat)(f:Str)(g:Ev→Mo A)(ρ:Ev)(Ω:aF)(r:Rs A×aF):Prop :=
 ∃s cls fs fd c Ωa fd' c' a,ρ[i]? = some (some (.aD s))∧Ω[s]? = some (.ins cls fs)∧fs.lookup f=some fd∧fd.cell=some c∧g ρ (eQ Ω s cls f fs c)=some (.ok a,Ωa++[c'])∧Ωa.length=Ω.length ∧
  Ωa[s]? = some (.ins cls (putD f (.val (.aD Ω.length)) fs))∧fd'.cell=some c'∧(∀(k:Nat) (x:Cell),k≠s→Ωa[k]? = some x→Ω[k]? = some x∨DM Ω.length x)∧(fd'=fd∨mQ Ω.length fd')∧Cl Ω.length a∧r=(.ok a,Ωa.set s (.ins cls (putD f fd' fs)))
open Classical in
noncomputable def vM(i:Nat)(f:Str)(g:Ev→Mo A):Ev→Mo A:=fun ρ Ω=>if h:∃r,DC i f g ρ Ω r then some (Classical.choose h)else none
theorem DC.uniq{i:Nat}{f:Str}{g:Ev→Mo A}{ρ:Ev}{Ω:aF}{r r':Rs A×aF}(h:DC i f g ρ Ω r)(h':DC i f g ρ Ω r'):r=r':=by
 obtain⟨s,cls,fs,fd,c,Ωa,LR,c1,a,a1,a2,a3,a4,a5,a6,a7,a8,a9,MT,MR,MQ⟩:=h;obtain⟨s',oW,iB,fd',c',Ωb,fd2,c2,b,b1,b2,b3,b4,b5,b6,b7,b8,b9,b10,b11,Hz⟩:=h';rw [a1]at b1;cases b1;rw [a2]at b2;cases b2;rw [a3]at b3;cases b3;rw [a4]at b4;cases b4;rw [a5]at b5;simp only [kD,MX,Rs.ok.injEq]at b5;obtain⟨rfl,e2⟩:=b5;obtain⟨rfl,e3⟩:=List.append_inj' e2 rfl;simp only [sN,and_true]at e3;subst e3;have:=Xi a8 b8;subst this;rw [MQ,Hz]
theorem abJ{i:Nat}{f:Str}{g:Ev→Mo A}{ρ:Ev}{Ω:aF}{r:Rs A×aF}(h:DC i f g ρ Ω r):vM i f g ρ Ω=some r:=by
 have ex:∃r,DC i f g ρ Ω r:=⟨r,h⟩;unfold vM;rw [dif_pos ex];exact congrArg some (DC.uniq (HM ex) h)
theorem Lp{X:Cx}{W:WX}{e:Expr}{i:Nat}{f:Str}{g:Ev→Mo A}(h:VE X W e g):VE X W e (vM i f g):=by
 refine WK h fun ρ Ω r cl hd=>?_;unfold vM at hd;split at hd
 ·rename_i ex;cases hd;generalize hr:Classical.choose ex=r;have gF:=HM ex;rw [hr]at gF;obtain⟨s,cls,fs,fd,c,Ωa,LR,c1,a,a1,a2,a3,a4,a5,a6,a7,a8,a9,MT,MR,rfl⟩:=gF;obtain⟨ix,e1,_⟩:=AZ a3;have Dq:mQ Ω.length fd:=(cl.aD s _ a2:nI _ fs).get e1;refine⟨s,f,_,a,Ωa++[c1],⟨cls,fs,fd,c,a2,a3,a4,rfl⟩,a5,⟨Ωa,c1,cls,_,LR,rfl,a6,a7,by rw [EN,if_pos rfl],a8,fun k x hk hx=>?_,?_,by rw [vU]⟩,MR,rfl⟩
  ·rcases a9 k x hk hx with z | z
   ·exact cl.aD k x z
   ·exact z
  ·rw [vU];exact MC (cl.aD s _ a2:nI _ fs) (by rcases MT with z | z;exact z ▸ Dq;exact z)
 ·cases hd
section
variable{P:Program}{w:World}{K:Frag}{mg:Str→Option Value}{base:Heap}
structure aaA(K:Frag)(x qual:Str)(st:Stmt)(f T:Addr)(fd:FuncData):Prop where
 ex:∃(oc:Value) (od:Option Addr) (kV doc pm:Value) (an:Option Addr) (aU ct:Value) (gD:Array (Option Value)),
  fd=fnOf x qual (iV st) (dX st) (aX st) (.ref T) kV doc pm an aU ct∧K.lookup f=some ⟨oc,od,.func fd,gD⟩∧codeIn K aU qual=true
structure zN(K:Frag)(mg:Str→Option Value)(cls m qual:Str)(st:Stmt)(dv:Array Value):Prop where
 ex:∃C f fd T o n,nsIn K mainGlobals cls=some (some (.ref C))∧mg cls=some (.ref C)∧nY K C∧Meth K C m f∧aaA K m qual st f T fd∧K.lookup T=some o∧o.data = .seq dv n
theorem fL.ofD{cls m qual:Str}{st:Stmt}{N ps:List Str}{k:Nat}{b:MS}{dv:Array Value}{ds:List Value}{dvs:List V}{jA:List A}(h:zN K mg cls m qual st dv)(hv:Vals dvs ds)(hd:∀G ι,bD K G ι dvs jA)(S:dJ N ps (aX st))
  (bind:∀(T:Addr) (kV doc pm:Value) (an:Option Addr) (aU ct:Value) (us:List Value),us.length+ds.length=ps.length→∃k,bindArgs (fnOf m qual (iV st) (dX st) (aX st) (.ref T) kV doc pm an aU ct) ⟨us,[]⟩=seqItems? (.ref T) >>= k∧k (some dv)=pure (ps.zip (us++ds)))
  (gH:∀(f:Addr) (aU:Value) (A:Around) (outer:List Env) (s:Shared) (H:Hp) (E:XK),cH k (A.deeper (envOfC qual (aX st) s.heap.objs.size f aU)) →
   jG (nE P w K mg base N qual (aX st) f aU A outer s H E) (fun _=>E) (dX st) b):fL P w K mg base cls m (k+1) ps.length jA (dW N.length b):=by
 obtain⟨C,f,fd,T,o,n,h1,_,h2,h3,F,hT,ho⟩:=h.ex;obtain⟨oc,od,kV,doc,pm,an,aU,ct,gD,rfl,lk,fN⟩:=F.ex;refine⟨C,f,_,ps,ds,dvs,h1,h2,h3,rfl,FY lk fN S (fun vs H Q E h=>h.1) fun A outer s H vs Q E hr gF=>?_,fun s us hK hl=>?_,hv,hd⟩
 ·obtain⟨t,p,q⟩:=gH f aU A outer s H E hr;exact⟨t,EY p,GL q gF⟩
 ·obtain⟨k',e1,e2⟩:=bind T kV doc pm an aU ct us (by rw [← kF];exact hl);exact BindsTo.of_defaults rfl (hK _ _ hT) ho e1 e2
end
end V2
namespace M
open PySem V2
noncomputable section
def MO:MS :=
 (aV (sV ["Window"] "reach" aL bJ)
  (aV (sV ["Window"] "block" aL bB)
  (aV (sV ["Window"] "keep" aL bZ)
  (aV (sV ["Window"] "many" aL bS)
  (aV (uA ["Window"] 0 "full" (gL true a0))
  (uA ["Window"] 0 "newest" (gL true a0)))))))
def DI:List A→Mo A:=dW 4 MO
def Hy:MS :=
 (aV (bK (aB bX (aB (fX) (aB (eO) (mS ["Window"] 0 "full") bL) (bV ["Window"] "block" aL)) (mS ["Window"] 0 "newest")) (gN 1))
  (eV (bY (aB FX bJ (bV ["Window"] "reach" aL)))
   (oK 0 "full" (hX (jZ LI (bV ["Window"] "full" aL) (aC bS a0))))
   gB))
def NT:List A→Mo A:=dW 2 Hy
def Hx:MS :=
 (aV (bK (aN uL (aC (bV ["Window"] "reach" aL) (aC (bV ["Window"] "many" aL) a0))) (gN 2))
  (aV (eV (bY (aB (LJ false) bJ cN))
   (bK bB (gN 1))
   gB)
  (aV (eV (oG (bY (aB mI bJ bL)) (bY (aB yS bJ bB)))
   (vQ "NoPlace" (aC (cS "last goes from 1 to the length and to how many were put in") a0))
   gB)
  (cX bJ))))
def xI:List A→Mo A:=dW 3 Hx
def Ye:Ev→Mo A :=
 (lK false 1 [] (fV aL) (gN 0) qI (aB aW aL bS))
def SS:MS :=
 (cX (aB (eO) (aN tM (aC Ye a0)) bJ))
def zP:List A→Mo A:=dW 2 SS
def Hs:MS :=
 (aV (bK (aB bX bL (aB (fO) aL (cI 40))) (gN 1))
  (aV (bK (aB bX bL (aB (fO) (aB (jF) aL (cI 40)) (cI 12))) (gN 2))
  (aV (eV (bY (aB iA (aB (fO) (aB (jF) aL (cI 480)) WB) bS))
   (bK (aB bX bL (aB (fO) (aB (jF) aL (cI 2880)) (cI 40))) (gN 2))
   gB)
  (cX (qL (aC bJ (aC (aN FT (aC bB (aC (aB (jF) bJ (cI 12)) a0))) (aC (aB bX bL (aB (fO) (aB (jF) aL (cI 115200)) (cI 12))) a0))))))))
def HI:List A→Mo A:=dW 3 Hs
def Hm:MS :=
 (aV (bK (aB (jF) (aN Fl (aC (aN (bN 2 rF) (aC aL (aC bZ a0))) a0)) fM) (gN 5))
   (aV (hX (jZ nB bJ (aC (qL (aC (aB aW fD bS) (aC (aB (eO) dP bB) a0))) a0)))
   (bK dP (gN 2))))
def SO:MS :=
 (aV (bK (gL true a0) (gN 1))
  (aV (bK bS (gN 2))
  (aV (kK (Lz (aB aW aL pQ)) (kN 2 (eR (gN 3) (eR (gN 4) lC))) Hm)
  (cX (DT 1)))))
def VH:List A→Mo A:=dW 6 SO
def SM:MS :=
 (aV (hX (jZ nB bJ (aC (qL (aC bB (aC (aB aW bZ bS) (aC (aB aW bZ bS) a0)))) a0)))
   (eV (bY (aB CC (aB aW bZ bS) (aB aW bZ bL)))
    (hX (jZ nB bJ (aC (qL (aC bB (aC (aB aW bZ bL) (aC (aB aW bZ bL) a0)))) a0)))
    gB))
def SN:MS :=
 (aV (bK (gL true a0) (gN 1))
  (aV (kK (Ma (aN (bN 1 NO) (aC aL a0))) (kN 2 (eR (gN 2) (eR (gN 3) lC))) SM)
  (cX (qL (aC (aN (bN 1 VJ) (aC aL a0)) (aC bS (aC bS (aC (DT 1) a0))))))))
def NP:List A→Mo A:=dW 4 SN
def Yc:Ev→Mo A :=
 (lK false 1 [] (fV aL) (gN 0) qI (qL (aC aL (aC bL a0))))
def Hj:MS :=
 (cX (aN (bN 1 NP) (aC Yc a0)))
def qG:List A→Mo A:=dW 1 Hj
def TM:MS :=
 (aV (sV ["Window"] "many" aL (aB bX (bV ["Window"] "many" aL) bL))
  (aV (hX (DV ["Window"] 0 "newest" bJ))
  (aV (eV (bY (aB iA (mS ["Window"] 0 "newest") (bV ["Window"] "block" aL)))
   (aV (oK 0 "full" (oK 0 "newest" (hX (jZ nB (bV ["Window"] "full" aL) (aC (aN (bN 2 uW) (aC (aN (bN 1 qG) (aC (bV ["Window"] "newest" aL) a0)) (aC (bV ["Window"] "keep" aL) a0))) a0)))))
   (uA ["Window"] 0 "newest" (gL true a0)))
   gB)
  (hX (dE "drop_oldest" [("Window",dD 1 [] NT)] aL a0)))))
def uY:List A→Mo A:=dW 2 TM
def TN:MS :=
 (aV (oK 0 "newest" (bK (mR false (bV ["Window"] "newest" aL) (lJ (HW bJ)) pD) (gN 2)))
  (aV (bK (aB (jF) (aB (eO) (aB bX (aB (eO) bJ (aN dQ (aC bB a0))) (bV ["Window"] "block" aL)) bL) (bV ["Window"] "block" aL)) (gN 3))
  (cX (vM 0 "full" (aB bX (mR false (bV ["Window"] "full" aL) (lJ (aB (eO) (aN dQ (aC (bV ["Window"] "full" aL) a0)) bZ)) pD) (gL false (aC (aN (bN 1 qG) (aC bB a0)) a0)))))))
def uZ:List A→Mo A:=dW 4 TN
def Hv:MS :=
 (hX (jZ Fp fD (aC (aN (bN 1 VH) (aC dP a0)) a0)))
def MM:MS :=
 (aV (bK (dE "look_last" [("Window",dD 2 [] xI)] aL (aC bB a0)) (gN 2))
  (aV (eV (oG (bY (aB mI bJ bL)) (bY (aB yS bJ bB)))
   (vQ "NoPlace" (aC (cS "the places go from 1 to last") a0))
   gB)
  (aV (bK (dE "parts" [("Window",dD 2 [] uZ)] aL (aC bB a0)) (gN 3))
  (aV (bK (gL true a0) (gN 4))
  (aV (kK (fV bZ) (gN 5) Hv)
  (IS 4 (cX (aN (bN 2 Ka) (aC fD (aC (aB bX bJ (aB (jF) (aN (bN 2 zP) (aC bZ (aC bB a0))) fM)) a0))))))))))
def xH:List A→Mo A:=dW 6 MM
def Hw:Ev→Mo A :=
 (lK false 1 [] (fV bB) (gN 0) qI (aB aW aL bL))
def MN:MS :=
 (aV (bK (dE "look_last" [("Window",dD 2 [] xI)] aL (aC bJ a0)) (gN 1))
  (aV (bK (dE "parts" [("Window",dD 2 [] uZ)] aL (aC bJ a0)) (gN 2))
  (cX (aB bX (aN (bN 2 zP) (aC bB (aC bJ a0))) (aN tM (aC Hw a0))))))
def DH:List A→Mo A:=dW 3 MN
end
end M
namespace V2
open PySem PySem.Spec PyProof.Rows L2
theorem _root_.L2.DJ.alias{P:Program}{w:World}{K:Frag}{mg:Str→Option Value}{base:Heap}{x y:Str}{k:Nat}{ps:List Str}{sp:Sp}(D:DJ P w K mg base x k ps sp)(e:mg y=mg x):DJ P w K mg base y k ps sp:=by
 obtain⟨f,fd,F,hm,hk,hb⟩:=D.ex;exact⟨f,fd,F,e.trans hm,hk,hb⟩
section
variable{X:Cx}{W:WX}{a b c d e:Expr}{ta tb tc td te:TE}{fa fb fc fd fe:Ev→Mo A}{pos:Pos}
def Mv(r r' yC r3:R2)(ta tb tc td te:TE):TE:=fun σ H Q=>ta σ H fun x H1=>tb σ H1 fun y H2=>r x y H2 fun z H3=>∃k,z = .bl k ∧
 (if k=true then tc σ H3 fun w' H4=>r' y w' H4 fun z' H5=>∃k',z' = .bl k'∧(if k'=true then td σ H5 fun u' H6=>yC w' u' H6 fun z2 H7=>∃k2,z2 = .bl k2∧(if k2=true then te σ H7 fun u2 H8=>r3 u' u2 H8 Q else Q (.bl false) H7)else Q (.bl false) H5)else Q (.bl false) H3)
theorem alM{op pF AO AN:CmpOp}{r r' yC r3:R2}(ho:fU X (compareOp op) r)(iZ:fU X (compareOp pF) r')(JW:fU X (compareOp AO) yC)(BM:fU X (compareOp AN) r3)(ha:PE X a ta)(hb:PE X b tb)(hc:PE X c tc)(hd:PE X d td)(he:PE X e te)
  (hm:lastMarks [op,pF,AO,AN] [b,c,d,e]=false:=by with_unfolding_all rfl):PE X (.Compare a [op,pF,AO,AN] [b,c,d,e] pos) (Mv r r' yC r3 ta tb tc td te):=by
 intro pins s σ H Q I h;refine Compare_chain (bG (ha pins s σ H _ I h) fun v s1 ⟨x,H1,I1,r1,q1⟩=>chain_link (bG (hb pins s1 σ H1 _ I1 q1) fun u s2 ⟨y,H2,I2,r2,q2⟩ =>
  bG (ho pins s2 σ H2 x y v u _ I2 r1 r2 q2) fun d s3 ⟨z,H3,I3,r3,k,e,q3⟩=>?_)) hm
 subst e;cases r3;refine vF ?_;cases k with
 | false=>exact ite_ff ⟨.bl false,H3,I3,rfl,q3⟩
 | true =>
  refine ite_tt (chain_link (bG (hc pins s3 σ H3 _ I3 q3) fun w' s4 ⟨z',H4,I4,r4,q4⟩=>bG (iZ pins s4 σ H4 y z' u w' _ I4 r2 r4 q4) fun d' s5 ⟨z2,H5,I5,r5,k',e',q5⟩=>?_));subst e';cases r5;refine vF ?_;cases k' with
  | false=>exact ite_ff ⟨.bl false,H5,I5,rfl,q5⟩
  | true =>
   refine ite_tt (chain_link (bG (hd pins s5 σ H5 _ I5 q5) fun w2 s6 ⟨z3,H6,I6,r6,q6⟩=>bG (JW pins s6 σ H6 z' z3 w' w2 _ I6 r4 r6 q6) fun d2 s7 ⟨z4,H7,I7,r7,k2,e2,q7⟩=>?_));subst e2;cases r7;refine vF ?_;cases k2 with
   | false=>exact ite_ff ⟨.bl false,H7,I7,rfl,q7⟩
   | true=>exact ite_tt (chain_last (bG (he pins s7 σ H7 _ I7 q7) fun w3 s8 ⟨z5,H8,I8,r8,q8⟩=>BM pins s8 σ H8 z3 z5 w2 w3 Q I8 r6 r8 q8))
@[simp] def WY(g g' CF g3:A→A→Mo A)(f1 f2 f3 f4 f5:Ev→Mo A):Ev→Mo A:=fun ρ=>mb (f1 ρ) fun x=>mb (f2 ρ) fun y=>mb (g x y) fun z=>mb (yT z) fun k=>if k then mb (f3 ρ) fun u=>mb (g' y u) fun z'=>mb (yT z') fun k'=>if k' then mb (f4 ρ) fun u'=>mb (CF u u') fun z2=>mb (yT z2) fun k2=>if k2 then mb (f5 ρ) fun u2=>g3 u' u2 else ret (.bl false)else ret (.bl false)else ret (.bl false)
theorem ah6{K:Frag}{r r' yC r3:R2}{g g' CF g3:A→A→Mo A}{t1 t2 t3 t4 t5:TE}(ho:rB K W r g)(iZ:rB K W r' g')(JW:rB K W yC CF)(BM:rB K W r3 g3)(h1:fK K (Den K) W t1 fa)(h2:fK K (Den K) W t2 fb)(h3:fK K (Den K) W t3 fc)(h4:fK K (Den K) W t4 fd)(h5:fK K (Den K) W t5 fe):fK K (Den K) W (Mv r r' yC r3 t1 t2 t3 t4 t5) (WY g g' CF g3 fa fb fc fd fe):=by
 intro G ι Ω H σ ρ Q w q h;refine h1 G ι Ω H σ ρ _ w q (bQ.mb h fun x Ω1 v H1 G1 ι1 x1 w1 d1 h1=>?_);refine h2 G1 ι1 Ω1 H1 σ ρ _ w1 (q.ext x1) (bQ.mb h1 fun y Ω2 u H2 G2 ι2 x2 w2 d2 h2=>?_);refine ho G2 ι2 Ω2 H2 σ v u x y _ w2 (d1.ext x2) d2 (bQ.mb h2 fun z Ω3 z' H3 G3 ι3 x3 w3 d3 CA=>?_);cases z with
 | bl k =>
  simp only [Den]at d3;refine⟨k,d3,?_⟩;cases k with
  | true =>
   refine h3 G3 ι3 Ω3 H3 σ ρ _ w3 (q.ext ((x1.trans x2).trans x3)) (bQ.mb CA fun m Ω4 m' H4 G4 ι4 x4 w4 d4 h4'=>?_);refine iZ G4 ι4 Ω4 H4 σ u m' y m _ w4 (d2.ext (x3.trans x4)) d4 (bQ.mb h4' fun z2 Ω5 z2' H5 G5 ι5 x5 w5 d5 Ej=>?_);cases z2 with
   | bl k' =>
    simp only [Den]at d5;refine⟨k',d5,?_⟩;cases k' with
    | true =>
     refine h4 G5 ι5 Ω5 H5 σ ρ _ w5 (q.ext ((((x1.trans x2).trans x3).trans x4).trans x5)) (bQ.mb Ej fun n Ω6 n' H6 G6 ι6 x6 w6 d6 h6=>?_);refine JW G6 ι6 Ω6 H6 σ m' n' m n _ w6 (d4.ext (x5.trans x6)) d6 (bQ.mb h6 fun z4 Ω7 z4' H7 G7 ι7 x7 w7 d7 Ei=>?_);cases z4 with
     | bl k2 =>
      simp only [Den]at d7;refine⟨k2,d7,?_⟩;cases k2 with
      | true=>exact h5 G7 ι7 Ω7 H7 σ ρ _ w7 (q.ext ((((((x1.trans x2).trans x3).trans x4).trans x5).trans x6).trans x7)) (bQ.mb Ei fun n2 Ω8 n2' H8 G8 ι8 x8 w8 d8 h8=>BM G8 ι8 Ω8 H8 σ n' n2' n n2 Q w8 (d6.ext (x7.trans x8)) d8 h8)
      | false=>exact gQ w7 (by simp only [Den]) Ei
     | _=>exact False.elim Ei
    | false=>exact gQ w5 (by simp only [Den]) Ej
   | _=>exact False.elim Ej
  | false=>exact gQ w3 (by simp only [Den]) CA
 | _=>exact False.elim CA
theorem abI{op pF AO AN:CmpOp}{g g' CF g3:A→A→Mo A}(ho:jQ X W (compareOp op) g)(iZ:jQ X W (compareOp pF) g')(JW:jQ X W (compareOp AO) CF)(BM:jQ X W (compareOp AN) g3)(ha:VE X W a fa)(hb:VE X W b fb)(hc:VE X W c fc)(hd:VE X W d fd)(he:VE X W e fe)
  (hm:lastMarks [op,pF,AO,AN] [b,c,d,e]=false:=by with_unfolding_all rfl):VE X W (.Compare a [op,pF,AO,AN] [b,c,d,e] pos) (WY g g' CF g3 fa fb fc fd fe):=by
 obtain⟨r,o1,o2⟩:=ho;obtain⟨r',Af,Ae⟩:=iZ;obtain⟨yC,am3,am1⟩:=JW;obtain⟨r3,o13,o23⟩:=BM;obtain⟨t,p1,s1⟩:=ha;obtain⟨u,p2,s2⟩:=hb;obtain⟨u',p3,s3⟩:=hc;obtain⟨u'',p4,s4⟩:=hd;obtain⟨u3,p5,s5⟩:=he;exact⟨_,alM o1 Af am3 o13 p1 p2 p3 p4 p5 hm,ah6 o2 Ae am1 o23 s1 s2 s3 s4 s5⟩
end
section
variable{X:Cx}{W:WX}
theorem av8:nJ X (.builtin "abs") (fun xs H Q=>∃i:Int,xs=[.int i]∧Q (.int (if i<0 then -i else i)) H):=by
 intro pins s σ H xs us Q I r h;obtain⟨i,rfl,q⟩:=h;cases r with
 | cons r1 r =>
  cases r;obtain⟨t1,rfl⟩:=r1;exact call_abs_int fun u tk=>⟨.int _,H,I.tok _,⟨u,rfl⟩,q⟩
@[simp] def LN(as:List A):Mo A:=match as with
 | [.int i]=>ret (.int (if i<0 then -i else i))
 | _=>stuck
theorem awE:rJ X W (.builtin "abs") LN:=by
 refine⟨_,av8,?_⟩;intro G ι Ω H σ xs as Q w d h;unfold LN at h;split at h
 ·rename_i i;obtain⟨x,rfl,d1⟩:=sH d;simp only [Den]at d1;subst d1;exact⟨i,rfl,gQ w (by simp only [Den]) h⟩
 ·exact False.elim h
end
@[elab_as_elim] theorem us6{P:List Value→Prop}(us:List Value)(h:us.length=6)(f:∀a b c d e g,P [a,b,c,d,e,g]):P us:=by
 cases us with
 | nil=>simp at h
 | cons a r=>exact WZ (P:=fun r=>P (a::r)) r (by simpa using h) (f a)
end V2
namespace L2
open PySem
theorem cH.m{j k:Nat}{A:Around}(r:cH k A)(h:j≤k:=by first | decide | omega):cH j A:=r.mono h
end L2
namespace V2
open PySem L2 PyProof.Rows
variable{P:Program}{w:World}{K:Frag}{mg:Str→Option Value}{base:Heap}
theorem avK{h:Heap}{x:Str}{v:Int}{t:Tok}(X:K.In h)(G:h.Ns mainGlobals mg)(a:nsIn K mainGlobals x=some (some (.int v t))):∃t,mg x=some (.int v t):=⟨_,mg_of X G a⟩
theorem alW{h:Heap}{c:Str}{C:Addr}(X:K.In h)(G:h.Ns mainGlobals mg)(a:nsIn K mainGlobals c=some (some (.ref C)))(e:excIn K C MG "ValueError.__new__" = true):zE K mg c:=⟨C,⟨e⟩,mg_of X G a,a⟩
structure zG(K:Frag)(X:Addr)(m q:Str)(st:Stmt):Prop where
 ex:∃f fd,Meth K X m f∧qF K m q st f fd
theorem JF{X f:Addr}{m q:Str}{st:Stmt}{oc:Value}{od an:Option Addr}{gD:Array (Option Value)}{kV doc pm aU ct:Value}(a:findIn K (.ref X) m=some (some (.ref f)))
  (l:K.lookup f=some ⟨oc,od,.func (fnOf m q (iV st) (dX st) (aX st) .none kV doc pm an aU ct),gD⟩) (c:codeIn K aU q=true) (k:keepIn K (.ref f)=true) (i:isFn K (.ref f)=true):zG K X m q st:=⟨f,_,⟨a,i,k⟩,RM l c k⟩
theorem zG.has{h:Heap}{cls m q:Str}{st:Stmt}{C:Addr}(M:zG K C m q st)(X:K.In h)(G:h.Ns mainGlobals mg)(n:nsIn K mainGlobals cls=some (some (.ref C)))(L:nY K C):zO K mg cls m q st :=
 let ⟨f,fd,a,b⟩:=M.ex; ⟨C,f,fd,n,mg_of X G n,L,a,b⟩
structure VB(K:Frag)(X:Addr)(q:Str)(st:Stmt):Prop where
 ex:∃f fd,Mk K X f∧qF K "__init__" q st f fd
theorem apU{X f:Addr}{q:Str}{st:Stmt}{oc:Value}{od an:Option Addr}{gD:Array (Option Value)}{kV doc pm aU ct:Value}(a:findIn K (.ref X) "__init__" = some (some (.ref f)))
  (l:K.lookup f=some ⟨oc,od,.func (fnOf "__init__" q (iV st) (dX st) (aX st) .none kV doc pm an aU ct),gD⟩) (c:codeIn K aU q=true) (k:keepIn K (.ref f)=true) (i:isFn K (.ref f)=true)
  (mk:makesIn K X=true) (kc:keepIn K (.ref X)=true):VB K X q st:=⟨f,_,⟨mk,a,i,kc⟩,RM l c k⟩
theorem VB.has{h:Heap}{cls q:Str}{st:Stmt}{C:Addr}(M:VB K C q st)(X:K.In h)(G:h.Ns mainGlobals mg)(n:nsIn K mainGlobals cls=some (some (.ref C))):Jy K mg cls q st :=
 let ⟨f,fd,a,b⟩:=M.ex; ⟨C,f,fd,n,mg_of X G n,a,b⟩
structure GW(K:Frag)(X:Addr)(m q:Str)(st:Stmt)(dv:Array Value):Prop where
 ex:∃f fd T o n,Meth K X m f∧aaA K m q st f T fd∧K.lookup T=some o∧o.data = .seq dv n
theorem Aj{X f T:Addr}{m q:Str}{st:Stmt}{oc tc:Value}{od an td:Option Addr}{gD ts:Array (Option Value)}{kV doc pm aU ct:Value}{n:Nat}{dv:Array Value}(a:findIn K (.ref X) m=some (some (.ref f)))
  (l:K.lookup f=some ⟨oc,od,.func (fnOf m q (iV st) (dX st) (aX st) (.ref T) kV doc pm an aU ct),gD⟩) (c:codeIn K aU q=true) (k:keepIn K (.ref f)=true) (i:isFn K (.ref f)=true)
  (t:K.lookup T=some ⟨tc,td,.seq dv n,ts⟩):GW K X m q st dv:=⟨f,_,T,_,n,⟨a,i,k⟩,⟨⟨_,_,_,_,_,_,_,_,_,rfl,l,c⟩⟩,t,rfl⟩
theorem GW.has{h:Heap}{cls m q:Str}{st:Stmt}{C:Addr}{dv:Array Value}(M:GW K C m q st dv)(X:K.In h)(G:h.Ns mainGlobals mg)(n:nsIn K mainGlobals cls=some (some (.ref C)))(L:nY K C):zN K mg cls m q st dv :=
 let ⟨f,fd,T,o,k,a,b,c,d⟩:=M.ex; ⟨C,f,fd,T,o,k,n,mg_of X G n,L,a,b,c,d⟩
theorem fY{N P:List Str}{sc:Scope}(a:sc.kind = .function:=by rfl)(b:sc.isCoroutine=false:=by rfl)(c:sc.isGenerator=false:=by rfl)(d:N.Nodup:=by decide +kernel)(e:N.take P.length=P:=by rfl)(f:∀x∈P,sc.names.lookup x=some .local∨sc.names.lookup x=some .cell:=by decide +kernel)(g:∀y∈sc.names,y.2 ≠ .free:=by decide +kernel):dJ N P sc:=⟨a,b,c,d,e,f,g⟩
theorem sA{X:Cx}{scope:Scope}{ls:List Str}{js:List Nat}(sc:Scope)(N:List Str)(Cy:X.env.scope=sc:=by rfl)(hN:X.N=N:=by rfl)(ok:Bb scope sc N js=true:=by decide +kernel):zK X scope ls js := .of sc N Cy hN ok
end V2
namespace M
open PySem V2
noncomputable section
def Yb:Ev→Mo A :=
 (lK false 1 [] (fV aL) (gN 0) qI (aB aW aL bL))
def Xz:Ev→Mo A :=
 (lK false 1 [] (fV aL) (gN 0) qI (aB aW aL bS))
def SH:MS :=
 (cX (qL (aC (aN tM (aC Xz a0)) (aC (aN tM (aC Yb a0)) a0))))
def VF:List A→Mo A:=dW 1 SH
def TQ:Ev→Mo A :=
 (lK false 1 [] (fV (bV ["Window"] "full" aL)) (gN 0) qI (aN dQ (aC (aB aW aL pQ) a0)))
def TR:MS :=
 (cX (vM 0 "full" (aB bX (mS ["Window"] 0 "newest") (aN tM (aC TQ a0)))))
def nX:List A→Mo A:=dW 1 TR
def Ht:MS :=
 (bK (aB bX (aB (fX) bB (cI 2147483587)) bZ) (gN 2))
def wV:MS :=
 (aV (eV (bY (aB iA bJ bS))
   (cX (aB (fO) (aB aW aL bS) DR))
   gB)
  (aV (eV (bY (aB iA bJ bL))
   (cX (aB (eO) (aB (fO) (aB aW aL bS) (cI 100)) (cI 50)))
   gB)
  (aV (eV (bY (aB iA bJ OB))
   (cX (aB aW (gL false (aC OA (aC (aB (eO) bS OA) (aC bS a0)))) (aB (fO) (aB aW aL bS) pQ)))
   gB)
  (aV (bK bS (gN 2))
  (aV (kK (fV aL) (gN 3) Ht)
  (aV (eV (bY (aB iA bJ fM))
   (cX (aB (eO) (aB (fO) bB (aB bX (aB (fX) fM (aB (yQ) zV (cI 18))) bL)) (aB (yQ) zV (cI 18))))
   gB)
  (cX (aB bX (aB (eO) (aB (fO) bB (aB (eO) (aB (fX) fM (aB (yQ) zV (cI 60))) bL)) (aB (yQ) zV (cI 60))) bL))))))))
def xG:List A→Mo A:=dW 4 wV
def GQ:MS :=
 (aV (bK (aN dQ (aC dP a0)) (gN 7))
    (eV (oG (bY (aB iA (aB aW bB jY) bS)) (bY (aB iA bZ bL)))
     (hX (jZ nB dP (aC (aN (bN 2 rG) (aC (aN (bN 2 rG) (aC (aB (fO) (aB aW fD jY) (cI 2147483647)) (aC (aB bX lV DR) a0))) (aC (aB bX (aB (fO) (aB (fX) lV lV) (cI 1009)) pQ) a0))) a0)))
     (aV (hX (jZ nB dP (aC (aB (fO) (aB aW bB jY) (cI 2147483587)) a0)))
     (bK (aB (Vg) (aB aW bB jY) (cI 2147483587)) (RH bB jY)))))
def TL:MS :=
 (kK (xR (aC (aN dQ (aC bB a0)) a0)) (gN 6) GQ)
def GR:Ev→Mo Bool :=
 (bY (aB mI (aN dQ (aC dP a0)) bJ))
def MK:MS :=
 (aV (bK (aN (FV true) (aC (mR false aL pD (lJ (cI 63))) a0)) (gN 2))
  (aV (eV (bY (aB iA bB (gL false a0)))
   (bK (gL true (aC bS a0)) (gN 2))
   gB)
  (aV (bK (aB (fO) (aB aW bB bS) fM) (gN 3))
  (aV (bK (aB (jF) (aB aW bB bS) fM) (RH bB bS))
  (aV (bK (aN (FV false) (aC bB a0)) (gN 4))
  (aV (bK (gL true a0) (gN 5))
  (aV (fun ρ Ω=>nD GR TL ((fun _ _=>1000000) ρ Ω) ρ Ω)
  (cX (mR false dP pD (lJ bJ))))))))))
def NS:List A→Mo A:=dW 8 MK
def GN:Ev→Mo A :=
 (aB yS (aB aW aL bS) bJ)
def Hi:MS :=
 (cX (aN (bN 2 rF) (aC aL (aC (DU 0 "upto" ⟨71,53,71,84⟩ (uD "upto") [1] (fun ns a=>tN (qW GN ns) a) (aB aW aL pQ)) a0))))
def NN:List A→Mo A:=dW 2 Hi
def Hu:Ev→Mo A :=
 (lK false 1 [1] (fV bZ) (gN 0) qI (aN (Ag (bN 2 NN)) (aC aL (aC bJ a0))))
def ML:MS :=
 (aV (bK (dE "look_last" [("Window",dD 2 [] xI)] aL (aC bB a0)) (gN 2))
  (aV (bK (dE "parts" [("Window",dD 2 [] uZ)] aL (aC bB a0)) (gN 3))
  (aV (bK (aN (bN 1 VF) (aC Hu a0)) (gN 4))
  (cX (qL (aC (aN FT (aC bS (aC (aB (eO) (aB aW fD bS) (aN (bN 2 zP) (aC bZ (aC bB a0)))) a0))) (aC (aN uL (aC bB (aC (aB aW fD bL) a0))) a0)))))))
def uX:List A→Mo A:=dW 5 ML
def Yh:Ev→Mo A :=
 (lK false 1 [2] (fV bJ) (gN 0) (bY (aB nS aL bJ)) aL)
def SU:MS :=
 (aV (bK (dE "upto" [("Window",dD 3 [] uX)] aL (aC bB (aC bZ a0))) (gN 5))
  (aV (eV (oG (qM (bY (aN LK (aC dP (aC (cT "tuple") a0))))) (oG (bY (aB CC (aN dQ (aC dP a0)) fM)) (oG (qM (bY (aN (bN 1 DG) (aC (aB aW dP bS) a0)))) (qM (bY (aN (bN 1 DG) (aC (aB aW dP bL) a0)))))))
   (cX (cB false))
   gB)
  (aV (bK (aN dQ (aC Yh a0)) (gN 6))
  (cX (zY (WY nS nS nS nS bS (aB aW dP bS) jY (aB aW dP bL) (aN dQ (aC bJ a0))) (aB nS (aB (eO) (aB aW dP bL) (aB aW dP bS)) fD))))))
def Kb:List A→Mo A:=dW 7 SU
def Yi:Ev→Mo A :=
 (lK false 1 [6] (fV bB) (gN 0) (bY (aB mI aL bJ)) aL)
def SV:Ev→Mo A :=
 (lK false 1 [6] (fV bB) (gN 0) (bY (aB nS aL bJ)) aL)
def SW:MS :=
 (aV (bK (dE "so_manieth" [("Window",dD 3 [] xH)] aL (aC bZ (aC fD a0))) (gN 6))
  (aV (eV (oG (qM (bY (aN (bN 1 DG) (aC jY a0)))) (oG (bY (aB (yR true) jY bJ)) (bY (aB CC (dE "so_manieth" [("Window",dD 3 [] xH)] aL (aC bZ (aC fD a0))) jY))))
   (cX (cB false))
   gB)
  (aV (bK (aN dQ (aC Yi a0)) (gN 7))
  (cX (zY (aB mI lV (aB bX bZ dP)) (aB FX (aN dQ (aC SV a0)) (aB (eO) bZ dP)))))))
def Kc:List A→Mo A:=dW 8 SW
def SY:MS :=
 (aV (bK (aB aW bB (aB (fO) (aN (bN 2 rG) (aC fD (aC HU a0))) (aN dQ (aC bB a0)))) (gN 12))
   (aV (bK (aB bX DQ (aB (fX) (aB aW (gL false (aC bS (aC bL (aC (aB (eO) bS bL) a0)))) HU) (aN LM (aC (aB mI (aN LN (aC DQ a0)) (aB (yQ) zV (cI 20))) a0)))) (gN 12))
   (eV (qM (bY (aN (bN 5 Kb) (aC aL (aC DP (aC DQ (aC bZ (aC vI a0))))))))
    (cX (cB false))
    gB)))
def SX:MS :=
 (eV (qM (bY (aN (bN 6 Kc) (aC aL (aC bB (aC DP (aC aaU (aC bZ (aC vI a0)))))))))
    (cX (cB false))
    gB)
def TB:MS :=
 (aV (bK bJ (kN 3 (eR (gN 5) (eR (gN 6) (eR (gN 7) lC)))))
  (aV (bK (aN uL (aC dP (aC (aN dQ (aC bB a0)) a0))) (gN 8))
  (aV (eV (bY (aB (LJ true) bZ cN))
   (bK bZ (gN 8))
   gB)
  (aV (bK (mR false bB (lJ (aB (eO) (aN dQ (aC bB a0)) tY)) pD) (gN 9))
  (aV (bK (dE "off" [("Window",dD 2 [] DH)] aL (aC bZ a0)) (gN 10))
  (aV (eV (oG (qM (bY (aN (bN 1 DG) (aC vI a0)))) (qM (bY (DW nS nS bS vI (aB bX (aB (eO) jY bL) (aB (fX) (aB bX (aB (jF) tY jY) bL) (aB (jF) jY lV)))))))
   (cX (cB false))
   gB)
  (aV (kK (xR (aC pQ a0)) (gN 11) SY)
  (aV (kK (fV (gL false (aC (aB aW (gL false (aC bL (aC tY a0))) (aB (fO) fD fM)) (aC (aB bX bL (aB (fO) fD tY)) a0)))) (gN 13) SX)
  (cX (aB iA (dE "off" [("Window",dD 2 [] DH)] aL (aC bZ a0)) vI))))))))))
def Kd:List A→Mo A:=dW 14 TB
def TJ:MS :=
 (eV (qM (bY (aN (bN 5 Kd) (aC fD (aC dP (aC bB (aC lV (aC (aN (bN 2 rG) (aC bZ (aC aaW a0))) a0))))))))
     (cX (cB false))
     gB)
def TF:MS :=
 (aV (bK (aN uL (aC (aB aW dP bS) (aC (aN dQ (aC bB a0)) a0))) (gN 6))
   (aV (eV (qM (bY (DW mI nS bS (dE "held" [("Window",dD 1 [] nX)] fD a0) (aB bX (aB (fX) (aB (fX) (aB bX (aB (jF) (aB aW dP bS) (aB aW dP bL)) fM) fM) (aB aW dP fM)) (aB aW dP bL)))))
    (cX (cB false))
    gB)
   (kK (fV (gL false (aC cN (aC (aB aW (gL false (aC bL (aC jY a0))) (aB (fO) (aB (jF) bZ fM) fM)) (aC (aB bX bL (aB (fO) bZ jY)) (aC (aB bX bL (aB (fO) (aN (bN 2 rG) (aC bZ (aC wC9 a0))) jY)) a0)))))) (gN 7) TJ)))
def TK:MS :=
 (aV (eV (bY (aB iA bB (gL false a0)))
   (cX (zY (aB iA (dE "held" [("Window",dD 1 [] nX)] (aB aW aL bS) a0) bS) (aB iA (dE "held" [("Window",dD 1 [] nX)] (aB aW aL bL) a0) bS)))
   gB)
  (aV (kK (Lw aL bJ) (kN 2 (eR (gN 4) (eR (gN 5) lC))) TF)
  (aV (bK (aN RJ (aC (aB aW (aB aW bJ bS) bS) (aC (aB aW (aB aW bJ bL) bS) (aC (aN dQ (aC bB a0)) a0)))) (gN 8))
  (aV (bK (dE "upto" [("Window",dD 3 [] uX)] (aB aW aL bS) (aC (aB aW bB (aB (fO) bZ (aN dQ (aC bB a0)))) (aC tY a0))) (gN 9))
  (aV (bK (dE "upto" [("Window",dD 3 [] uX)] (aB aW aL bL) (aC (aB aW bB (aB (fO) bZ (aN dQ (aC bB a0)))) (aC tY a0))) (gN 10))
  (cX (aB nS (aN FT (aC (aB aW DP bS) (aC (aB aW vI bS) a0))) (aN uL (aC (aB aW DP bL) (aC (aB aW vI bL) a0))))))))))
def VL:List A→Mo A:=dW 11 TK
def Hq:Ev→Mo A :=
 (lK false 1 [] (fV bB) (gN 0) qI (aN (FU "Window" 4 DI) (aC (aB aW aL bS) (aC (aB aW aL bL) (aC (aB aW aL fM) a0)))))
def MH:MS :=
 (aV (hX (jZ nB fD (aC lV a0)))
    (aV (hX (dE "put" [("Window",dD 2 [] uY)] (aB aW bZ bS) (aC lV a0)))
    (hX (dE "put" [("Window",dD 2 [] uY)] (aB aW bZ bL) (aC lV a0)))))
def SQ:MS :=
 (aV (bK (mR false bJ (lJ (aB bX WB (aB (fX) Li dP))) (lJ (aB bX (cI 14) (aB (fX) Li dP)))) (gN 6))
   (aV (bK (aN (bN 2 xG) (aC (mR false jY pD (lJ DR)) (aC (aB (fO) (aB aW bJ pQ) OA) a0))) (gN 7))
   (aV (kK (xR (aC (aB aW (gL false (aC bL (aC bL (aC bL (aC fM (aC pQ (aC OB a0))))))) (aB (fO) (aB aW jY DR) WB)) a0)) (gN 8) MH)
   (eV (Mc (bY (aB iA dP (aB (fO) (aB aW bJ OB) (cI 64)))) (qM (bY (aN (bN 4 VL) (aC bZ (aC bB (aC fD (aC (aB aW bJ OB) a0))))))))
    (cX (cB false))
    gB))))
def SR:MS :=
 (aV (bK (aN (bN 2 NS) (aC aL (aC (cI 510) a0))) (gN 1))
  (aV (bK (gL false (aC (aN (bN 1 HI) (aC (aB aW bJ bS) a0)) (aC (aN (bN 1 HI) (aC (aB aW bJ bL) a0)) a0))) (gN 2))
  (aV (bK Hq (gN 3))
  (aV (bK (gL true a0) (gN 4))
  (aV (kK (xR (aC (aB (fO) (aB aW bJ fM) (cI 64)) a0)) (gN 5) SQ)
  (cX (aN (bN 4 VL) (aC bZ (aC bB (aC fD (aC (aB aW bJ OA) a0)))))))))))
def aaB:List A→Mo A:=dW 9 SR
end
end M
namespace V2
open PySem L2
@[simp] theorem Vf(neg:Bool)(i j:Int)(Ω:aF):CD neg (.int i) (.int j) Ω=some (.ok (.bl (if neg then !(i == j)else i == j)),Ω):=by
 simp [CD,res,fF,kO]
@[simp] theorem as5(i j:Int)(Ω:aF):iA (.int i) (.int j) Ω=some (.ok (.bl (i == j)),Ω):=Vf false i j Ω
@[simp] theorem aAC(i j:Int)(Ω:aF):CC (.int i) (.int j) Ω=some (.ok (.bl (!(i == j))),Ω):=Vf true i j Ω
theorem CN{i j:Int}(h0 : -18446744073709551616<i)(h1:i<18446744073709551616):kI i j := .inl ⟨h0,h1⟩
theorem CM{i j:Int}(h0 : -18446744073709551616<j)(h1:j<18446744073709551616):kI i j := .inr ⟨h0,h1⟩
@[simp] theorem aAQ{α:Type}(x:α)(l:List α):dY (x::l) 0=some x:=MP _
@[simp] theorem aAP{α:Type}(x y:α)(l:List α):dY (x::y::l) 1=some y:=Ib _
@[simp] theorem aAO{α:Type}(x y z:α)(l:List α):dY (x::y::z::l) 2=some z:=GS _ 2
@[simp] theorem aAN{α:Type}(x y z u:α)(l:List α):dY (x::y::z::u::l) 3=some u:=GS _ 3
end V2
namespace M
open PySem L2 V2
def vY(c k:Int):Int :=
 ((c+1)*(48271+118*k)%2147483629/977*16807+(c+1)*(48271+118*k)%2147483629*(k*k+7)+k)%2147483587
theorem QM(c k:Int):0≤vY c k:=zL _ (by decide)
theorem Ao(c k:Int):vY c k<2147483587:=xE _ (by decide)
theorem NC(c k:Int)(Ω:aF)(hc:0≤c)(yN:c<8589934592)(hk:0≤k)(kY:k<1048576):rG [.int c,.int k] Ω=aM (.int (vY c k)) Ω:=by
 have f0:=zL ((c+1)*(48271+118*k)) (show(2147483629:Int)≠0 by decide);have f1:=xE ((c+1)*(48271+118*k)) (show(0:Int)<2147483629 by decide);have h1:kI (c+1) (48271+118*k):=CN (by omega) (by omega);have h2:kI k k:=CN (by omega) (by omega);have h3:∀j,kI ((c+1)*(48271+118*k)%2147483629) j:=fun j=>CN (by omega) (by omega);have h4:∀j,kI j 16807:=fun j=>CM (by decide) (by decide);have h5:∀j,kI 118 j:=fun j=>CN (by decide) (by decide);have h6:∀j,lH j 977:=fun j=>⟨by decide,by decide⟩
 simp [rG,Yj,h1,h2,h3,h4,h5,h6,vY]
end M
namespace V2
open PySem L2
theorem ZO{Ω:aF}{n:Nat}{a:A}(h:fF 8 a=true):res Ω n a=some a:=by
 cases n <;> simp [res,h]
theorem Oi{Ω:aF}{n k:Nat}{ds:List A}(h:Ω[k]? = some (.lst ds)):res Ω (n+1) (.aD k)=(uC (res Ω n) ds).map .lst:=by
 rw [res,if_neg (by simp [fF])];simp [h]
theorem Aq{Ω:aF}{n:Nat}:∀(ds:List A),ds.all (fF 8)=true→uC (res Ω n) ds=some ds
 | [],_=>rfl
 | d::ds,h=>by
  simp only [Jn,nK]at h;simp [uC,ZO h.1,Aq ds h.2]
abbrev E:=Int×Int×Int
def cL(e:E):A := .tup [.int e.1,.int e.2.1,.int e.2.2]
def encL(es:List E):List A:=es.map cL
@[simp] theorem ayY(n:Nat)(i:Int):fF n (.int i)=true:=by cases n <;> rfl
def fQ(s l d:Int)(es:List E):A := .tup [.int s,.int l,.int d,.lst (encL es)]
@[simp] theorem azG(es:List E):(encL es).length=es.length:=by simp [encL]
end V2
namespace M
open PySem L2 V2
def iS(es:List E)(i:Nat):Int:=if i=0 then 0 else(es[i - 1]?.getD (0,0,0)).2.1
def iK(s:Int)(es:List E)(i:Nat):Int:=match es[i]? with
 | some e=>e.2.2 - 1
 | none=>s
theorem CK(es:List E)(i:Nat):(encL es)[i]? = es[i]?.map cL:=by simp [encL]
theorem awS{α:Type}(xs:List α)(i:Nat):dY xs (i:Int)=xs[i]?:=sJ xs i
theorem Yl{α:Type}(xs:List α)(i:Nat)(h:0<i):dY xs ((i:Int) - 1)=xs[i - 1]?:=by
 rw [show((i:Int) - 1)=((i - 1:Nat):Int)by omega];exact sJ xs _
theorem axV(s l d:Int)(es:List E)(i:Nat)(Ω:aF)(h:i≤es.length):rF [fQ s l d es,.int i] Ω=aM (.tup [.int (iS es i),.int (iK s es i)]) Ω:=by
 have h2:(2:Nat)≤sizeLine:=by decide
 by_cases h0:i=0
 ·subst h0;cases es with
  | nil=>simp [rF,wU,fQ,encL,iS,iK,h2]
  | cons e es=>simp [rF,wU,fQ,encL,cL,iS,iK,h2]
 ·have e1:dY (encL es) ((i:Int) - 1)=some (cL (es[i - 1]?.getD (0,0,0))):=by
   rw [Yl _ _ (by omega),CK,eX (by omega)];rfl
  have hp:0<i:=by omega
  by_cases hl:i<es.length
  ·have e2:dY (encL es) (i:Int)=some (cL es[i]):=by rw [awS,CK,eX hl];rfl
   have KD:(i:Int)<es.length:=by omega
   simp [rF,wU,fQ,e1,e2,hp,hl,KD,h2,cL,iS,iK,h0]
  ·have KD:¬(i:Int)<es.length:=by omega
   simp [rF,wU,fQ,e1,hp,hl,KD,h2,cL,iS,iK,h0]
def iX(s t:Int):Nat→Int→Int→List E→List E→List E
 | 0,_,_,_,_=>[]
 | n+1,lo1,eP,es,fs=>match es,fs with
  | [],[]=>[]
  | e::oV,[]=>(e.1,e.2.1+eP,e.2.2+t)::iX s t n e.2.1 eP oV []
  | [],f::iB=>(f.1,f.2.1+lo1,f.2.2+s)::iX s t n lo1 f.2.1 [] iB
  | e::oV,f::iB=>if e.1≤f.1 then(e.1,e.2.1+eP,e.2.2+(f.2.2 - 1))::iX s t n e.2.1 eP oV (f::iB)else(f.1,f.2.1+lo1,f.2.2+(e.2.2 - 1))::iX s t n lo1 f.2.1 (e::oV) iB
def AW(s t:Int)(es fs:List E):List E:=iX s t (es.length+fs.length) 0 0 es fs
theorem Av(es:List E)(i:Nat)(h:i<es.length):iS es (i+1)=es[i].2.1:=by simp [iS,h]
theorem Tp(s:Int)(es:List E)(i:Nat)(h:i<es.length):iK s es i=es[i].2.2 - 1:=by simp [iK,h]
theorem Tq(s:Int)(es:List E):iK s es es.length=s:=by simp [iK]
theorem ax4(n:Nat)(e:E):Cl n (cL e):=by simp [cL,Cl,fH]
theorem Kr(n:Nat):∀(es:List E),fH n (encL es)
 | []=>by simp [encL,fH]
 | e::es=>by simp only [encL,dH,fH];exact⟨ax4 n e,Kr n es⟩
theorem ax3(n:Nat)(s l d:Int)(es:List E):Cl n (fQ s l d es):=by simp [fQ,Cl,fH,Kr]
def vR(n t:Int):List E:=if t=1 then [(n,1,1)]else [(n,1,1),(n,t,t)]
def Ch(l s:Int):Int→Int→Option Int→List E→Prop
 | lo,hp,_,[]=>lo=s∧hp=s
 | lo,hp,pr,e::r=>(∀p,pr=some p→p≤e.1)∧(pr=some e.1∨e.2.2≤lo+l+1)∧lo<e.2.1∧hp<e.2.2∧e.2.1≤e.2.2∧e.2.2 - e.2.1≤l∧Ch l s e.2.1 e.2.2 (some e.1) r
def Vq(es:List E):Prop:=∀e r,es=e::r→e.2.1=1∧e.2.2=1
structure GF(s l d:Int)(es:List E):Prop where
 s0:0≤s
 l0:0≤l
 d0:0≤d
 fst:Vq es
 ch:Ch l s 0 0 none es
theorem Ch.bound{l s:Int}:∀{es:List E} {lo hp:Int} {pr:Option Int},Ch l s lo hp pr es→lo≤s∧hp≤s
 | [],_,_,_,h=>⟨Jv h.1,Jv h.2⟩
 | e::r,_,_,_,h=>by
  obtain⟨_,_,h3,h4,_,_,h7⟩:=h;have:=Ch.bound h7;omega
def iU(s:Int):List E→Int
 | []=>s
 | e::_=>e.2.2 - 1
theorem Ch.Rk{l s lo hp:Int}{pr:Option Int}{es:List E}(h:Ch l s lo hp pr es):lo≤iU s es∧hp≤iU s es:=by
 cases es with
 | nil=>exact⟨Jv h.1,Jv h.2⟩
 | cons e r =>
  obtain⟨_,_,h3,h4,h5,_,_⟩:=h;show lo≤e.2.2 - 1∧hp≤e.2.2 - 1;omega
theorem yL(s:Int):iU s []=s:=rfl
theorem BR(s:Int)(e:E)(r:List E):iU s (e::r)=e.2.2 - 1:=rfl
def Last(p1 p2 P:Option Int)(nQ iY KJ hi2 HP:Int):Prop :=
 (P=p1∧HP=nQ+hi2∧(p1=none→p2=none)∧∀p q,p1=some p→p2=some q→q<p) ∨
 (P=p2∧HP=KJ+iY∧p2≠none∧∀p q,p1=some p→p2=some q→p≤q)
theorem avS{l1 l2 s t:Int}{lo1 eP nQ iY HP:Int}{p1 p2 P:Option Int}{e:E}{es fs:List E}(h1:Ch l1 s lo1 nQ p1 (e::es))(h2:Ch l2 t eP iY p2 fs)(FI:0≤l1)(kX:0≤l2)
  (S1:∀p f r,p1=some p→fs=f::r→p≤f.1) (S2:∀q,p2=some q→q<e.1) (L:Last p1 p2 P nQ iY (iU s (e::es)) (iU t fs) HP) (hf:∀f r,fs=f::r→e.1≤f.1)
  (rest:Ch (l1+l2) (s+t) (e.2.1+eP) (e.2.2+iU t fs) (some e.1) R):Ch (l1+l2) (s+t) (lo1+eP) HP P ((e.1,e.2.1+eP,e.2.2+iU t fs)::R):=by
 obtain⟨a1,a2,a3,a4,a5,a6,a7⟩:=h1;obtain⟨b1,b2⟩:=h2.Rk;have g2:iU t fs≤eP+l2:=by
  cases fs with
  | nil=>rw [yL];have:=h2.1;omega
  | cons f r =>
   obtain⟨_,c2,_⟩:=h2;rw [BR]
   rcases c2 with c2 | c2
   ·have:=S2 _ c2;have:=hf f r rfl;omega
   ·omega
 rw [BR]at L;refine⟨fun p hp=>?_,?_,by show lo1+eP<e.2.1+eP;omega,?_,by show e.2.1+eP≤e.2.2+iU t fs;omega,by show e.2.2+iU t fs - (e.2.1+eP)≤l1+l2;omega,rest⟩
 ·rcases L with⟨e1,_⟩ | ⟨e1,_⟩
  ·rw [e1]at hp;exact a1 p hp
  ·rw [e1]at hp;have:=S2 p hp;show p≤e.1;omega
 ·rcases a2 with a2 | a2
  ·left
   rcases L with⟨e1,_⟩ | ⟨e1,_,e3,e4⟩
   ·rw [e1];exact a2
   ·exfalso;cases h:p2 with
    | none=>exact e3 h
    | some q =>
     have:=e4 _ q a2 h;have:=S2 q h;omega
  ·right
   show e.2.2+iU t fs≤lo1+eP+(l1+l2)+1;omega
 ·show HP<e.2.2+iU t fs
  rcases L with⟨_,e2,_⟩ | ⟨_,e2,_⟩ <;> omega
theorem Xe{l1 l2 s t:Int}{lo1 eP nQ iY HP:Int}{p1 p2 P:Option Int}{f:E}{es fs:List E}(h1:Ch l1 s lo1 nQ p1 es)(h2:Ch l2 t eP iY p2 (f::fs))(FI:0≤l1)(kX:0≤l2)
  (S1:∀p,p1=some p→p≤f.1) (S2:∀q e r,p2=some q→es=e::r→q<e.1) (L:Last p1 p2 P nQ iY (iU s es) (iU t (f::fs)) HP) (hf:∀e r,es=e::r→f.1<e.1)
  (rest:Ch (l1+l2) (s+t) (f.2.1+lo1) (f.2.2+iU s es) (some f.1) R):Ch (l1+l2) (s+t) (lo1+eP) HP P ((f.1,f.2.1+lo1,f.2.2+iU s es)::R):=by
 obtain⟨a1,a2,a3,a4,a5,a6,a7⟩:=h2;obtain⟨b1,b2⟩:=h1.Rk;have g1:iU s es≤lo1+l1:=by
  cases es with
  | nil=>rw [yL];have:=h1.1;omega
  | cons e r =>
   obtain⟨_,c2,_⟩:=h1;rw [BR]
   rcases c2 with c2 | c2
   ·have:=S1 _ c2;have:=hf e r rfl;omega
   ·omega
 rw [BR]at L;refine⟨fun p hp=>?_,?_,by show lo1+eP<f.2.1+lo1;omega,?_,by show f.2.1+lo1≤f.2.2+iU s es;omega,by show f.2.2+iU s es - (f.2.1+lo1)≤l1+l2;omega,rest⟩
 ·rcases L with⟨e1,_⟩ | ⟨e1,_⟩
  ·rw [e1]at hp;exact S1 p hp
  ·rw [e1]at hp;exact a1 p hp
 ·rcases a2 with a2 | a2
  ·left
   rcases L with⟨e1,_,e3,e4⟩ | ⟨e1,_⟩
   ·exfalso;cases h:p1 with
    | none=>rw [e3 h]at a2;cases a2
    | some p =>
     have:=e4 p _ h a2;have:=S1 p h;omega
   ·rw [e1];exact a2
  ·right
   show f.2.2+iU s es≤lo1+eP+(l1+l2)+1;omega
 ·show HP<f.2.2+iU s es
  rcases L with⟨_,e2,_⟩ | ⟨_,e2,_⟩ <;> omega
theorem avT{l1 l2 s t:Int}(FI:0≤l1)(kX:0≤l2):∀(n:Nat) (es fs:List E) (lo1 eP nQ iY HP:Int) (p1 p2 P:Option Int),n=es.length+fs.length→Ch l1 s lo1 nQ p1 es→Ch l2 t eP iY p2 fs →
  (∀p f r,p1=some p→fs=f::r→p≤f.1)→(∀q e r,p2=some q→es=e::r→q<e.1)→Last p1 p2 P nQ iY (iU s es) (iU t fs) HP →
  Ch (l1+l2) (s+t) (lo1+eP) HP P (iX s t n lo1 eP es fs):=by
 intro n
 induction n with
 | zero =>
  intro es fs lo1 eP nQ iY HP p1 p2 P hn h1 h2 S1 S2 L;have e1:es=[]:=Zt (by omega);have e2:fs=[]:=Zt (by omega);subst e1 e2;obtain⟨a1,a2⟩:=h1;obtain⟨b1,b2⟩:=h2;simp only [yL]at L;refine⟨by omega,?_⟩
  rcases L with⟨_,e2,_⟩ | ⟨_,e2,_⟩ <;> omega
 | succ n ih =>
  intro es fs lo1 eP nQ iY HP p1 p2 P hn h1 h2 S1 S2 L;cases es with
  | nil =>
   cases fs with
   | nil=>simp at hn
   | cons f fs =>
    simp only [gO,xC]at hn;have CB:=h2;obtain⟨c1,c2,c3,c4,c5,c6,c7⟩:=h2;have q:=ih [] fs lo1 f.2.1 nQ f.2.2 (s+f.2.2) p1 (some f.1) (some f.1) (by simp;omega) h1 c7
     (fun p f' r hp he=>by
      subst he;have:=S1 p f _ hp rfl;have:=c7.1 _ rfl;omega) (fun q e r _ he=>by cases he)
     (.inr ⟨rfl,rfl,by simp,fun p q hp hq=>by cases hq;exact S1 p f _ hp rfl⟩)
    have:=Xe (es:=[]) h1 CB FI kX (fun p hp=>S1 p f _ hp rfl) (fun q e r _ he=>by cases he) L (fun e r he=>by cases he) (R:=iX s t n lo1 f.2.1 [] fs) (by
     rw [yL,Jw f.2.1,Jw f.2.2];exact q)
    simp only [iX];rw [yL]at this;exact this
  | cons e es =>
   have tL:=h1;obtain⟨d1,d2,d3,d4,d5,d6,d7⟩:=h1;have IE:(∀f r,fs=f::r→e.1≤f.1)→Ch (l1+l2) (s+t) (lo1+eP) HP P ((e.1,e.2.1+eP,e.2.2+iU t fs)::iX s t n e.2.1 eP es fs):=fun hf=>by
    have q:=ih es fs e.2.1 eP e.2.2 iY (e.2.2+iU t fs) (some e.1) p2 (some e.1) (by simp at hn ⊢;omega) d7 h2
     (fun p f' r hp he=>by cases hp;exact hf f' r he) (fun q e' r hq he=>by
      subst he;have:=S2 q e _ hq rfl;have:=d7.1 _ rfl;omega)
     (.inl ⟨rfl,rfl,by simp,fun p q hp hq=>by cases hp;exact S2 q e _ hq rfl⟩)
    exact avS tL h2 FI kX S1 (fun q hq=>S2 q e _ hq rfl) L hf q
   cases fs with
   | nil =>
    have:=IE (fun f r he=>by cases he);simp only [iX];rw [yL]at this;exact this
   | cons f fs =>
    simp only [iX]
    by_cases hle:e.1≤f.1
    ·rw [if_pos hle];have:=IE (fun f' r he=>by cases he;exact hle);rw [BR]at this;exact this
    ·rw [if_neg hle];have CB:=h2;obtain⟨c1,c2,c3,c4,c5,c6,c7⟩:=h2;have q:=ih (e::es) fs lo1 f.2.1 nQ f.2.2 (iU s (e::es)+f.2.2) p1 (some f.1) (some f.1) (by simp at hn ⊢;omega) tL c7
      (fun p f' r hp he=>by
       subst he;have:=S1 p f _ hp rfl;have:=c7.1 _ rfl;omega) (fun q e' r hq he=>by cases hq;cases he;omega)
      (.inr ⟨rfl,rfl,by simp,fun p q hp hq=>by cases hq;exact S1 p f _ hp rfl⟩)
     have:=Xe (es:=e::es) tL CB FI kX (fun p hp=>S1 p f _ hp rfl) (fun q e' r hq he=>S2 q e' r hq he) L (fun e' r he=>by cases he;omega) (R:=iX s t n lo1 f.2.1 (e::es) fs) (by
      rw [Jw f.2.1,Jw f.2.2];exact q)
     rw [BR]at this;exact this
theorem Tr{l s:Int}{es:List E}(h:Vq es)(c:Ch l s 0 0 none es):iU s es=0:=by
 cases es with
 | nil=>exact c.1.symm
 | cons e r=>rw [BR,(h e r rfl).2];rfl
theorem asY{s1 l1 d1 s2 l2 d2:Int}{es fs:List E}(h1:GF s1 l1 d1 es)(h2:GF s2 l2 d2 fs):GF (s1+s2) (l1+l2) (max d1 d2) (AW s1 s2 es fs):=by
 have e1:=Tr h1.fst h1.ch;have e2:=Tr h2.fst h2.ch;have q:=avT h1.l0 h2.l0 (es.length+fs.length) es fs 0 0 0 0 0 none none none rfl h1.ch h2.ch (fun _ _ _ h=>by cases h) (fun _ _ _ h=>by cases h) (.inl ⟨rfl,by rw [e2];rfl,fun _=>rfl,fun _ _ h=>by cases h⟩);refine⟨by have:=h1.s0;have:=h2.s0;omega,by have:=h1.l0;have:=h2.l0;omega,by have:=h1.d0;omega,?_,q⟩;intro e r he;unfold AW at he;cases es with
 | nil =>
  cases fs with
  | nil=>simp [iX]at he
  | cons f fs =>
   rw [yL]at e1;simp only [xC,gO,wY,iX,sN]at he;obtain⟨a,b⟩:=h2.fst f fs rfl;rw [← he.1];exact⟨by show f.2.1+0=1;omega,by show f.2.2+s1=1;omega⟩
 | cons x es =>
  obtain⟨a,b⟩:=h1.fst x es rfl;cases fs with
  | nil =>
   rw [yL]at e2;simp only [xC,gO,Nat.add_zero,iX,sN]at he;rw [← he.1];exact⟨by show x.2.1+0=1;omega,by show x.2.2+s2=1;omega⟩
  | cons f fs =>
   obtain⟨a',b'⟩:=h2.fst f fs rfl;have el:(x::es).length+(f::fs).length=(es.length+(f::fs).length)+1:=by simp only [gO];omega
   rw [el]at he;simp only [iX]at he;split at he
   ·simp only [sN]at he;rw [← he.1];exact⟨by show x.2.1+0=1;omega,by show x.2.2+(f.2.2 - 1)=1;omega⟩
   ·simp only [sN]at he;rw [← he.1];exact⟨by show f.2.1+0=1;omega,by show f.2.2+(x.2.2 - 1)=1;omega⟩
def pG(l:Int)(k y:E):Bool:=decide (y.1=k.1)||decide (y.2.2≤k.2.1+l+1)
def oJ(l:Int):E→List E→List E
 | _,[]=>[]
 | k,x::r=>match r with
  | []=>[x]
  | y::_=>if pG l k y=true then oJ l k r else x::oJ l x r
def lZ(l:Int):List E→List E
 | []=>[]
 | e::r=>e::oJ l e r
theorem ED(l:Int)(k x y:E)(r:List E):oJ l k (x::y::r)=if pG l k y=true then oJ l k (y::r)else x::oJ l x (y::r):=rfl
theorem AU(l:Int)(k y:E):pG l k y=true↔(y.1=k.1∨y.2.2≤k.2.1+l+1):=by simp [pG]
theorem Gu{l0 l s:Int}(Th:l0≤l):∀(xs:List E) (k:E) (pz lz mz:Int),Ch l0 s lz mz (some pz) xs→k.1≤pz→k.2.1≤lz→k.2.2≤mz→(xs=[]→k.2.1=lz∧k.2.2=mz)→(∀x r,xs=x::r→pG l k x=true)→Ch l s k.2.1 k.2.2 (some k.1) (oJ l k xs)
 | [],k,pz,lz,mz,h,_,_,_,he,_=>by
  obtain⟨a,b⟩:=he rfl;exact⟨a.trans h.1,b.trans h.2⟩
 | [x],k,pz,lz,mz,h,h1,h2,h3,_,hn=>by
  obtain⟨a1,a2,a3,a4,a5,a6,a7⟩:=h;have n:=(AU l k x).mp (hn x [] rfl);have:=a1 pz rfl;refine⟨fun p hp=>(by cases hp;omega),?_,by omega,by omega,a5,by omega,a7⟩
  rcases n with n | n
  ·left;rw [n]
  ·right;exact n
 | x::y::r,k,pz,lz,mz,h,h1,h2,h3,_,hn=>by
  obtain⟨a1,a2,a3,a4,a5,a6,a7⟩:=h;have hx:=a1 pz rfl;rw [ED]
  by_cases hy:pG l k y=true
  ·rw [if_pos hy];exact Gu Th (y::r) k x.1 x.2.1 x.2.2 a7 (by omega) (by omega) (by omega) (fun e=>by cases e) (fun x' r' e=>by cases e;exact hy)
  ·rw [if_neg hy];have n:=(AU l k x).mp (hn x _ rfl);have q:=Gu Th (y::r) x x.1 x.2.1 x.2.2 a7 wH wH wH (fun e=>by cases e) (fun x' r' e=>by
    cases e;rw [AU]
    rcases a7.2.1 with z | z
    ·left;exact(jJ z).symm
    ·right;omega)
   refine⟨fun p hp=>(by cases hp;omega),?_,by omega,by omega,a5,by omega,q⟩
   rcases n with n | n
   ·left;rw [n]
   ·right;exact n
theorem asW{s l d l':Int}{es:List E}(h:GF s l d es)(hl:l≤l'):GF s l' (d+1) (lZ l' es):=by
 refine⟨h.s0,by have:=h.l0;omega,by have:=h.d0;omega,?_,?_⟩
 ·intro e r he;cases es with
  | nil=>cases he
  | cons x xs =>
   simp only [lZ,sN]at he;rw [← he.1];exact h.fst x xs rfl
 ·cases es with
  | nil=>exact h.ch
  | cons x xs =>
   obtain⟨a1,a2,a3,a4,a5,a6,a7⟩:=h.ch;refine⟨a1,?_,a3,a4,a5,by omega,Gu hl xs x x.1 x.2.1 x.2.2 a7 wH wH wH (fun _=>⟨rfl,rfl⟩) (fun y r e=>?_)⟩
   ·rcases a2 with a2 | a2
    ·cases a2
    ·right;omega
   ·subst e;rw [AU]
    rcases a7.2.1 with z | z
    ·left;exact(jJ z).symm
    ·right;omega
theorem OP(l:Int):∀(xs:List E) (k c:E),c∈oJ l k xs→c∈xs
 | [],_,_,h=>by cases h
 | [x],_,_,h=>h
 | x::y::r,k,c,h=>by
  rw [ED]at h;split at h
  ·exact jK _ (OP l (y::r) k c h)
  ·rcases dN.mp h with z | z
   ·rw [z];exact List.mem_cons_self ..
   ·exact jK _ (OP l (y::r) x c z)
theorem MD{l s:Int}:∀(xs:List E) (lo hp:Int) (pr:Option Int),Ch l s lo hp pr xs→∀c∈xs,hp<c.2.2∧lo<c.2.1∧c.2.2 - c.2.1≤l∧c.2.1≤s∧c.2.2≤s
 | [],_,_,_,_,c,h=>by cases h
 | x::r,lo,hp,pr,h,c,hc=>by
  obtain⟨a1,a2,a3,a4,a5,a6,a7⟩:=h
  rcases dN.mp hc with z | z
  ·subst z;have:=a7.bound;exact⟨a4,a3,a6,this.1,this.2⟩
  ·obtain⟨b1,b2,b3,b4,b5⟩:=MD r _ _ _ a7 c z;exact⟨by omega,by omega,b3,b4,b5⟩
def Jr(st:Int):E→List E→Prop
 | _,[]=>True
 | k,b::r=>(∀c r',r=c::r'→k.2.1+st+2≤c.2.1)∧Jr st b r
theorem Co{l0 st s:Int}:∀(xs:List E) (k:E) (lo hp:Int) (pr:Option Int),Ch l0 s lo hp pr xs→Jr st k (oJ (l0+st) k xs)
 | [],_,_,_,_,_=>trivial
 | [x],_,_,_,_,_=>⟨fun c r' e=>(by cases e),trivial⟩
 | x::y::r,k,lo,hp,pr,h=>by
  obtain⟨a1,a2,a3,a4,a5,a6,a7⟩:=h;rw [ED]
  by_cases hy:pG (l0+st) k y=true
  ·rw [if_pos hy];exact Co (y::r) k _ _ _ a7
  ·rw [if_neg hy];refine⟨fun c r' e=>?_,Co (y::r) x _ _ _ a7⟩;have hc:c∈y::r:=OP _ (y::r) x c (by rw [e];exact List.mem_cons_self ..);have hm:=MD _ _ _ _ a7 c hc;have Dl:y.2.2≤c.2.2:=by
    rcases dN.mp hc with z | z
    ·rw [z];exact jR _
    ·obtain⟨_,_,_,_,_,_,b7⟩:=a7;have:=(MD _ _ _ _ b7 c z).1;omega
   have hn:¬(y.1=k.1∨y.2.2≤k.2.1+(l0+st)+1):=fun z=>hy ((AU _ _ _).mpr z);have wL:¬y.2.2≤k.2.1+(l0+st)+1:=fun z=>hn (.inr z);omega
theorem Sd{st s:Int}:∀(m:Nat) (k:E) (out:List E),Jr st k out→(∀c∈k::out,c.2.1≤s)→2*m≤out.length→k.2.1+m*(st+2)≤s
 | 0,k,out,_,h,_=>by have:=h k nP;simpa using this
 | m+1,k,out,j,h,hl=>by
  match out,j,hl with
  | [],_,hl=>simp at hl
  | [b],_,hl=>simp at hl;omega
  | b::c::r,j,hl =>
   obtain⟨j1,j2⟩:=j;have e:=j1 c r rfl;have q:=Sd m c r j2.2 (fun z hz=>h z (jK _ (jK _ hz))) (by simp at hl;omega);have:((m+1:Nat):Int)*(st+2)=(m:Int)*(st+2)+(st+2):=by rw [Int.natCast_add,zM];simp
   rw [this];omega
theorem ab8{s l d:Int}{es:List E}(h:GF s l d es)(keep:Nat)(hk:1≤keep):(lZ (l+s/keep) es).length≤2*keep:=by
 cases es with
 | nil=>simp [lZ]
 | cons x xs =>
  obtain⟨a1,a2,a3,a4,a5,a6,a7⟩:=h.ch;have hx:=(h.fst x xs rfl).1
  by_cases hc:(lZ (l+s/keep) (x::xs)).length≤2*keep
  ·exact hc
  ·exfalso;have hlen:2*keep≤(oJ (l+s/keep) x xs).length:=by simp only [lZ,gO]at hc;omega
   have q:=Sd keep x _ (Co xs x _ _ _ a7) (fun c oR=>by
    rcases dN.mp oR with z | z
    ·rw [z];exact a7.bound.1
    ·exact(MD _ _ _ _ a7 c (OP _ _ _ _ z)).2.2.2.1) hlen
   have e1:=Int.mul_ediv_add_emod s keep;have e2:=xE s (show(0:Int)<keep by omega);have e3:(keep:Int)*(s/keep+2)=keep*(s/keep)+2*keep:=by rw [Int.mul_add];omega
   rw [e3]at q;omega
theorem asX(n t:Int)(h:1≤t):GF t 0 0 (vR n t):=by
 unfold vR;split
 ·rename_i e;subst e;refine⟨by omega,by omega,by omega,fun e r he=>(by cases he;exact⟨rfl,rfl⟩),?_⟩;refine⟨fun p hp=>(by cases hp),.inr (by show(1:Int)≤0+0+1;omega),by show(0:Int)<1;omega,by show(0:Int)<1;omega,jR _,by show(1:Int) - 1≤0;omega,rfl,rfl⟩
 ·rename_i e;refine⟨by omega,by omega,by omega,fun e r he=>(by cases he;exact⟨rfl,rfl⟩),?_⟩;refine⟨fun p hp=>(by cases hp),.inr (by show(1:Int)≤0+0+1;omega),by show(0:Int)<1;omega,by show(0:Int)<1;omega,jR _,by show(1:Int) - 1≤0;omega,?_⟩;refine⟨fun p hp=>(by cases hp;exact jR _),.inl rfl,by show(1:Int)<t;omega,by show(1:Int)<t;omega,jR _,by show t - t≤0;omega,rfl,rfl⟩
end M
namespace V2
open PySem L2
theorem XH{Ω Ω':aF}{a:A}(h:Ω'.length=Ω.length):trim Ω (some (.ok a,Ω'))=some (.ok a,Ω'):=by
 simp only [trim];split
 ·rename_i q;have:Ω'.take Ω.length=Ω':=by rw [← h];exact List.take_length
  rw [this]at q;rw [q.1]
 ·rfl
end V2
namespace M
open PySem L2 V2
theorem axO(l:Int)(k y:E)(Ω:aF):NQ [cL k,cL y,.int l] Ω=aM (.bl (pG l k y)) Ω:=by
 by_cases h:y.1=k.1
 ·simp [NQ,Hl,cL,h,pG]
 ·simp [NQ,Hl,cL,h,pG]
theorem Gf(es:List E)(e:E):encL es++[cL e]=encL (es++[e]):=by simp [encL]
theorem Gg(e:E)(es:List E):encL (e::es)=cL e::encL es:=rfl
theorem QS(ok:aF→Prop)(aH:∀Ω,ok Ω)(es:List E)(l:Int)(Ω:aF)(hz:es.length≤100000):∀(xs:List E) (pre acc:List E) (k:E) (a e:Option A),es=pre++xs→1≤pre.length→acc.length≤pre.length→∃a' e',
  dS ok (kN 2 (eR (gN 4) (eR (gN 5) lC))) zB (kP pre.length (encL xs)) [aT (encL es),aA l,aE Ω.length,aA ((es.length:Int) - 1),a,e] (Ω++[.lst (encL (acc++[k]))]) =
   some (.nx,[aT (encL es),aA l,aE Ω.length,aA ((es.length:Int) - 1),a',e'],Ω++[.lst (encL (acc++[k]++oJ l k xs))])
 | [],pre,acc,k,a,e,_,_,_=>⟨a,e,by
   show dS _ _ _ [] _ _=_;rw [RQ (aH _)];simp [oJ]⟩
 | x::r,pre,acc,k,a,e,he,hp,hac=>by
  have hL:∀ds,cK (Ω++[.lst ds]) (.aD Ω.length)=some ds:=fun ds=>iJ (by simp);have hI:∀ds,pI (Ω++[.lst ds]) (.aD Ω.length):=fun ds=>tE (hL ds);have hC:∀ds,lS (Ω++[.lst ds]) (.aD Ω.length)=some (Ω.length,ds):=fun ds=>tO (by simp);have hlen:es.length=pre.length+(r.length+1):=by rw [he];simp
  have Sq:acc.length+1<sizeLine:=by rw [mG];omega
  have Df:((pre.length:Int) == 0)=false:=by simp;intro z;simp [z]at hp
  have Ti:dY (encL (acc++[k])) (-1)=some (cL k):=by rw [← Gf];exact L2.awT _ _
  have keep:∀(ρx:Option A),zB [aT (encL es),aA l,aE Ω.length,aA ((es.length:Int) - 1),aA (pre.length:Int),some (cL x)] (Ω++[.lst (encL (acc++[k]))]) =
    some (.nx,[aT (encL es),aA l,aE Ω.length,aA ((es.length:Int) - 1),aA (pre.length:Int),some (cL x)],Ω++[.lst (encL (acc++[k]++(match r with
     | []=>[x]
     | y::_=>if pG l k y=true then []else [x])))]):=by
   intro _;cases r with
   | nil =>
    have kX:((pre.length:Int) == (es.length:Int) - 1)=true:=by simp at hlen ⊢;omega
    simp [zB,-beq_iff_eq,-beq_eq_false_iff_ne,Df,kX,hI,hC,Sq];rw [Gf];simp
   | cons y r =>
    have kX:((pre.length:Int) == (es.length:Int) - 1)=false:=by simp at hlen ⊢;omega
    have hy:dY (encL es) ((pre.length:Int)+1)=some (cL y):=by
     rw [show((pre.length:Int)+1)=((pre.length+1:Nat):Int)by omega,sJ,CK,he];simp
    have q:=fun Ω=>axO l k y Ω;cases hb:pG l k y with
    | true =>
     rw [hb]at q;simp [zB,-beq_iff_eq,-beq_eq_false_iff_ne,Df,kX,hL,Ti,hy,q,hb]
    | false =>
     rw [hb]at q;simp [zB,-beq_iff_eq,-beq_eq_false_iff_ne,Df,kX,hL,Ti,hy,q,hI,hC,Sq,hb];rw [Gf];simp
  have fJ:(pre++[x]).length=pre.length+1:=by simp
  rw [Gg,kP];cases r with
  | nil =>
   obtain⟨a',e',ih⟩:=QS ok aH es l Ω hz [] (pre++[x]) (acc++[k]) x (aA (pre.length:Int)) (some (cL x)) (by rw [he];simp) (by simp) (by simp;omega);rw [fJ]at ih;refine⟨a',e',?_⟩;rw [lE (aH _) (by simp) (keep none),ih];simp [oJ]
  | cons y r =>
   cases hb:pG l k y with
   | true =>
    obtain⟨a',e',ih⟩:=QS ok aH es l Ω hz (y::r) (pre++[x]) acc k (aA (pre.length:Int)) (some (cL x)) (by rw [he];simp) (by simp) (by simp;omega);rw [fJ]at ih;refine⟨a',e',?_⟩;rw [lE (aH _) (by simp) (keep none)];simp only [hb,fW,zJ];rw [ih,ED,if_pos hb]
   | false =>
    obtain⟨a',e',ih⟩:=QS ok aH es l Ω hz (y::r) (pre++[x]) (acc++[k]) x (aA (pre.length:Int)) (some (cL x)) (by rw [he];simp) (by simp) (by simp;omega);rw [fJ]at ih;refine⟨a',e',?_⟩;rw [lE (aH _) (by simp) (keep none)];simp only [hb,sO,jN];rw [ih,ED,if_neg (by rw [hb];simp)];simp
theorem axS(es:List E)(l:Int)(Ω:aF)(hz:es.length≤100000):NR [.lst (encL es),.int l] Ω=aM (.lst (encL (lZ l es))) Ω:=by
 have hI:∀ds,pI (Ω++[.lst ds]) (.aD Ω.length):=fun ds=>tE (iJ (ds:=ds) (by simp));have hC:∀ds,lS (Ω++[.lst ds]) (.aD Ω.length)=some (Ω.length,ds):=fun ds=>tO (by simp);have h0:(0:Nat)<sizeLine:=by decide
 cases es with
 | nil =>
  simp [NR,Hr,enumSrc,encL,kP,dS,lZ];exact AD (by simp [Cl,fH])
 | cons x xs =>
  obtain⟨a',e',q⟩:=QS (fun _=>True) (fun _=>trivial) (x::xs) l Ω hz xs [x] [] x (aA 0) (some (cL x)) rfl (by simp) (by simp);have f:dS (fun _=>True) (kN 2 (eR (gN 4) (eR (gN 5) lC))) zB (kP 0 (encL (x::xs))) [aT (encL (x::xs)),aA l,aE Ω.length,aA (((x::xs).length:Int) - 1),none,none] (Ω++[.lst []]) =
   some (.nx,[aT (encL (x::xs)),aA l,aE Ω.length,aA (((x::xs).length:Int) - 1),a',e'],Ω++[.lst (encL (lZ l (x::xs)))]):=by
   rw [Gg,kP,lE trivial (ρ0:=[aT (encL (x::xs)),aA l,aE Ω.length,aA (((x::xs).length:Int) - 1),aA 0,some (cL x)]) (Ω0:=Ω++[.lst []]) (by simp [Gg])
    (ρ1:=[aT (encL (x::xs)),aA l,aE Ω.length,aA (((x::xs).length:Int) - 1),aA 0,some (cL x)]) (Ω1:=Ω++[.lst (encL ([]++[x]))]) (by simp [zB,hI,hC,h0,encL])]
   exact q
  have hn:(((x::xs).length:Int) - 1)=(xs.length:Int):=by simp
  rw [hn]at f;simp [NR,Hr,enumSrc,f];exact AD (by simp [Cl,Kr])
theorem axG(s l d:Int)(es:List E)(keep:Int)(Ω:aF)(hk:1≤keep)(kY:keep<1000000)(hz:es.length≤100000):uW [fQ s l d es,.int keep] Ω=aM (fQ s (l+s/keep) (d+1) (lZ (l+s/keep) es)) Ω:=by
 have q:=fun l Ω=>axS es l Ω hz;have h4:(4:Nat)≤sizeLine:=by decide
 have hd:∀j,lH j keep:=fun j=>⟨by omega,by omega⟩
 simp [uW,Xy,fQ,q,h4,hd]
theorem Uv{s l d:Int}{es:List E}(h:GF s l d es):(s=0↔es=[]):=by
 cases es with
 | nil=>exact⟨fun _=>rfl,fun _=>h.ch.1.symm⟩
 | cons e r =>
  obtain⟨_,_,a3,_,_,_,a7⟩:=h.ch;have:=a7.bound;exact⟨fun z=>by omega,fun z=>by cases z⟩
theorem Xh{l s:Int}:∀(es:List E) (lo hp:Int) (pr:Option Int) (i:Nat) (e:E),Ch l s lo hp pr es→es[i]? = some e→e.2.1≤e.2.2∧e.2.2 - e.2.1≤l∧(i+1=es.length→e.2.1=s∧e.2.2=s)∧∀f,es[i+1]? = some f→e.1≤f.1∧e.2.1<f.2.1∧e.2.2<f.2.2∧pG l e f=true
 | [],_,_,_,_,_,_,h=>by simp at h
 | x::r,lo,hp,pr,0,e,h,he=>by
  obtain⟨a1,a2,a3,a4,a5,a6,a7⟩:=h;simp at he;subst he;refine⟨a5,a6,fun hl=>?_,fun f hf=>?_⟩
  ·have:r=[]:=Zt (by simp only [gO]at hl;omega);subst this;exact a7
  ·cases r with
   | nil=>simp at hf
   | cons y r =>
    simp at hf;subst hf;obtain⟨b1,b2,b3,b4,_⟩:=a7;refine⟨b1 _ rfl,b3,b4,?_⟩;rw [AU]
    rcases b2 with z | z
    ·left;exact(jJ z).symm
    ·right;exact z
 | x::r,lo,hp,pr,i+1,e,h,he=>by
  obtain⟨a1,a2,a3,a4,a5,a6,a7⟩:=h;simp at he;obtain⟨c1,c2,c3,c4⟩:=Xh r _ _ _ i e a7 he;exact⟨c1,c2,fun hl=>c3 (by simp only [gO]at hl;omega),fun f hf=>c4 f (by simpa using hf)⟩
structure Po where
 s:Int
 l:Int
 d:Int
 es:List E
def aI(p:Po):A:=fQ p.s p.l p.d p.es
structure Ok(keep:Int)(m:Nat)(p:Po):Prop where
 gf:GF p.s p.l p.d p.es
 kp:keep*p.l≤p.d*p.s
 dm:p.d≤m
theorem anV(s t:Int):∀(n:Nat) (lo1 eP:Int) (es fs:List E),n=es.length+fs.length→(iX s t n lo1 eP es fs).length=n:=by
 intro n
 induction n with
 | zero=>intro lo1 eP es fs _;rfl
 | succ n ih =>
  intro lo1 eP es fs h;cases es with
  | nil =>
   cases fs with
   | nil=>simp at h
   | cons f fs=>simp only [iX,gO];rw [ih _ _ _ _ (by simp at h ⊢;omega)]
  | cons e es =>
   cases fs with
   | nil=>simp only [iX,gO];rw [ih _ _ _ _ (by simp at h ⊢;omega)]
   | cons f fs =>
    simp only [iX];split
    ·simp only [gO];rw [ih _ _ _ _ (by simp at h ⊢;omega)]
    ·simp only [gO];rw [ih _ _ _ _ (by simp at h ⊢;omega)]
def vZ(p q:Po):Po:=⟨p.s+q.s,p.l+q.l,max p.d q.d,AW p.s q.s p.es q.es⟩
def Mn(keep:Int)(p:Po):Po:=⟨p.s,p.l+p.s/keep,p.d+1,lZ (p.l+p.s/keep) p.es⟩
def aoK(ps:List Po):Nat:=(ps.map fun p=>p.es.length).sum
end M
namespace V2
open PySem L2
theorem Fz{ok:aF→Prop}{g:A→MS}{c:Ev→Mo Bool}{e:Ev→Mo A}(F:A→Option A)(P:Ev→Prop)(Ω0:aF)(aH:∀ys,ok (Ω0++[.lst ys])):∀(xs:List A) (ρ:Ev) (acc:List A),P ρ→acc.length+xs.length≤1000000 →
  (∀x∈xs,∀ρ,P ρ→∀ys,∃ρ1,P ρ1∧g x ρ (Ω0++[.lst ys])=some (.nx,ρ1,Ω0++[.lst ys])∧((∃y,F x=some y∧c ρ1 (Ω0++[.lst ys])=some (.ok true,Ω0++[.lst ys])∧e ρ1 (Ω0++[.lst ys])=some (.ok y,Ω0++[.lst ys]))∨(F x=none∧c ρ1 (Ω0++[.lst ys])=some (.ok false,Ω0++[.lst ys])))) →
  ∃ρ',oU ok g c e Ω0.length xs ρ (Ω0++[.lst acc])=some (ρ',Ω0++[.lst (acc++xs.filterMap F)])
 | [],ρ,acc,_,_,_=>⟨ρ,by simp [oU,aH]⟩
 | x::xs,ρ,acc,hP,hl,turn=>by
  simp only [gO]at hl;obtain⟨ρ1,Ur,e1,q⟩:=turn x nP ρ hP acc;have hz:acc.length<sizeLine:=by rw [mG];omega
  rcases q with⟨y,f1,e2,e3⟩ | ⟨f1,e2⟩
  ·obtain⟨ρ',ih⟩:=Fz F P Ω0 aH xs ρ1 (acc++[y]) Ur (by simp;omega) fun x hx=>turn x (jK _ hx);exact⟨ρ',by simp [oU,aH,e1,e2,e3,hz,ih,f1]⟩
  ·obtain⟨ρ',ih⟩:=Fz F P Ω0 aH xs ρ1 acc Ur (by omega) fun x hx=>turn x (jK _ hx);exact⟨ρ',by simp [oU,aH,e1,e2,ih,f1]⟩
theorem WS{n:Nat}{js:List Nat}{fi:Ev→Mo Src}{g:A→MS}{c:Ev→Mo Bool}{e:Ev→Mo A}{ρ:Ev}{Ω Ω0:aF}{S:Src}(F:A→Option A)(P:Ev→Prop)(hfi:fi ρ Ω=some (.ok S,Ω0))(aH:∀ys,S.ok (Ω0++[.lst ys]))(hP:P (lP n js ρ))(hl:S.ds.length≤1000000)
  (turn:∀x∈S.ds,∀ρ,P ρ→∀ys,∃ρ1,P ρ1∧g x ρ (Ω0++[.lst ys])=some (.nx,ρ1,Ω0++[.lst ys])∧((∃y,F x=some y∧c ρ1 (Ω0++[.lst ys])=some (.ok true,Ω0++[.lst ys])∧e ρ1 (Ω0++[.lst ys])=some (.ok y,Ω0++[.lst ys]))∨(F x=none∧c ρ1 (Ω0++[.lst ys])=some (.ok false,Ω0++[.lst ys]))))
  (hc:fH Ω0.length (S.ds.filterMap F)):lK false n js fi g c e ρ Ω=some (.ok (.lst (S.ds.filterMap F)),Ω0):=by
 obtain⟨ρ',q⟩:=Fz F P Ω0 aH S.ds (lP n js ρ) [] hP (by simpa using hl) turn;simp [lK,mb,hfi,q,QP,hc]
theorem ai0{f:Ev→Mo (List A)}{ρ:Ev}{Ω Ω':aF}{j:Int}(h:f ρ Ω=some (.ok [.int j],Ω'))(hs:EF j):xR f ρ Ω=some (.ok (sW 0 j.toNat),Ω'):=by
 unfold xR;rw [cE h];show mb (oX (EF j)) _ Ω'=_;rw [Rh _ hs];rfl
theorem pM{fi:Ev→Mo Src}{g:A→MS}{b:MS}{ρ:Ev}{Ω Ω':aF}{S:Src}(h:fi ρ Ω=some (.ok S,Ω')):kK fi g b ρ Ω=dS S.ok g b S.ds ρ Ω':=by
 unfold kK;rw [kU h]
theorem CO{n:Nat}:∀{as:List A},(∀a∈as,Cl n a)→fH n as
 | [],_=>by simp only [fH]
 | a::as,h=>by simp only [fH];exact⟨h a nP,CO fun b hb=>h b (jK _ hb)⟩
end V2
namespace M
open PySem L2 V2
abbrev Rn:=Int×Int
def lQ(r:Rn):A := .tup [.int r.1,.int r.2]
def bC(rs:List Rn):List A:=rs.map lQ
theorem clT(n:Nat)(r:Rn):Cl n (lQ r):=by simp [lQ,Cl,fH]
theorem Gr(n:Nat)(rs:List Rn):fH n (bC rs):=CO fun a h=>by
 obtain⟨r,_,rfl⟩:=mM.mp h;exact clT n r
def cU(rs:List Rn)(n:Int):Int:=(rs.map fun r=>if r.1<n then r.2 else 0).sum
def cG(rs:List Rn)(n:Int):Int:=(rs.map fun r=>if r.1≤n then r.2 else 0).sum
def iP(rs:List Rn)(n:Int):Int:=(rs.map fun r=>if r.1=n then r.2 else 0).sum
def whole(rs:List Rn):Int:=(rs.map (·.2)).sum
def iC(ks:List Int)(f:Int→Int):List (Key×A):=ks.map fun k=>(.inl k,.int (f k))
theorem Ls(ks:List Int)(f:Int→Int)(n:Int):pS (iC ks f) (.inl n)=if n∈ks then(aA (f n))else none:=by
 induction ks with
 | nil=>rfl
 | cons k ks ih =>
  simp only [pS,iC,dH,DA]at ih ⊢
  by_cases e:k=n
  ·subst e;simp
  ·have:(Sum.inl k:Key)≠Sum.inl n:=fun z=>e (Sum.inl.inj z);simp only [this,decide_false];rw [ih];have e':¬n=k:=fun z=>e z.symm;simp [e']
theorem awW(ks:List Int)(f:Int→Int)(n:Int):((iC ks f).any fun kv=>decide (kv.1=(Sum.inl n:Key)))=decide (n∈ks):=by
 induction ks with
 | nil=>rfl
 | cons k ks ih =>
  simp only [iC,dH,UP]at ih ⊢;rw [ih]
  by_cases e:k=n
  ·subst e;simp
  ·have h1:(Sum.inl k:Key)≠Sum.inl n:=fun z=>e (Sum.inl.inj z);have e':¬n=k:=fun z=>e z.symm;simp [h1,e']
def pO(ks:List Int)(n:Int):List Int:=if n∈ks then ks else ks++[n]
theorem ajI(ks:List Int)(f g:Int→Int)(n:Int)(hg:∀k∈ks,k≠n→g k=f k):rX (iC ks f) (.inl n) (.int (g n))=iC (pO ks n) g:=by
 unfold rX pO;rw [awW]
 by_cases h:n∈ks
 ·simp only [h,decide_true,fW];simp only [iC,uT];refine NG fun k hk=>?_
  by_cases e:k=n
  ·subst e;simp
  ·have h1:(Sum.inl k:Key)≠Sum.inl n:=fun z=>e (Sum.inl.inj z);simp [h1,hg k hk e]
 ·simp only [h,decide_false,jN];simp only [iC,HA,dH,GZ];rw [NG (g:=fun k=>((Sum.inl k:Key),A.int (g k))) fun k hk=>by rw [hg k hk (fun z=>h (z ▸ hk))]];simp
def oP(ks:List Int)(rs:List Rn):List Int:=rs.foldl (fun ks r=>pO ks r.1) ks
theorem aw1{ks:List Int}{n:Int}(h:ks.Nodup):(pO ks n).Nodup:=by
 unfold pO;split
 ·exact h
 ·rename_i hn;rw [UM];refine⟨h,by simp,fun a ha b hb e=>?_⟩;simp only [tT]at hb;exact hn (hb ▸ e ▸ ha)
theorem Rg{ks:List Int}{n k:Int}:k∈pO ks n↔k∈ks∨k=n:=by
 unfold pO;split
 ·rename_i h;exact⟨.inl,fun z=>z.elim id fun e=>e ▸ h⟩
 ·simp
theorem Rw(ks:List Int)(n:Int):(pO ks n).length≤ks.length+1:=by unfold pO;split <;> simp
theorem Sb:∀(rs:List Rn) {ks:List Int},ks.Nodup→(oP ks rs).Nodup
 | [],_,h=>h
 | r::rs,_,h=>Sb rs (aw1 h)
theorem Rf:∀(rs:List Rn) {ks:List Int} {k:Int},k∈oP ks rs↔k∈ks∨∃r∈rs,r.1=k
 | [],ks,k=>by simp [oP]
 | r::rs,ks,k=>by
  show k∈oP (pO ks r.1) rs↔_;rw [Rf rs,Rg];simp only [dN,exists_eq_or_imp];constructor
  ·rintro((h | h) | h)
   ·exact .inl h
   ·exact .inr (.inl h.symm)
   ·exact .inr (.inr h)
  ·rintro(h | h | h)
   ·exact .inl (.inl h)
   ·exact .inl (.inr h.symm)
   ·exact .inr h
theorem Az:∀(rs:List Rn) (ks:List Int),(oP ks rs).length≤ks.length+rs.length
 | [],ks=>by simp [oP]
 | r::rs,ks=>by
  have h1:=Az rs (pO ks r.1);have h2:=Rw ks r.1;show(oP (pO ks r.1) rs).length≤_;simp only [gO];omega
theorem rW(r:Rn)(rs:List Rn)(x:Int):cU (r::rs) x=(if r.1<x then r.2 else 0)+cU rs x∧cG (r::rs) x=(if r.1≤x then r.2 else 0)+cG rs x:=⟨rfl,rfl⟩
theorem EA(R S:List Rn)(x:Int):cU (R++S) x=cU R x+cU S x:=by simp [cU]
theorem xS(R S:List Rn)(x:Int):cG (R++S) x=cG R x+cG S x:=by simp [cG]
theorem VZ(R S:List Rn):whole (R++S)=whole R+whole S:=by simp [whole]
def Tn(R:List Rn):Prop:=∀r∈R,0≤r.2
theorem Tn.tail{r:Rn}{R:List Rn}(h:Tn (r::R)):Tn R:=fun q hq=>h q (jK _ hq)
theorem Tn.head{r:Rn}{R:List Rn}(h:Tn (r::R)):0≤r.2:=h r nP
theorem Tn.app{R S:List Rn}(h:Tn R)(k:Tn S):Tn (R++S):=fun q hq=>(oZ.mp hq).elim (h q) (k q)
theorem AB:∀{R:List Rn},Tn R→∀x,0≤cU R x
 | [],_,_=>by simp [cU]
 | r::R,h,x=>by
  rw [(rW r R x).1];have:=AB h.tail x;have:=h.head;split <;> omega
theorem DZ:∀{R:List Rn},Tn R→∀{x y:Int},x≤y→cU R x≤cU R y
 | [],_,_,_,_=>by simp [cU]
 | r::R,h,x,y,l=>by
  rw [(rW r R x).1,(rW r R y).1];have:=DZ h.tail l;have:=h.head;split <;> split <;> omega
theorem DX:∀{R:List Rn},Tn R→∀{x y:Int},x≤y→cG R x≤cG R y
 | [],_,_,_,_=>by simp [cG]
 | r::R,h,x,y,l=>by
  rw [(rW r R x).2,(rW r R y).2];have:=DX h.tail l;have:=h.head;split <;> split <;> omega
theorem zZ:∀{R:List Rn},Tn R→∀{x y:Int},x<y→cG R x≤cU R y
 | [],_,_,_,_=>by simp [cG,cU]
 | r::R,h,x,y,l=>by
  rw [(rW r R x).2,(rW r R y).1];have:=zZ h.tail l;have:=h.head;split <;> split <;> omega
theorem vN:∀{R:List Rn},Tn R→∀(x:Int),cU R x≤cG R x
 | [],_,_=>by simp [cG,cU]
 | r::R,h,x=>by
  rw [(rW r R x).2,(rW r R x).1];have:=vN h.tail x;have:=h.head;split <;> split <;> omega
theorem HX:∀{R:List Rn},Tn R→∀(x:Int),cG R x≤whole R
 | [],_,_=>by simp [cG,whole]
 | r::R,h,x=>by
  rw [(rW r R x).2];have e:whole (r::R)=r.2+whole R:=by simp [whole]
  have:=HX h.tail x;have:=h.head;rw [e];split <;> omega
def Pl(R:List Rn):Int→List E→Prop
 | _,[]=>True
 | z,e::r=>∃p,z<p∧cU R e.1<p∧p≤cG R e.1∧e.2.1≤p∧p≤e.2.2∧Pl R p r
theorem Pl.low{R:List Rn}{z z':Int}:∀{es:List E},Pl R z es→z'≤z→Pl R z' es
 | [],_,_=>trivial
 | _::_,⟨p,h,q⟩,l=>⟨p,by omega,q⟩
theorem Pl.sub{R:List Rn}:∀{es fs:List E} {z:Int},es.Sublist fs→Pl R z fs→Pl R z es
 | _,_,_,.slnil,_=>trivial
 | _,_,_,.cons a s,⟨p,h,q⟩=>Pl.sub s (q.2.2.2.2.low (by omega))
 | _,_,_,.cons_cons a s,⟨p,h,q1,q2,q3,q4,q5⟩=>⟨p,h,q1,q2,q3,q4,Pl.sub s q5⟩
theorem XS(l:Int):∀(xs:List E) (k:E),(oJ l k xs).Sublist xs
 | [],k=>by simp [oJ]
 | [x],k=>by simp [oJ]
 | x::y::r,k=>by
  rw [ED];split
  ·exact .cons _ (XS l (y::r) k)
  ·exact .cons_cons _ (XS l (y::r) x)
theorem XR(l:Int)(es:List E):(lZ l es).Sublist es:=by
 cases es with
 | nil=>simp [lZ]
 | cons x xs=>exact .cons_cons _ (XS l xs x)
theorem Pl.lZ{R:List Rn}{es:List E}(l:Int)(h:Pl R 0 es):Pl R 0 (M.lZ l es):=h.sub (XR l es)
def tS(es:List E):Prop:=es.Pairwise fun a b=>a.1≤b.1
theorem tS.tail{e:E}{es:List E}(h:tS (e::es)):tS es:=(wZ.mp h).2
theorem tS.next{e f:E}{es:List E}(h:tS (e::f::es)):e.1≤f.1:=(wZ.mp h).1 f nP
theorem akF{R S:List Rn}(hR:Tn R)(hS:Tn S){s t:Int}(hs:s=whole R)(ht:t=whole S):∀(n:Nat) (es fs:List E) (lo1 eP z1 z2 Z:Int),n=es.length+fs.length→tS es→tS fs→Pl R z1 es→Pl S z2 fs→lo1≤z1→eP≤z2 →
  (∀f r,fs=f::r→z1≤cG R f.1)→(∀e r,es=e::r→z2≤cU S e.1) →
  (∀e r,es=e::r→∀p,z1<p→cU R e.1<p→Z<p+cU S e.1)→(∀f r,fs=f::r→∀q,z2<q→cU S f.1<q→Z<q+cG R f.1) →
  Pl (R++S) Z (iX s t n lo1 eP es fs):=by
 intro n
 induction n with
 | zero=>intro es fs lo1 eP z1 z2 Z _ _ _ _ _ _ _ _ _ _ _;exact trivial
 | succ n ih =>
  intro es fs lo1 eP z1 z2 Z hn n1 n2 h1 h2 L1 L2 H1 H2 ZA ZB;have IE:∀e oV,es=e::oV→(∀f r,fs=f::r→e.1≤f.1)→∀hi,(∀x,x≤e.1→cU S x≤hi)→Pl (R++S) Z ((e.1,e.2.1+eP,e.2.2+hi)::iX s t n e.2.1 eP oV fs):=by
   rintro e oV rfl hf hi Dk;obtain⟨p,a1,a2,a3,a4,a5,a6⟩:=h1;have b2:=H2 e _ rfl;have bz:=ZA e _ rfl p a1 a2;have bh:=Dk e.1 wH;refine⟨p+cU S e.1,bz,?_,?_,?_,?_,?_⟩
   ·rw [EA];show cU R e.1+cU S e.1<_;omega
   ·rw [xS];show _≤cG R e.1+cG S e.1;have:=vN hS e.1;omega
   ·show e.2.1+eP≤_;omega
   ·show _≤e.2.2+hi;omega
   ·refine ih oV fs e.2.1 eP p z2 (p+cU S e.1) (by simp at hn;omega) n1.tail n2 a6 h2 a4 L2 ?_ ?_ ?_ ?_
    ·intro f r he;have:=DX hR (hf f r he);omega
    ·rintro e' r rfl;have:=DZ hS n1.next;omega
    ·rintro e' r rfl p' c1 c2;have:=DZ hS n1.next;omega
    ·intro f r he q c1 c2;have:=DX hR (hf f r he);have:=DZ hS (hf f r he);omega
  have Ng:∀f iB,fs=f::iB→(∀e r,es=e::r→f.1<e.1)→∀hi,(cG R f.1≤hi)→Pl (R++S) Z ((f.1,f.2.1+lo1,f.2.2+hi)::iX s t n lo1 f.2.1 es iB):=by
   rintro f iB rfl he hi Dk;obtain⟨q,a1,a2,a3,a4,a5,a6⟩:=h2;have b1:=H1 f _ rfl;have bz:=ZB f _ rfl q a1 a2;refine⟨q+cG R f.1,bz,?_,?_,?_,?_,?_⟩
   ·rw [EA];show cU R f.1+cU S f.1<_;have:=vN hR f.1;omega
   ·rw [xS];show _≤cG R f.1+cG S f.1;omega
   ·show f.2.1+lo1≤_;omega
   ·show _≤f.2.2+hi;omega
   ·refine ih es iB lo1 f.2.1 z1 q (q+cG R f.1) (by simp at hn;omega) n1 n2.tail h1 a6 L1 a4 ?_ ?_ ?_ ?_
    ·rintro f' r rfl;have:=DX hR n2.next;omega
    ·intro e r hq;have:=zZ hS (he e r hq);omega
    ·intro e r hq p c1 c2;have:=zZ hS (he e r hq);have:=zZ hR (he e r hq);omega
    ·rintro f' r rfl q' c1 c2;have:=DX hR n2.next;omega
  cases es with
  | nil =>
   cases fs with
   | nil=>simp at hn
   | cons f fs =>
    simp only [iX];exact Ng f fs rfl (fun e r h=>by cases h) s (by rw [hs];exact HX hR _)
  | cons e es =>
   cases fs with
   | nil =>
    simp only [iX];exact IE e es rfl (fun f r h=>by cases h) t (fun x _=>by rw [ht];exact DE (vN hS x) (HX hS x))
   | cons f fs =>
    simp only [iX]
    by_cases hle:e.1≤f.1
    ·rw [if_pos hle];refine IE e es rfl (fun f' r h=>by cases h;exact hle) (f.2.2 - 1) fun x hx=>?_;obtain⟨q,a1,a2,a3,a4,a5,a6⟩:=h2;have:=DZ hS (DE hx hle);omega
    ·rw [if_neg hle];refine Ng f fs rfl (fun e' r h=>by cases h;omega) (e.2.2 - 1) ?_;obtain⟨p,a1,a2,a3,a4,a5,a6⟩:=h1;have:=zZ hR (show f.1<e.1 by omega);omega
theorem Pl.AW{R S:List Rn}(hR:Tn R)(hS:Tn S){es fs:List E}(n1:tS es)(n2:tS fs)(h1:Pl R 0 es)(h2:Pl S 0 fs):Pl (R++S) 0 (AW (whole R) (whole S) es fs):=by
 refine akF hR hS rfl rfl _ es fs 0 0 0 0 0 rfl n1 n2 h1 h2 wH wH ?_ ?_ ?_ ?_
 ·intro f r _;exact DE (AB hR f.1) (vN hR f.1)
 ·intro e r _;exact AB hS e.1
 ·intro e r _ p a b;have:=AB hS e.1;omega
 ·intro f r _ q a b;have:=AB hR f.1;have:=vN hR f.1;omega
theorem Xf{l s:Int}:∀{es:List E} {lo hp:Int} {pr:Option Int},Ch l s lo hp pr es→tS es∧∀p,pr=some p→∀e∈es,p≤e.1
 | [],_,_,_,_=>⟨.nil,fun _ _ _ h=>by cases h⟩
 | e::r,lo,hp,pr,h=>by
  obtain⟨h1,_,_,_,_,_,h7⟩:=h;obtain⟨a,b⟩:=Xf h7;refine⟨wZ.mpr ⟨fun f hf=>b e.1 rfl f hf,a⟩,fun p hp f hf=>?_⟩
  rcases dN.mp hf with z | z
  ·rw [z];exact h1 p hp
  ·exact DE (h1 p hp) (b e.1 rfl f z)
theorem GF.Qr{s l d:Int}{es:List E}(h:GF s l d es):tS es:=(Xf h.ch).1
structure Gd(R:List Rn)(p:Po):Prop where
 tn:Tn R
 gf:GF p.s p.l p.d p.es
 sz:p.s=whole R
 pl:Pl R 0 p.es
theorem Gd.merge{R S:List Rn}{p q:Po}(h:Gd R p)(k:Gd S q):Gd (R++S) (vZ p q):=by
 refine⟨h.tn.app k.tn,asY h.gf k.gf,by show p.s+q.s=_;rw [VZ,h.sz,k.sz],?_⟩;show Pl (R++S) 0 (M.AW p.s q.s p.es q.es);rw [h.sz,k.sz];exact Pl.AW h.tn k.tn h.gf.Qr k.gf.Qr h.pl k.pl
theorem Gd.lZ{R:List Rn}{p:Po}(h:Gd R p)(keep:Int)(hk:1≤keep):Gd R (Mn keep p):=by
 have hd:0≤p.s/keep:=UY h.gf.s0 (by omega);exact⟨h.tn,asW h.gf (show p.l≤p.l+p.s/keep by omega),h.sz,Pl.lZ _ h.pl⟩
theorem Gd.run(n t:Int)(h:1≤t):Gd [(n,t)] ⟨t,0,0,vR n t⟩:=by
 have u1:cU [(n,t)] n=0:=by simp [cU]
 have u2:cG [(n,t)] n=t:=by simp [cG]
 refine⟨fun r hr=>by simp at hr;rw [hr];show 0≤t;omega,asX n t h,by simp [whole],?_⟩;show Pl [(n,t)] 0 (vR n t);unfold vR;split
 ·exact⟨1,by omega,(by show cU [(n,t)] n<1;omega),(by show 1≤cG [(n,t)] n;omega),jR _,jR _,trivial⟩
 ·exact⟨1,by omega,(by show cU [(n,t)] n<1;omega),(by show 1≤cG [(n,t)] n;omega),jR _,jR _,t,by omega,(by show cU [(n,t)] n<t;omega),(by show t≤cG [(n,t)] n;omega),jR _,jR _,trivial⟩
theorem alV(ok:aF→Prop)(aH:∀Ω,ok Ω)(L:A)(Ω:aF):∀(rs:List Rn) (ks:List Int) (f:Int→Int) (x y:Option A),ks.length+rs.length≤1000→(∀n,n∉ks→f n=0) →
  ∃x' y',dS ok (kN 2 (eR (gN 2) (eR (gN 3) lC))) SJ (bC rs) [some L,aE Ω.length,x,y] (Ω++[.cW (iC ks f)])
   = dR [some L,aE Ω.length,x',y'] (Ω++[.cW (iC (oP ks rs) fun k=>f k+iP rs k)]):=by
 intro rs
 induction rs with
 | nil =>
  intro ks f x y _ _;refine⟨x,y,?_⟩;have e:(fun k=>f k+iP [] k)=f:=by funext k;simp [iP]
  simp only [bC,GZ,RQ (aH _),oP,List.foldl_nil,e]
 | cons r rs ih =>
  intro ks f x y hl hf;simp only [gO]at hl;have hla:=Rw ks r.1
  let g:Int→Int:=fun k=>if k=r.1 then f r.1+r.2 else f k
  obtain⟨x',y',q⟩:=ih (pO ks r.1) g (aA r.1) (aA r.2) (by omega) (fun n hn=>by
   rw [Rg]at hn;have h1:n∉ks:=fun z=>hn (.inl z);have h2:¬n=r.1:=fun z=>hn (.inr z);simp only [g,h2,jN,hf n h1])
  refine⟨x',y',?_⟩;have hc:oY (Ω++[.cW (iC ks f)]) (.aD Ω.length)=some (Ω.length,iC ks f):=Gy (by simp);have hd:Sk (Ω++[.cW (iC ks f)]) (.aD Ω.length):=⟨_,_,hc⟩;have hv:(pS (iC ks f) (.inl r.1)).getD (.int 0) = .int (f r.1):=by
   rw [Ls]
   by_cases h:r.1∈ks
   ·simp [h]
   ·simp [h,hf _ h]
  have hp:rX (iC ks f) (.inl r.1) (.int (f r.1+r.2))=iC (pO ks r.1) g:=by
   have:=ajI ks f g r.1 fun k _ hk=>by simp [g,hk]
   simpa [g]using this
  have hz:(iC ks f).length<sizeLine:=by rw [mG];simp [iC];omega
  have st:SJ [some L,aE Ω.length,aA r.1,aA r.2] (Ω++[.cW (iC ks f)])=dR [some L,aE Ω.length,aA r.1,aA r.2] (Ω++[.cW (iC (pO ks r.1) g)]):=by
   simp [SJ,hd,hc,uF,hv,hz,hp]
  show dS ok _ _ (lQ r::bC rs) _ _=_;rw [lE (aH _) (ρ0:=[some L,aE Ω.length,aA r.1,aA r.2]) (Ω0:=Ω++[.cW (iC ks f)]) (by simp [lQ]) st,q];have e:(fun k=>g k+iP rs k)=fun k=>f k+iP (r::rs) k:=by
   funext k;simp only [g,iP,dH,rD]
   by_cases h:k=r.1
   ·subst h;simp;omega
   ·have h':¬r.1=k:=fun z=>h z.symm;simp [h,h']
  rw [e];rfl
def cO(rs:List Rn):List Rn:=(sortI (oP [] rs)).map fun k=>(k,iP rs k)
theorem apS(ks:List Int)(f:Int→Int):intKeys (iC ks f)=some ks:=by
 induction ks with
 | nil=>rfl
 | cons k ks ih =>
  simp only [iC,dH,intKeys]at ih ⊢;rw [ih];rfl
theorem Zm(rs:List Rn)(hl:rs.length≤63)(Ω:aF):HG [.lst (bC rs)] Ω=aM (.lst (bC (cO rs))) Ω:=by
 obtain⟨x',y',q⟩:=alV (fun Ω'=>dO Ω' (.lst (bC rs))=some (bC rs)) (fun _=>rfl) (.lst (bC rs)) Ω rs [] (fun _=>0) none none (by simp;omega) (fun _ _=>rfl);simp only [UW]at q;have pW:=Az rs [];simp only [xC,wY]at pW;generalize pJ:oP [] rs=ks at q pW;have hc:∀Δ,oY (Ω ++ .cW (iC ks fun k=>iP rs k)::Δ) (.aD Ω.length)=some (Ω.length,iC ks fun k=>iP rs k):=fun Δ=>Gy (by simp);have nR:=hc [];have sl:=Nl ks;have kM:ks.length<64:=by omega
 have hsz:ks.length≤sizeLine:=by rw [mG];omega
 have comp:Yd [aT (bC rs),aE Ω.length,x',y'] (Ω++[.cW (iC ks fun k=>iP rs k)])=aM (.lst (bC (cO rs))) (Ω++[.cW (iC ks fun k=>iP rs k)]):=by
  have eF:((sortI ks).map A.int).filterMap (fun a=>match a with | .int k=>some (lQ (k,iP rs k)) | _=>none)=bC (cO rs):=by
   simp only [List.filterMap_map,bC,cO,pJ,uT];rw [← List.filterMap_eq_map];rfl
  rw [← eF];refine WS (S:=srcOf (.lst ((sortI ks).map A.int)) ((sortI ks).map A.int)) _ (fun ρ=>∃v,ρ=[v,aE Ω.length]) (by simp [nR,apS,kM,sl]) (fun _=>rfl) ⟨none,rfl⟩ (by simp [sl];omega) ?_ (by
   show fH _ (List.filterMap _ ((sortI ks).map A.int));rw [eF];exact Gr _ _)
  rintro x hx ρ ⟨v,rfl⟩ ys;obtain⟨k,hk,rfl⟩:=mM.mp hx;have Di:k∈ks:=(sortI_perm ks).mem_iff.mp hk;have h2:(2:Nat)≤sizeLine:=by decide
  have hv:pS (iC ks fun k=>iP rs k) (.inl k)=(aA (iP rs k)):=by rw [Ls,if_pos Di]
  refine⟨[aA k,aE Ω.length],⟨_,rfl⟩,by simp,.inl ⟨_,rfl,rfl,?_⟩⟩;have yN:=hc [.lst ys];simp [yN,uF,hv,h2,lQ]
 show trim Ω (gC (SK [aT (bC rs),none,none,none] Ω))=_;have e:SK [aT (bC rs),none,none,none] Ω=some (.ret (.lst (bC (cO rs))),[aT (bC rs),aE Ω.length,x',y'],Ω++[.cW (iC ks fun k=>iP rs k)]):=by
  unfold SK;rw [bM (ρ1:=[aT (bC rs),aE Ω.length,none,none]) (Ω':=Ω++[.cW []]) (by simp)];rw [bM (ρ1:=[aT (bC rs),aE Ω.length,x',y']) (Ω':=Ω++[.cW (iC ks fun k=>iP rs k)]) (by rw [pM (S:=srcOf (.lst (bC rs)) (bC rs)) (Ω':=Ω++[.cW []]) (by simp)];exact q)];simp [comp]
 rw [e];simp only [gC];exact AD (by simp only [Cl];exact Gr _ _)
def na:List Rn→Int→Int→Option Int
 | [],_,_=>none
 | r::rs,acc,p=>if p≤acc+r.2 then some r.1 else na rs (acc+r.2) p
theorem anI(ok:aF→Prop)(aH:∀Ω,ok Ω)(L:A)(p:Int)(Ω:aF):∀(rs:List Rn) (acc:Int) (x y:Option A),∃ρ,dS ok (kN 2 (eR (gN 3) (eR (gN 4) lC))) GO (bC rs) [some L,aA p,aA acc,x,y] Ω
  = match na rs acc p with | some n=>some (.ret (.int n),ρ,Ω) | none=>some (.nx,ρ,Ω):=by
 intro rs
 induction rs with
 | nil=>intro acc x y;exact⟨_,RQ (aH Ω)⟩
 | cons r rs ih =>
  intro acc x y
  by_cases h:p≤acc+r.2
  ·refine⟨[some L,aA p,aA (acc+r.2),aA r.1,aA r.2],?_⟩;simp only [na,h,fW];exact atP (aH Ω) (ρ0:=[some L,aA p,aA acc,aA r.1,aA r.2]) (Ω0:=Ω) (by simp [lQ]) (by simp [GO,h])
  ·obtain⟨ρ,q⟩:=ih (acc+r.2) (aA r.1) (aA r.2);refine⟨ρ,?_⟩;simp only [na,h,jN];rw [← q];exact lE (aH Ω) (ρ0:=[some L,aA p,aA acc,aA r.1,aA r.2]) (Ω0:=Ω) (by simp [lQ]) (by simp [GO,h])
theorem axM(rs:List Rn)(hl:rs.length≤63)(p:Int)(Ω:aF):Ka [.lst (bC rs),.int p] Ω=if p<1 then some (.exc ⟨"NoPlace",[]⟩,Ω)else match na (cO rs) 0 p with | some n=>some (.ok (.int n),Ω) | none=>some (.exc ⟨"NoPlace",[]⟩,Ω):=by
 have h1:(1:Nat)≤sizeLine:=by decide
 show trim Ω (gC (GP [aT (bC rs),aA p,none,none,none] Ω))=_
 by_cases h:p<1
 ·rw [if_pos h];have e:GP [aT (bC rs),aA p,none,none,none] Ω=some (.exc ⟨"NoPlace",[]⟩,[aT (bC rs),aA p,none,none,none],Ω):=by
   unfold GP;simp [h,h1]
  rw [e];simp [trim]
 ·rw [if_neg h];obtain⟨ρ,q⟩:=anI (fun Ω'=>dO Ω' (.lst (bC (cO rs)))=some (bC (cO rs))) (fun _=>rfl) (.lst (bC rs)) p Ω (cO rs) 0 none none;have pk:=Zm rs hl Ω;have s1:∀f g:MS,aV f g [aT (bC rs),aA p,none,none,none] Ω=aV f g [aT (bC rs),aA p,none,none,none] Ω:=fun _ _=>rfl;have e0:GP [aT (bC rs),aA p,none,none,none] Ω=aV (kK (fV (aN (bN 1 HG) (aC aL a0))) (kN 2 (eR (gN 3) (eR (gN 4) lC))) GO) (vQ "NoPlace" (aC (cS "the row ends before this place") a0)) [aT (bC rs),aA p,aA 0,none,none] Ω:=by
   unfold GP;rw [bM (ρ1:=[aT (bC rs),aA p,none,none,none]) (Ω':=Ω) (by simp [h])];rw [bM (ρ1:=[aT (bC rs),aA p,aA 0,none,none]) (Ω':=Ω) (by simp)]
  have e1:kK (fV (aN (bN 1 HG) (aC aL a0))) (kN 2 (eR (gN 3) (eR (gN 4) lC))) GO [aT (bC rs),aA p,aA 0,none,none] Ω=match na (cO rs) 0 p with | some n=>some (.ret (.int n),ρ,Ω) | none=>some (.nx,ρ,Ω):=by
   rw [pM (S:=srcOf (.lst (bC (cO rs))) (bC (cO rs))) (Ω':=Ω) (by simp [bN,pk])];exact q
  rw [e0];cases hn:na (cO rs) 0 p with
  | some n =>
   rw [hn]at e1;rw [aiD e1];simp
  | none =>
   rw [hn]at e1;rw [bM e1];simp [h1,trim]
def cM(ps:List Rn):Int:=(ps.map (·.2)).sum
theorem Qu:∀(ps:List Rn) (acc p:Int),acc<p→(na ps acc p=none∧acc+cM ps<p)∨∃pre n c xU,ps=pre++(n,c)::xU∧na ps acc p=some n∧acc+cM pre<p∧p≤acc+cM pre+c
 | [],acc,p,h => .inl ⟨rfl,by simpa [cM]using h⟩
 | (n,c)::ps,acc,p,h=>by
  by_cases hc:p≤acc+c
  ·exact .inr ⟨[],n,c,ps,rfl,by simp [na,hc],by simpa [cM]using h,by simpa [cM]using hc⟩
  ·rcases Qu ps (acc+c) p (by omega)with⟨q1,q2⟩ | ⟨pre,m,d,xU,e,q1,q2,q3⟩
   ·refine .inl ⟨by simp [na,hc,q1],?_⟩;simp only [cM,dH,rD]at q2 ⊢;omega
   ·refine .inr ⟨(n,c)::pre,m,d,xU,by rw [e];rfl,by simp [na,hc,q1],?_,?_⟩ <;> simp only [cM,dH,rD]at q2 q3 ⊢ <;> omega
theorem Sm(m t:Int):∀{ks:List Int},ks.Nodup→(ks.map fun k=>if m=k then t else 0).sum=if m∈ks then t else 0
 | [],_=>by simp
 | k::ks,h=>by
  obtain⟨h1,h2⟩:=zI.mp h;simp only [dH,rD,Sm m t h2]
  by_cases e:m=k
  ·subst e;simp [h1]
  ·simp [e]
theorem Nb(f g:Int→Int):∀ks:List Int,(ks.map fun k=>f k+g k).sum=(ks.map f).sum+(ks.map g).sum
 | []=>by simp
 | k::ks=>by simp only [dH,rD,Nb f g ks];omega
theorem ab6(r:Rn)(rs:List Rn)(k:Int):iP (r::rs) k=(if r.1=k then r.2 else 0)+iP rs k:=by simp [iP]
theorem Kw:∀ks:List Int,(ks.map fun _=>(0:Int)).sum=0
 | []=>rfl
 | _::ks=>by simp only [dH,rD,Kw ks];rfl
theorem OO(P:Int→Prop) [DecidablePred P]{ps:List Int}(hn:ps.Nodup):∀(rs:List Rn),(∀r∈rs,(r.1∈ps↔P r.1))→(ps.map (iP rs)).sum=(rs.map fun r=>if P r.1 then r.2 else 0).sum
 | [],_=>by
  have:iP []=fun _=>(0:Int):=by funext k;simp [iP]
  rw [this,Kw];rfl
 | r::rs,h=>by
  have e:(ps.map (iP (r::rs)))=ps.map fun k=>(if r.1=k then r.2 else 0)+iP rs k:=NG fun k _=>ab6 r rs k;rw [e,Nb,Sm _ _ hn,OO P hn rs fun q hq=>h q (jK _ hq)];have:=h r nP;simp only [dH,rD]
  by_cases hm:r.1∈ps
  ·rw [if_pos hm,if_pos (this.mp hm)]
  ·rw [if_neg hm,if_neg fun z=>hm (this.mpr z)]
theorem QQ(rs:List Rn):(sortI (oP [] rs)).Pairwise (· < ·):=by
 have h1:=Nk (oP [] rs);have h2:(sortI (oP [] rs)).Nodup:=(sortI_perm _).nodup_iff.mpr (Sb rs List.nodup_nil);exact(List.Pairwise.and h1 h2).imp fun⟨a,b⟩=>by omega
theorem mem_keys(rs:List Rn)(k:Int):k∈sortI (oP [] rs)↔∃r∈rs,r.1=k:=by
 rw [(sortI_perm _).mem_iff,Rf];simp
theorem YC(rs:List Rn)(ks:List Int):cM (ks.map fun k=>(k,iP rs k))=(ks.map (iP rs)).sum:=by
 simp [cM,uT];rfl
theorem NZ(rs:List Rn):cM (cO rs)=whole rs:=by
 unfold cO;rw [YC,OO (fun _=>True) ((QQ rs).imp fun z=>Int.ne_of_lt z) rs fun r hr=>⟨fun _=>trivial,fun _=>(mem_keys rs _).mpr ⟨r,hr,rfl⟩⟩];simp [whole]
theorem Mg(rs:List Rn)(n':Int):cG rs n'=cU rs n'+iP rs n':=by
 induction rs with
 | nil=>rfl
 | cons r rs ih =>
  simp only [cG,cU,iP,dH,rD]at ih ⊢;rw [ih]
  by_cases a:r.1<n'
  ·have b:r.1≤n':=by omega
   have c:¬r.1=n':=by omega
   simp only [a,b,c,fW,jN];omega
  ·by_cases c:r.1=n'
   ·have b:r.1≤n':=by omega
    simp only [a,b,c,fW,jN];simp;omega
   ·have b:¬r.1≤n':=by omega
    simp only [a,b,c,jN];omega
theorem anJ(rs:List Rn)(p:Int)(h1:1≤p)(h2:p≤whole rs):∃n,na (cO rs) 0 p=some n∧cU rs n<p∧p≤cG rs n∧n∈rs.map (·.1):=by
 rcases Qu (cO rs) 0 p (by omega)with⟨_,q⟩ | ⟨pre,n,c,xU,e,q1,q2,q3⟩
 ·rw [NZ]at q;omega
 ·refine⟨n,q1,?_⟩;have hk:=QQ rs;have e':=e;unfold cO at e';obtain⟨ps,qs,LX,e1,e2⟩:=List.map_eq_append_iff.mp e';obtain⟨n',ZU,rfl,e3,_⟩:=List.map_eq_cons_iff.mp e2;simp only [MX]at e3;obtain⟨rfl,rfl⟩:=e3;rw [LX]at hk;have KA:∀k,k∈ps++n'::ZU↔∃r∈rs,r.1=k:=fun k=>by rw [← LX];exact mem_keys rs k
  obtain⟨p1,p2,p3⟩:=List.pairwise_append.mp hk;obtain⟨p4,p5⟩:=wZ.mp p2;have nd:ps.Nodup:=p1.imp fun z=>Int.ne_of_lt z;have hu:cM pre=cU rs n':=by
   rw [← e1,YC];refine OO (fun k=>k<n') nd rs fun r hr=>⟨fun z=>p3 _ z _ nP,fun z=>?_⟩
   rcases oZ.mp ((KA r.1).mpr ⟨r,hr,rfl⟩)with y | y
   ·exact y
   ·rcases dN.mp y with y | y
    ·omega
    ·have:=p4 _ y;omega
  have ht:=Mg rs n';rw [hu]at q2 q3;refine⟨by omega,by omega,?_⟩;obtain⟨r,hr,e⟩:=(KA n').mp (mO _ nP);exact mM.mpr ⟨r,hr,e⟩
def hZ:Int→List Rn→List (Key×A)
 | _,[]=>[]
 | acc,r::rs=>(.inl r.1,.tup [.int (acc+1),.int (acc+r.2)])::hZ (acc+r.2) rs
theorem YD(a b:List Rn):cM (a++b)=cM a+cM b:=by simp [cM]
theorem Pp:∀(as bs:List Rn) (acc:Int),hZ acc (as++bs)=hZ acc as++hZ (acc+cM as) bs
 | [],bs,acc=>by simp [hZ,cM]
 | a::as,bs,acc=>by
  have e:cM (a::as)=a.2+cM as:=by simp [cM]
  simp only [Jm,hZ];rw [Pp as bs,e,Int.add_assoc]
theorem ZW:∀(as:List Rn) (acc:Int),(hZ acc as).map (·.1)=as.map fun r=>(Sum.inl r.1:Key)
 | [],_=>rfl
 | a::as,acc=>by simp only [hZ,dH];rw [ZW as]
theorem akG(as:List Rn)(acc:Int):(hZ acc as).length=as.length:=by
 have:=congrArg List.length (ZW as acc);simpa using this
theorem ajF{kvs:List (Key×A)}{k:Key}{a:A}(h:k∉kvs.map (·.1)):rX kvs k a=kvs++[(k,a)]:=by
 unfold rX;rw [if_neg];intro hc;rw [List.any_eq_true]at hc;obtain⟨x,hx,e⟩:=hc;exact h (mM.mpr ⟨x,hx,by simpa using e⟩)
theorem Pj(ok:aF→Prop)(aH:∀Ω,ok Ω)(L:A)(Ω:aF):∀(rest pre:List Rn) (x y:Option A),((pre++rest).map (·.1)).Pairwise (· < ·)→pre.length+rest.length≤1000 →
  ∃x' y',dS ok (kN 2 (eR (gN 3) (eR (gN 4) lC))) Hk (bC rest) [some L,aE Ω.length,aA (cM pre),x,y] (Ω++[.cW (hZ 0 pre)])
   = dR [some L,aE Ω.length,aA (cM (pre++rest)),x',y'] (Ω++[.cW (hZ 0 (pre++rest))])
 | [],pre,x,y,_,_=>⟨x,y,by simp [bC,dS,aH]⟩
 | r::rest,pre,x,y,hp,hl=>by
  have e0:pre++r::rest=(pre++[r])++rest:=by simp
  have aqP:(Sum.inl r.1:Key)∉(hZ 0 pre).map (·.1):=by
   rw [ZW];intro hc;obtain⟨q,hq,e⟩:=mM.mp hc;rw [HA,List.pairwise_append]at hp;have:=hp.2.2 q.1 (Jk hq) r.1 (by simp);have e':q.1=r.1:=by injection e
   omega
  have aqI:rX (hZ 0 pre) (.inl r.1) (.tup [.int (cM pre+1),.int (cM pre+r.2)])=hZ 0 (pre++[r]):=by
   rw [ajF aqP,Pp];simp [hZ]
  obtain⟨x',y',q⟩:=Pj ok aH L Ω rest (pre++[r]) (aA r.1) (aA r.2) (by rw [← e0];exact hp) (by simp at hl ⊢;omega);refine⟨x',y',?_⟩;rw [e0,← q];have hc:oY (Ω++[.cW (hZ 0 pre)]) (.aD Ω.length)=some (Ω.length,hZ 0 pre):=Gy (by simp);have hz:(hZ 0 pre).length<sizeLine:=by rw [akG,mG];simp only [gO]at hl;omega
  have h2:(2:Nat)≤sizeLine:=by decide
  have es:cM (pre++[r])=cM pre+r.2:=by rw [YD];simp [cM]
  have e:bC (r::rest)=lQ r::bC rest:=rfl;rw [e,es];exact lE (aH _) (ρ0:=[some L,aE Ω.length,aA (cM pre),aA r.1,aA r.2]) (Ω0:=Ω++[.cW (hZ 0 pre)]) (by simp [lQ]) (by simp [Hk,hc,uF,hz,aqI,h2])
theorem Pq(rs:List Rn):((cO rs).map (·.1)).Pairwise (· < ·):=by
 have e:(cO rs).map (·.1)=sortI (oP [] rs):=by unfold cO;rw [List.map_map];exact List.map_id _
 rw [e];exact QQ rs
theorem Pr(rs:List Rn):(cO rs).length≤rs.length:=by
 have pW:=Az rs [];unfold cO;rw [kQ,Nl];simpa using pW
theorem axI(rs:List Rn)(hl:rs.length≤63)(Ω:aF):NO [.lst (bC rs)] Ω=aM (.aD Ω.length) (Ω++[.cW (hZ 0 (cO rs))]):=by
 have hp:=fun Ω=>Zm rs hl Ω;have pW:=Pr rs;obtain⟨x',y',q⟩:=Pj (fun Ω'=>dO Ω' (.lst (bC (cO rs)))=some (bC (cO rs))) (fun _=>rfl) (.lst (bC rs)) Ω (cO rs) [] none none (by simpa using Pq rs) (by simp;omega);simp only [xA]at q;have s0:cM []=0:=rfl;rw [s0]at q;have p0:hZ 0 []=[]:=rfl;rw [p0]at q;show trim Ω (gC (SI [aT (bC rs),none,none,none,none] Ω))=_;have e:SI [aT (bC rs),none,none,none,none] Ω=some (.ret (.aD Ω.length),[aT (bC rs),aE Ω.length,aA (cM (cO rs)),x',y'],Ω++[.cW (hZ 0 (cO rs))]):=by
  unfold SI;rw [bM (ρ1:=[aT (bC rs),aE Ω.length,none,none,none]) (Ω':=Ω++[.cW []]) (by simp)];rw [bM (ρ1:=[aT (bC rs),aE Ω.length,aA 0,none,none]) (Ω':=Ω++[.cW []]) (by simp)];rw [bM (ρ1:=[aT (bC rs),aE Ω.length,aA (cM (cO rs)),x',y']) (Ω':=Ω++[.cW (hZ 0 (cO rs))]) (by
   rw [pM (S:=srcOf (.lst (bC (cO rs))) (bC (cO rs))) (Ω':=Ω++[.cW []]) (by simp [bN,hp])];exact q)]
  simp
 rw [e];simp [trim,Cl]
theorem Rj(ok:aF→Prop)(aH:∀Ω,ok Ω)(L:A)(Ω:aF):∀(rs:List Rn) (acc:Int) (i:Nat) (x y u:Option A),(∀r∈rs,1≤r.2)→acc+whole rs≤1000000000 →
  ∃x' y' u',dS ok (kN 2 (eR (gN 2) (eR (gN 3) lC))) Hn (kP i (bC rs)) [some L,aA acc,x,y,u] Ω=dR [some L,aA (acc+whole rs),x',y',u'] Ω
 | [],acc,i,x,y,u,_,_=>⟨x,y,u,by simp [bC,kP,dS,aH,whole]⟩
 | r::rs,acc,i,x,y,u,h,hl=>by
  have e:whole (r::rs)=r.2+whole rs:=by simp [whole]
  rw [e]at hl ⊢;have hr:=h r nP;have hnn:0≤whole rs:=by
   have:∀rs:List Rn,(∀r∈rs,1≤r.2)→0≤whole rs:=by
    intro rs
    induction rs with
    | nil=>intro _;simp [whole]
    | cons a as ih =>
     intro h;have e:whole (a::as)=a.2+whole as:=by simp [whole]
     have:=h a nP;have:=ih fun q hq=>h q (jK _ hq);omega
   exact this rs fun q hq=>h q (jK _ hq)
  obtain⟨x',y',u',q⟩:=Rj ok aH L Ω rs (acc+r.2) (i+1) (aA i) (some (lQ r)) (aA r.2) (fun q hq=>h q (jK _ hq)) (by omega);refine⟨x',y',u',?_⟩;rw [← Int.add_assoc,← q];have n1:¬r.2<1:=by omega
  have n2:¬1000000000<acc+r.2:=by omega
  exact lE (aH Ω) (ρ0:=[some L,aA acc,aA i,some (lQ r),u]) (Ω0:=Ω) (by simp [lQ]) (by simp [Hn,lQ,n1,n2])
theorem axQ(rs:List Rn)(h:∀r∈rs,1≤r.2)(hl:whole rs≤1000000000)(Ω:aF):VJ [.lst (bC rs)] Ω=aM (.int (whole rs)) Ω:=by
 obtain⟨x',y',u',q⟩:=Rj (fun Ω'=>cK Ω' (.lst (bC rs))=some (bC rs)) (fun _=>rfl) (.lst (bC rs)) Ω rs 0 0 none none none h (by omega);rw [UW]at q;show trim Ω (gC (Ho [aT (bC rs),none,none,none,none] Ω))=_;unfold Ho;rw [bM (ρ1:=[aT (bC rs),aA 0,none,none,none]) (Ω':=Ω) (by simp)];rw [bM (ρ1:=[aT (bC rs),aA (whole rs),x',y',u']) (Ω':=Ω) (by
  rw [pM (S:=enumSrc (.lst (bC rs)) (bC rs)) (Ω':=Ω) (by simp)];exact q)]
 simp
theorem ZX{R as bs:List Rn}{r:Rn}(e:cO R=as++r::bs):cM as=cU R r.1∧cM as+r.2=cG R r.1∧r.1∈R.map (·.1):=by
 have hk:=QQ R;have e':=e;unfold cO at e';obtain⟨ps,qs,LX,e1,e2⟩:=List.map_eq_append_iff.mp e';obtain⟨n',ZU,rfl,e3,_⟩:=List.map_eq_cons_iff.mp e2;subst e3;rw [LX]at hk;have KA:∀k,k∈ps++n'::ZU↔∃r∈R,r.1=k:=fun k=>by rw [← LX];exact mem_keys R k
 obtain⟨p1,p2,p3⟩:=List.pairwise_append.mp hk;obtain⟨p4,p5⟩:=wZ.mp p2;have nd:ps.Nodup:=p1.imp fun z=>Int.ne_of_lt z;have hu:cM as=cU R n':=by
  rw [← e1,YC];refine OO (fun k=>k<n') nd R fun r hr=>⟨fun z=>p3 _ z _ nP,fun z=>?_⟩
  rcases oZ.mp ((KA r.1).mpr ⟨r,hr,rfl⟩)with y | y
  ·exact y
  ·rcases dN.mp y with y | y
   ·omega
   ·have:=p4 _ y;omega
 have ht:=Mg R n';refine⟨hu,by rw [hu];exact ht.symm,?_⟩;obtain⟨r,hr,e⟩:=(KA n').mp (mO _ nP);exact mM.mpr ⟨r,hr,e⟩
theorem XI{R:List Rn}(h:∀r∈R,1≤r.2){r:Rn}(hr:r∈cO R):1≤r.2:=by
 obtain⟨as,bs,e⟩:=List.append_of_mem hr;obtain⟨h1,h2,h3⟩:=ZX e;have hT:Tn R:=fun q hq=>by have:=h q hq;omega
 obtain⟨q,hq,eq⟩:=mM.mp h3;have:cU R r.1<cG R r.1:=by
  have:∀(S:List Rn),(∀q∈S,1≤q.2)→q∈S→cU S r.1<cG S r.1:=by
   intro S
   induction S with
   | nil=>intro _ z;cases z
   | cons x S ih =>
    intro hS hm;have hTS:Tn S:=fun y hy=>by have:=hS y (by simp [hy]);omega
    obtain⟨c1,c2⟩:=rW x S r.1;rw [c1,c2];have hx:=hS x (by simp)
    rcases dN.mp hm with z | z
    ·subst z;have:=vN hTS r.1;have e1:¬q.1<r.1:=by omega
     have e2:q.1≤r.1:=by omega
     rw [if_neg e1,if_pos e2];omega
    ·have:=ih (fun y hy=>hS y (by simp [hy])) z;split <;> split <;> omega
  exact this R h hq
 omega
def gS:Int→List Rn→List E
 | _,[]=>[]
 | acc,r::rs=>(r.1,acc+1,acc+1)::((if acc+1=acc+r.2 then []else [(r.1,acc+r.2,acc+r.2)])++gS (acc+r.2) rs)
theorem ID(r:Rn)(rs:List Rn):cM (r::rs)=r.2+cM rs:=by simp [cM]
theorem Nc:∀{ps:List Rn},(∀r∈ps,1≤r.2)→0≤cM ps
 | [],_=>by simp [cM]
 | r::rs,h=>by
  have:=Nc (ps:=rs) fun q hq=>h q (by simp [hq]);have:=h r (by simp);rw [ID];omega
theorem Qj:∀(ps:List Rn) (acc:Int) (pr:Option Int),(∀r∈ps,1≤r.2)→(ps.map (·.1)).Pairwise (· < ·)→(∀p,pr=some p→∀r∈ps,p≤r.1)→Ch 0 (acc+cM ps) acc acc pr (gS acc ps)
 | [],acc,pr,_,_,_=>by simp [gS,Ch,cM]
 | r::rs,acc,pr,h1,h2,h3=>by
  have hr:=h1 r (by simp);rw [dH,wZ]at h2;have ih:=Qj rs (acc+r.2) (some r.1) (fun q hq=>h1 q (by simp [hq])) h2.2 (fun p hp q hq=>by
   cases hp;have:=h2.1 q.1 (mM.mpr ⟨q,hq,rfl⟩);omega)
  have es:acc+cM (r::rs)=acc+r.2+cM rs:=by rw [ID];omega
  rw [es];unfold gS;refine⟨fun p hp=>h3 p hp r (by simp),.inr (by show acc+1≤acc+0+1;omega),by show acc<acc+1;omega,by show acc<acc+1;omega,jR _,by show acc+1 - (acc+1)≤0;omega,?_⟩;show Ch 0 (acc+r.2+cM rs) (acc+1) (acc+1) (some r.1) ((if acc+1=acc+r.2 then []else [(r.1,acc+r.2,acc+r.2)])++gS (acc+r.2) rs)
  by_cases hq:acc+1=acc+r.2
  ·rw [if_pos hq,xA,hq];exact ih
  ·rw [if_neg hq];exact⟨fun p hp=>by cases hp;exact jR _,.inl rfl,by show acc+1<acc+r.2;omega,by show acc+1<acc+r.2;omega,jR _,by show acc+r.2 - (acc+r.2)≤0;omega,ih⟩
theorem Qh{R:List Rn}(h:∀r∈cO R,1≤r.2):∀(ps as:List Rn) (z:Int),cO R=as++ps→z≤cM as→Pl R z (gS (cM as) ps)
 | [],as,z,_,_=>trivial
 | r::rs,as,z,e,hz=>by
  obtain⟨h1,h2,h3⟩:=ZX e;have hr:=h r (by rw [e];simp);have ih:=Qh h rs (as++[r]) (cM as+r.2) (by rw [e];simp) (by rw [YD,ID];simp [cM]);have es:cM (as++[r])=cM as+r.2:=by rw [YD,ID];simp [cM]
  rw [es]at ih;unfold gS;refine⟨cM as+1,by omega,by show cU R r.1<cM as+1;omega,by show cM as+1≤cG R r.1;omega,jR _,jR _,?_⟩
  by_cases hq:cM as+1=cM as+r.2
  ·rw [if_pos hq,xA];exact ih.low (by omega)
  ·rw [if_neg hq];exact⟨cM as+r.2,by omega,by show cU R r.1<cM as+r.2;omega,by show cM as+r.2≤cG R r.1;omega,jR _,jR _,ih⟩
theorem Ac:∀(ps:List Rn) (acc:Int),(∀r∈ps,1≤r.2)→((gS acc ps).length:Int)≤cM ps
 | [],acc,_=>by simp [gS,cM]
 | r::rs,acc,h=>by
  have ih:=Ac rs (acc+r.2) fun q hq=>h q (by simp [hq]);have hr:=h r (by simp);rw [ID];unfold gS
  by_cases hq:acc+1=acc+r.2
  ·rw [if_pos hq];simp only [xA,gO];omega
  ·rw [if_neg hq];simp only [Jm,xA,gO];omega
theorem Qi:∀(ps:List Rn) (acc:Int),∀e∈gS acc ps,e.1∈ps.map (·.1)
 | [],_,e,h=>by simp [gS]at h
 | r::rs,acc,e,h=>by
  unfold gS at h
  rcases dN.mp h with z | z
  ·rw [z];simp
  ·rcases oZ.mp z with y | y
   ·split at y
    ·simp at y
    ·simp at y;rw [y];simp
   ·have:=Qi rs _ e y;rw [dH];exact jK _ this
def kW(R:List Rn):Po:=⟨whole R,0,0,gS 0 (cO R)⟩
theorem LH{R:List Rn}(h:∀r∈R,1≤r.2):Gd R (kW R):=by
 have hp:∀r∈cO R,1≤r.2:=fun r hr=>XI h hr;have hw:=NZ R;refine⟨fun r hr=>by have:=h r hr;omega,⟨?_,jR _,jR _,?_,?_⟩,rfl,?_⟩
 ·show 0≤whole R;rw [← hw];exact Nc hp
 ·intro e r he;have BS:gS 0 (cO R)=e::r:=he;cases hq:cO R with
  | nil=>rw [hq]at BS;cases BS
  | cons a b =>
   rw [hq]at BS;unfold gS at BS;cases BS;exact⟨rfl,rfl⟩
 ·have:=Qj (cO R) 0 none hp (Pq R) (fun p hp=>by cases hp);rw [UW,hw]at this;exact this
 ·exact Qh hp (cO R) [] 0 rfl wH
theorem amM(x0:Option A)(f:Nat)(k a b:Int)(done:List A)(hd:done.length≤1000)(Ω:aF)(hf:Ω[f]? = some (.lst done)) :
  SM [x0,aE f,aA k,some (.tup [.int a,.int b])] Ω=dR [x0,aE f,aA k,some (.tup [.int a,.int b])] (Ω.set f (.lst (done++cL (k,a,a)::(if a=b then []else [cL (k,b,b)])))):=by
 have fl:f<Ω.length:=(dI.mp hf).1;have cl:lS Ω (.aD f)=some (f,done):=tO hf;have il:pI Ω (.aD f):=tE (iJ hf);have h3:(3:Nat)≤sizeLine:=by decide
 have hz:done.length<sizeLine:=by rw [mG];omega
 unfold SM;have Tv:(Ω.set f (.lst (done++[cL (k,a,a)])))[f]? = some (.lst (done++[cL (k,a,a)])):=eT fl;rw [bM (ρ1:=[x0,aE f,aA k,some (.tup [.int a,.int b])]) (Ω':=Ω.set f (.lst (done++[cL (k,a,a)]))) (by simp [cl,il,hz,h3,cL,MP])];have Xc:lS (Ω.set f (.lst (done++[cL (k,a,a)]))) (.aD f)=some (f,done++[cL (k,a,a)]):=tO Tv;have Sn:pI (Ω.set f (.lst (done++[cL (k,a,a)]))) (.aD f):=tE (iJ Tv);have Cs:done.length+1<sizeLine:=by rw [mG];omega
 generalize So:Ω.set f (.lst (done++[cL (k,a,a)]))=Ω2 at Xc Sn
 by_cases hq:a=b
 ·subst hq;simp [MP,Ib,← So]
 ·have eW:¬(a == b)=true:=by simpa using hq
  simp [MP,Ib,hq,Xc,Sn,Cs,h3,cL];rw [← So,zH]
theorem Qf(ok:aF→Prop)(aH:∀Ω,ok Ω)(x0:Option A)(Ω:aF)(D:Cell):∀(ps:List Rn) (acc:Int) (done:List A) (x2 x3:Option A),done.length+2*ps.length≤1000 →
  ∃z2 z3,dS ok (kN 2 (eR (gN 2) (eR (gN 3) lC))) SM ((hZ acc ps).map JO) [x0,aE Ω.length,x2,x3] (Ω++[.lst done,D])=dR [x0,aE Ω.length,z2,z3] (Ω++[.lst (done++encL (gS acc ps)),D])
 | [],acc,done,x2,x3,_=>⟨x2,x3,by simp [hZ,dS,aH,gS,encL]⟩
 | r::rs,acc,done,x2,x3,hl=>by
  have KD:done.length+2*(rs.length+1)≤1000:=hl;have t:=amM x0 Ω.length r.1 (acc+1) (acc+r.2) done (by omega) (Ω++[.lst done,D]) (by simp);have hd2:(done++cL (r.1,acc+1,acc+1)::(if acc+1=acc+r.2 then []else [cL (r.1,acc+r.2,acc+r.2)])).length≤done.length+2:=by
   split <;> simp
  obtain⟨z2,z3,q⟩:=Qf ok aH x0 Ω D rs (acc+r.2) (done++cL (r.1,acc+1,acc+1)::(if acc+1=acc+r.2 then []else [cL (r.1,acc+r.2,acc+r.2)])) (aA r.1) (some (.tup [.int (acc+1),.int (acc+r.2)])) (by omega);refine⟨z2,z3,?_⟩;have es:(Ω++[Cell.lst done,D]).set Ω.length (.lst (done++cL (r.1,acc+1,acc+1)::(if acc+1=acc+r.2 then []else [cL (r.1,acc+r.2,acc+r.2)])))=Ω++[.lst (done++cL (r.1,acc+1,acc+1)::(if acc+1=acc+r.2 then []else [cL (r.1,acc+r.2,acc+r.2)])),D]:=by simp
  rw [es]at t;have el:done++encL (gS acc (r::rs))=(done++cL (r.1,acc+1,acc+1)::(if acc+1=acc+r.2 then []else [cL (r.1,acc+r.2,acc+r.2)]))++encL (gS (acc+r.2) rs):=by
   have e0:gS acc (r::rs)=(r.1,acc+1,acc+1)::((if acc+1=acc+r.2 then []else [(r.1,acc+r.2,acc+r.2)])++gS (acc+r.2) rs):=rfl;rw [e0];generalize gS (acc+r.2) rs=us
   by_cases hq:acc+1=acc+r.2
   ·rw [if_pos hq,if_pos hq];simp [encL]
   ·rw [if_neg hq,if_neg hq];simp [encL]
  rw [el,← q];simp only [hZ,dH];refine lE (aH _) (ρ0:=[x0,aE Ω.length,aA r.1,some (.tup [.int (acc+1),.int (acc+r.2)])]) (Ω0:=Ω++[.lst done,D]) ?_ t;simp [JO,kA]
theorem axL(R:List Rn)(h:∀r∈R,1≤r.2)(hl:R.length≤63)(hw:whole R≤1000000000)(Ω:aF):NP [.lst (bC R)] Ω=aM (fQ (whole R) 0 0 (gS 0 (cO R))) Ω:=by
 have pl:=axI R hl (Ω++[.lst []]);have pn:=Pr R;obtain⟨z2,z3,q⟩:=Qf (fun _=>True) (fun _=>trivial) (some (.lst (bC R))) Ω .dead (cO R) 0 [] none none (by simp;omega);have s4:(4:Nat)≤sizeLine:=by decide
 show trim Ω (gC (SN [aT (bC R),none,none,none] Ω))=_;have e:SN [aT (bC R),none,none,none] Ω=some (.ret (fQ (whole R) 0 0 (gS 0 (cO R))),[aT (bC R),aE Ω.length,z2,z3],Ω++[.dead,.dead]):=by
  have lr:=axQ R h hw (Ω++[.lst (encL (gS 0 (cO R))),.dead]);unfold SN;rw [bM (ρ1:=[aT (bC R),aE Ω.length,none,none]) (Ω':=Ω++[.lst []]) (by simp [nO])];rw [bM (ρ1:=[aT (bC R),aE Ω.length,z2,z3]) (Ω':=Ω++[.lst (encL (gS 0 (cO R))),.dead]) (by
   rw [pM (S:=JN (hZ 0 (cO R))) (Ω':=Ω++[.lst [],.dead]) (by
    generalize bC R=us at pl;have cd:oY (Ω++[Cell.lst [],Cell.cW (hZ 0 (cO R))]) (.aD (Ω.length+1))=some (Ω.length+1,hZ 0 (cO R)):=by simp [oY]
    have pl':NO [.lst us] (Ω++[Cell.lst []])=aM (.aD (Ω.length+1)) (Ω++[Cell.lst [],.cW (hZ 0 (cO R))]):=by
     rw [pl];simp
    simp [bN,pl',cd])]
   rw [xA]at q;exact q)]
  unfold fQ;generalize encL (gS 0 (cO R))=us at lr;generalize bC R=vs at lr;simp [bN,lr,s4]
 rw [e];simp only [pE];exact AD (by
  simp only [fQ,Cl,fH,and_true,true_and];exact CO fun a ha=>by
   obtain⟨e,_,rfl⟩:=mM.mp ha;simp [cL,Cl,fH])
def L2S(l:List Nat):Str:=⟨l.toArray⟩
@[simp] theorem aAZ(l:List Nat):(L2S l).cps.toList=l:=rfl
def J(c:Nat):List (List Nat)→List Nat
 | []=>[]
 | x::r=>x++r.flatMap fun y=>c::y
open Classical in
theorem zX{α:Type}{n:Nat}{js:List Nat}{fi:Ev→Mo Src}{g:A→MS}{e:Ev→Mo A}{ρ:Ev}{Ω Ω0:aF}{S:Src}(xs:List α)(enc out:α→A)(P:Ev→Prop)(inj:∀x y,enc x=enc y→out x=out y)
  (h0:fi ρ Ω=aM S Ω0) (aH:∀ys,S.ok (Ω0++[.lst ys])) (hP:P (lP n js ρ)) (hS:S.ds=xs.map enc) (hl:xs.length≤1000000)
  (step:∀x∈xs,∀ρ,P ρ→∀ys,∃ρ1,P ρ1∧g (enc x) ρ (Ω0++[.lst ys])=dR ρ1 (Ω0++[.lst ys])∧e ρ1 (Ω0++[.lst ys])=aM (out x) (Ω0++[.lst ys]))
  (hc:∀x∈xs,Cl Ω0.length (out x)):lK false n js fi g qI e ρ Ω=aM (.lst (xs.map out)) Ω0:=by
 let F:A→Option A:=fun a=>if h:∃x,x∈xs∧enc x=a then some (out (Classical.choose h))else none
 have hF:∀x∈xs,F (enc x)=some (out x):=fun x hx=>by
  have h:∃y,y∈xs∧enc y=enc x:=⟨x,hx,rfl⟩;show(if h:∃y,y∈xs∧enc y=enc x then some (out (Classical.choose h))else none)=_;rw [dif_pos h,inj _ _ (HM h).2]
 have ef:∀l:List α,(∀x∈l,x∈xs)→(l.map enc).filterMap F=l.map out:=by
  intro l
  induction l with
  | nil=>intro _;rfl
  | cons x r ih =>
   intro h;simp only [dH,UN,hF x (h x (by simp)),ih fun y hy=>h y (by simp [hy])]
 have q:=WS (n:=n) (js:=js) (fi:=fi) (g:=g) (c:=qI) (e:=e) (ρ:=ρ) (Ω:=Ω) (Ω0:=Ω0) (S:=S) F P h0 aH hP (by rw [hS];simpa using hl) (fun x hx ρ hp ys=>by
  rw [hS]at hx;obtain⟨y,hy,rfl⟩:=mM.mp hx;obtain⟨ρ1,h1,h2,h3⟩:=step y hy ρ hp ys;exact⟨ρ1,h1,h2,.inl ⟨out y,hF y hy,by simp [qI],h3⟩⟩) (by
  rw [hS,ef xs fun _ h=>h];exact CO fun a ha=>by obtain⟨x,hx,rfl⟩:=mM.mp ha;exact hc x hx)
 rw [hS,ef xs fun _ h=>h]at q;exact q
theorem as8(lf:Addr)(g:A→Mo A)(a:A)(Ω:aF)(ds:List A)(m:Nat)(h1:dO Ω a=some ds)(h4:∀i d,ds[i]? = some d→g d Ω=aM (.bl (decide (m≤i))) Ω):∀(k fuel st en:Nat) (x:Option A),en - st≤k→k<fuel→st≤m→m≤en→en≤ds.length →
  ∃x',nD (CS lf g) (MI lf g) fuel [some a,some (.adr lf),aA st,aA en,x] Ω=dR [some a,some (.adr lf),aA m,aA m,x'] Ω:=by
 intro k
 induction k with
 | zero =>
  intro fuel st en x hk hf h2 h3 h5;obtain⟨fuel,rfl⟩:∃n,fuel=n+1:=⟨fuel - 1,by omega⟩;have e1:st=m:=by omega
  have e2:en=m:=by omega
  subst e1 e2;exact⟨x,by rw [RP (Ω1:=Ω) (by simp [CS])]⟩
 | succ k ih =>
  intro fuel st en x hk hf h2 h3 h5;obtain⟨fuel,rfl⟩:∃n,fuel=n+1:=⟨fuel - 1,by omega⟩
  by_cases iT:st<en
  ·have Tf:(st:Int)<(en:Int):=by omega
   have hd2:∀j,lH j 2:=fun j=>⟨by decide,by decide⟩
   obtain⟨mi,hmi⟩:∃mi:Nat,mi=(st+en)/2:=⟨_,rfl⟩;have aqQ:((st:Int)+(en:Int))/2=(mi:Int):=by omega
   have Te:mi<ds.length:=by omega
   have uK:dY ds (mi:Int)=some ds[mi]:=by rw [sJ,eX Te]
   have hg:=h4 mi _ (eX Te);have mV:(bK (aB (jF) (aB bX bB bZ) fM) (gN 4)) [some a,some (.adr lf),aA st,aA en,x] Ω=dR [some a,some (.adr lf),aA st,aA en,aA mi] Ω:=by
    simp [hd2,aqQ]
   by_cases hm:m≤mi
   ·obtain⟨x',q⟩:=ih fuel st mi (aA mi) (by omega) (by omega) h2 hm (by omega);refine⟨x',?_⟩;rw [← q];refine Fy (Ω1:=Ω) (by simp [CS,Tf]) ?_;rw [MB hm]at hg;unfold MI;rw [bM mV];simp [h1,uK,hg]
   ·obtain⟨x',q⟩:=ih fuel (mi+1) en (aA mi) (by omega) (by omega) (by omega) h3 h5;refine⟨x',?_⟩;rw [← q];refine Fy (Ω1:=Ω) (by simp [CS,Tf]) ?_;rw [sI hm]at hg;unfold MI;rw [bM mV];simp [h1,uK,hg]
  ·have e1:st=m:=by omega
   have e2:en=m:=by omega
   subst e1 e2;exact⟨x,by rw [RP (Ω1:=Ω) (by simp [CS])]⟩
theorem as7(lf:Addr)(g:A→Mo A)(a:A)(Ω:aF)(r:Rs A×aF)(h:rZ (tN g a) Ω=some r):dW 5 (MJ lf g) [a,.adr lf] Ω=some r:=by
 have h':tN g a Ω=some r:=by
  simp only [rZ]at h
  revert h
  cases e:tN g a Ω with
  | none=>intro h;cases h
  | some r0 =>
   obtain⟨x,Ω'⟩:=r0;cases x with
   | ok b=>intro h;exact h
   | exc b=>intro h;cases h
 obtain⟨ds,m,h1,h2,h3,h4,rfl⟩:=as9 h';obtain⟨x',q⟩:=as8 lf g a Ω ds m h1 h4 ds.length 1000000 0 ds.length none (by omega) (by omega) (by omega) h2 cJ;simp only [Int.natCast_zero]at q;show trim Ω (gC (MJ lf g [some a,some (.adr lf),none,none,none] Ω))=_;unfold MJ;rw [bM (ρ1:=[some a,some (.adr lf),aA 0,none,none]) (Ω':=Ω) (by simp)];rw [bM (ρ1:=[some a,some (.adr lf),aA 0,aA ds.length,none]) (Ω':=Ω) (by simp [h1])];rw [bM (ρ1:=[some a,some (.adr lf),aA m,aA m,x']) (Ω':=Ω) (f:=fun ρ Ω=>nD (CS lf g) (MI lf g) ((fun _ _=>1000000) ρ Ω) ρ Ω) q];simp
abbrev Nf(xs:List E):Prop:=xs.Pairwise fun a b=>a.1≤b.1
theorem Gw{l s:Int}:∀{es:List E} {lo hp:Int} {pr:Option Int},Ch l s lo hp pr es→Nf es∧(∀e∈es,lo<e.2.1)∧(∀p,pr=some p→∀e∈es,p≤e.1)∧es.Pairwise (fun a b=>a.2.1<b.2.1)
 | [],_,_,_,_=>⟨.nil,by simp,by simp,.nil⟩
 | e::r,lo,hp,pr,h=>by
  obtain⟨h1,_,h3,_,_,_,h7⟩:=h;obtain⟨a,b,c,d⟩:=Gw h7;refine⟨wZ.mpr ⟨fun x hx=>c e.1 rfl x hx,a⟩,fun x hx=>?_,fun p hp x hx=>?_,wZ.mpr ⟨b,d⟩⟩
  ·rcases dN.mp hx with z | z
   ·subst z;exact h3
   ·have:=b x z;omega
  ·rcases dN.mp hx with z | z
   ·subst z;exact h1 p hp
   ·have:=h1 p hp;have:=c e.1 rfl x z;omega
def ahN(ps:List Po):Int:=(ps.map fun p=>p.s).sum
structure aAV(i:Nat)(ps:List Po):Prop where
 ne:ps≠[]
 gf:∀p∈ps,GF p.s p.l p.d p.es
 le:aoK ps≤2*i
 ln:ps.length≤i+1
 sz:ahN ps≤1000000*i
theorem an1(p q:Po):(vZ p q).es.length=p.es.length+q.es.length:=by
 show(iX _ _ _ _ _ _ _).length=_;rw [anV _ _ _ _ _ _ _ rfl]
theorem avQ(n:Nat)(p:Po):Cl n (aI p):=ax3 n _ _ _ _
theorem axU(s l d:Int)(ent:A)(es:List E)(i:Nat)(Ω:aF)(hs:dO Ω ent=some (encL es))(h:i≤es.length):rF [.tup [.int s,.int l,.int d,ent],.int i] Ω=aM (.tup [.int (iS es i),.int (iK s es i)]) Ω:=by
 have h2:(2:Nat)≤sizeLine:=by decide
 by_cases h0:i=0
 ·subst h0
  by_cases h1:es=[]
  ·subst h1;simp [rF,wU,hs,encL,iS,iK,h2]
  ·have hl:0<es.length:=Zp.mpr h1;have e1:dY (encL es) 0=some (cL es[0]):=by rw [show(0:Int)=((0:Nat):Int)by rfl,sJ,CK,eX hl];rfl
   simp [rF,wU,hs,e1,hl,iS,iK,cL,h2]
 ·have KJ:i - 1<es.length:=by omega
  have hp:0<i:=by omega
  have e0:dY (encL es) ((i:Int) - 1)=some (cL es[i - 1]):=by rw [Yl _ _ hp,CK,eX KJ];rfl
  by_cases hl:i<es.length
  ·have e1:dY (encL es) (i:Int)=some (cL es[i]):=by rw [sJ,CK,eX hl];rfl
   simp [rF,wU,hs,e0,e1,hl,hp,iS,iK,cL,h0,h2,KJ]
  ·have:i=es.length:=by omega
   subst this;simp [rF,wU,hs,e0,hp,iS,iK,cL,h0,h2,KJ]
theorem Qw{p:E→Bool}:∀{es:List E},es.Pairwise (fun a b=>p a=true→p b=true)→∃m,m≤es.length∧∀(i:Nat) (e:E),es[i]? = some e→p e=decide (m≤i)
 | [],_=>⟨0,rC _,fun i e h=>by simp at h⟩
 | x::xs,h=>by
  obtain⟨h1,h2⟩:=wZ.mp h;cases hx:p x with
  | true =>
   refine⟨0,CW _,fun i e he=>?_⟩;cases i with
   | zero=>simp at he;subst he;simp [hx]
   | succ i=>simp at he;simp [h1 e (nH he) hx]
  | false =>
   obtain⟨m,hm,q⟩:=Qw h2;refine⟨m+1,by simp;omega,fun i e he=>?_⟩;cases i with
   | zero=>simp at he;subst he;simp [hx]
   | succ i =>
    simp at he;rw [q i e he];simp
def ah(x:Int)(cP:Bool)(e:E):Bool:=decide (e.1<x)||(cP&&decide (e.1=x))
theorem Wo{s l d:Int}{es:List E}(h:GF s l d es)(x:Int)(cP:Bool):∃m,m≤es.length∧∀(i:Nat) (e:E),es[i]? = some e→(!ah x cP e)=decide (m≤i) :=
 Qw (p:=fun e=>!ah x cP e) ((Gw h.ch).1.imp fun{a b} Dz ha=>by
  have az8:a.1≤b.1:=Dz;cases cP <;> simp [ah]at ha ⊢ <;> omega)
def At(R:List Rn)(e:E)(p:Int):Prop:=cU R e.1<p∧p≤cG R e.1∧e.2.1≤p∧p≤e.2.2
theorem Pk{R:List Rn}:∀{es:List E} {z:Int},Pl R z es→∃ps:List Int,ps.length=es.length∧(∀p∈ps,z<p)∧ps.Pairwise (· < ·)∧∀(i:Nat) (e:E),es[i]? = some e→∃p,ps[i]? = some p∧At R e p
 | [],_,_=>⟨[],rfl,(fun _ h=>by cases h),List.Pairwise.nil,(fun i e h=>by simp at h)⟩
 | e::r,z,⟨p,h,q1,q2,q3,q4,q5⟩=>by
  obtain⟨ps,a1,a2,a3,a4⟩:=Pk q5;refine⟨p::ps,by simp [a1],fun q hq=>?_,wZ.mpr ⟨fun q hq=>a2 q hq,a3⟩,fun i e' he=>?_⟩
  ·rcases dN.mp hq with x | x
   ·rw [x];exact h
   ·have:=a2 q x;omega
  ·cases i with
   | zero=>simp at he;subst he;exact⟨p,rfl,q1,q2,q3,q4⟩
   | succ i=>obtain⟨p',b1,b2⟩:=a4 i e' (by simpa using he);exact⟨p',by simpa using b1,b2⟩
theorem Pn{R:List Rn}{es:List E}{z:Int}(h:Pl R z es){i:Nat}{e:E}(he:es[i]? = some e):∃p,z<p∧At R e p:=by
 obtain⟨ps,_,a2,_,a4⟩:=Pk h;obtain⟨p,b1,b2⟩:=a4 i e he;exact⟨p,a2 p (nH b1),b2⟩
def gX(R:List Rn)(x:Int)(cP:Bool):Int:=if cP then cG R x else cU R x
theorem Xo{R:List Rn}{p:Po}(h:Gd R p)(x:Int)(cP:Bool)(m:Nat)(hm:m≤p.es.length)(hq:∀(i:Nat) (e:E),p.es[i]? = some e→(!ah x cP e)=decide (m≤i)) :
  iS p.es m≤gX R x cP∧gX R x cP≤iK p.s p.es m∧0≤iS p.es m:=by
 have hl:∀(i:Nat) (e:E),p.es[i]? = some e→i<m→cG R e.1≤gX R x cP:=fun i e he hi=>by
  have:=hq i e he;have h2:decide (m≤i)=false:=by simp;omega
  rw [h2]at this;unfold gX;cases cP with
  | true =>
   have:e.1≤x:=by simp [ah]at this;omega
   simp only [fW];exact DX h.tn this
  | false =>
   have:e.1<x:=by simp [ah]at this;omega
   simp only [sO,jN];exact zZ h.tn this
 have hh:∀(i:Nat) (e:E),p.es[i]? = some e→m≤i→gX R x cP≤cU R e.1:=fun i e he hi=>by
  have:=hq i e he;have h2:decide (m≤i)=true:=by simp;omega
  rw [h2]at this;unfold gX;cases cP with
  | true =>
   have:x<e.1:=by simp [ah]at this;omega
   simp only [fW];exact zZ h.tn this
  | false =>
   have:x≤e.1:=by simp [ah]at this;omega
   simp only [sO,jN];exact DZ h.tn this
 have c0:0≤gX R x cP:=by
  unfold gX;split
  ·exact DE (AB h.tn x) (vN h.tn x)
  ·exact AB h.tn x
 refine⟨?_,?_,?_⟩
 ·cases m with
  | zero=>simpa [iS]using c0
  | succ m =>
   rw [Av _ _ (by omega)];obtain⟨q,_,b1,b2,b3,b4⟩:=Pn h.pl (eX (show m<p.es.length by omega));have:=hl m _ (eX (by omega)) (by omega);omega
 ·by_cases KC:m<p.es.length
  ·rw [Tp _ _ _ KC];obtain⟨q,_,b1,b2,b3,b4⟩:=Pn h.pl (eX KC);have:=hh m _ (eX KC) cJ;omega
  ·have e:m=p.es.length:=by omega
   rw [e,Tq,h.sz];unfold gX;split
   ·exact HX h.tn x
   ·exact DE (vN h.tn x) (HX h.tn x)
 ·cases m with
  | zero=>simp [iS]
  | succ m =>
   rw [Av _ _ (by omega)];have:=(MD _ _ _ _ h.gf.ch _ (NH (show m<p.es.length by omega))).2.1;omega
theorem Wn{s l d:Int}{es:List E}(h:GF s l d es)(x:Int)(cP:Bool)(m:Nat)(hm:m≤es.length)(hq:∀(i:Nat) (e:E),es[i]? = some e→(!ah x cP e)=decide (m≤i)) :
  iK s es m - iS es m≤l∧0≤iS es m∧0≤iK s es m:=by
 have hl:=h.l0;have hs0:=h.s0;cases m with
 | zero =>
  have h1:iS es 0=0:=rfl;rw [h1];cases es with
  | nil =>
   have:=(Uv h).mpr rfl;have h2:iK s [] 0=s:=rfl;rw [h2];omega
  | cons e r =>
   have f:=(h.fst e r rfl).2;have h2:iK s (e::r) 0=e.2.2 - 1:=rfl;rw [h2];omega
 | succ k =>
  have hk:k<es.length:=by omega
  rw [Av es k hk];obtain⟨c1,c2,c3,c4⟩:=Xh es 0 0 none k es[k] h.ch (eX hk);have Tg:0<es[k].2.1:=((Gw h.ch).2.1 es[k] (NH hk))
  by_cases kX:k+1<es.length
  ·rw [Tp s es (k+1) kX];obtain⟨f1,f2,f3,f4⟩:=c4 es[k+1] (eX kX);rw [AU]at f4;have q1:=hq k es[k] (eX hk);have q2:=hq (k+1) es[k+1] (eX kX);have n1:ah x cP es[k]=true:=by
    have:¬k+1≤k:=by omega
    rw [sI this]at q1;simpa using q1
   have n2:ah x cP es[k+1]=false:=by
    rw [MB cJ]at q2;simpa using q2
   have eW:es[k+1].1≠es[k].1:=fun z=>by
    unfold ah at n1 n2;rw [z]at n2;rw [n1]at n2;cases n2
   rcases f4 with z | z
   ·exact absurd z eW
   ·omega
  ·have e:k+1=es.length:=by omega
   rw [e,Tq];obtain⟨g1,g2⟩:=c3 e;omega
def unit(ns:List Int):List Rn:=ns.map fun n=>(n,1)
theorem AA:∀ns:List Int,whole (unit ns)=ns.length
 | []=>rfl
 | n::ns=>by
  have:=AA ns;simp only [unit,whole,dH,rD,gO]at this ⊢;rw [this];push_cast;omega
theorem xT(ns:List Int):∀r∈unit ns,1≤r.2:=fun r hr=>by
 obtain⟨n,_,rfl⟩:=mM.mp hr;exact jR _
theorem abP(ns:List Int):(unit ns).length=ns.length:=by simp [unit]
theorem Zl(ns:List Int)(hl:ns.length≤63)(a:A)(Ω:aF)(ha:∀Δ,dO (Ω++Δ) a=some (ns.map A.int)):qG [a] Ω=aM (aI (kW (unit ns))) Ω:=by
 have h0:dO Ω a=some (ns.map A.int):=by have:=ha [];simpa using this
 have q:Yc [some a] Ω=aM (.lst (bC (unit ns))) Ω:=by
  have e:bC (unit ns)=ns.map fun n=>A.tup [.int n,.int 1]:=by simp [bC,unit,lQ]
  rw [e];exact zX (n:=1) (js:=[]) (fi:=fV aL) (g:=gN 0) (ρ:=[some a]) (Ω:=Ω) (Ω0:=Ω) (S:=srcOf a (ns.map A.int)) ns (fun n=>A.int n) (fun n=>A.tup [.int n,.int 1]) (fun ρ=>∃y,ρ=[y]) (fun x y e=>by cases e;rfl)
   (by simp [h0]) (fun ys=>ha _) ⟨none,by simp [lP]⟩ rfl (by omega) (fun n hn ρ hP ys=>by
    obtain⟨y,rfl⟩:=hP;have h2:(2:Nat)≤sizeLine:=by decide
    exact⟨[aA n],⟨_,rfl⟩,by simp,by simp [h2]⟩) (fun x _=>by simp [Cl,fH])
 have r:=axL (unit ns) (xT ns) (by rw [abP];omega) (by rw [AA];omega) Ω;show trim Ω (gC (Hj [some a] Ω))=_;have r':NP [.lst (bC (unit ns))] Ω=aM (aI (kW (unit ns))) Ω:=r;generalize aI (kW (unit ns))=P at r';generalize bC (unit ns)=us at q r';simp [Hj,q,bN,r']
def jD(s:Int)(es:List E)(j:Nat):Int:=if j=0 then 0 else(iS es j+iK s es j)/2
def jT(s:Int)(es:List E):Nat→List E→List Rn
 | _,[]=>[]
 | k,e::r=>(e.1,jD s es (k+1) - jD s es k)::jT s es (k+1) r
def mY(s:Int)(es:List E):List Rn:=jT s es 0 es
theorem Ra(ok:aF→Prop)(aH:∀Ω,ok Ω)(s l d:Int)(es:List E)(Ω:aF):∀(rest:List E) (k:Nat) (done:List A) (x3 x4 x5:Option A),k+rest.length=es.length→done.length+rest.length≤1000 →
  ∃z2 z3 z4 z5,dS ok (kN 2 (eR (gN 3) (eR (gN 4) lC))) Hm (kP (k+1) (encL rest)) [some (fQ s l d es),aE Ω.length,aA (jD s es k),x3,x4,x5] (Ω++[.lst done])=dR [some (fQ s l d es),aE Ω.length,z2,z3,z4,z5] (Ω++[.lst (done++bC (jT s es k rest))])
 | [],k,done,x3,x4,x5,_,_=>⟨aA (jD s es k),x3,x4,x5,by simp [encL,kP,dS,aH,jT,bC]⟩
 | e::rest,k,done,x3,x4,x5,hk,hl=>by
  have hk':k+(rest.length+1)=es.length:=hk;have KD:done.length+(rest.length+1)≤1000:=hl;obtain⟨z2,z3,z4,z5,q⟩:=Ra ok aH s l d es Ω rest (k+1) (done++[lQ (e.1,jD s es (k+1) - jD s es k)]) (aA ((k+1:Nat):Int)) (some (cL e)) (aA (jD s es (k+1))) (by omega) (by simp;omega);refine⟨z2,z3,z4,z5,?_⟩;have el:done++bC (jT s es k (e::rest))=(done++[lQ (e.1,jD s es (k+1) - jD s es k)])++bC (jT s es (k+1) rest):=by simp [jT,bC]
  rw [el,← q];have b:=axV s l d es (k+1) (Ω++[.lst done]) (by omega);have h2:(2:Nat)≤sizeLine:=by decide
  have d2:lH (iS es (k+1)+iK s es (k+1)) 2:=⟨by decide,by decide⟩;have et:jD s es (k+1)=(iS es (k+1)+iK s es (k+1))/2:=by simp [jD]
  have cl:lS (Ω++[Cell.lst done]) (.aD Ω.length)=some (Ω.length,done):=tO (by simp);have il:pI (Ω++[Cell.lst done]) (.aD Ω.length):=tE (iJ (ds:=done) (by simp));have hz:done.length<sizeLine:=by rw [mG];omega
  have ee:kP (k+1) (encL (e::rest)) = .tup [.int ((k+1:Nat):Int),cL e]::kP (k+1+1) (encL rest):=rfl;rw [ee];refine lE (aH _) (ρ0:=[some (fQ s l d es),aE Ω.length,aA (jD s es k),aA ((k+1:Nat):Int),some (cL e),x5]) (Ω0:=Ω++[.lst done]) (by
   generalize fQ s l d es=P;simp) ?_
  unfold Hm;rw [et];generalize jD s es k=tk;generalize Tg:iS es (k+1)=lo at b d2;generalize Dk:iK s es (k+1)=hi at b d2;generalize fQ s l d es=P at b;generalize ((k+1:Nat):Int)=kk at b;rw [bM (ρ1:=[some P,aE Ω.length,aA tk,aA kk,some (cL e),aA ((lo+hi)/2)]) (Ω':=Ω++[.lst done]) (by simp [bN,b,intsOf,d2])];rw [bM (ρ1:=[some P,aE Ω.length,aA tk,aA kk,some (cL e),aA ((lo+hi)/2)]) (Ω':=Ω++[.lst (done++[lQ (e.1,(lo+hi)/2 - tk)])]) (by
   simp [cl,il,hz,h2,cL,lQ,MP])]
  simp
theorem axP(s l d:Int)(es:List E)(hz:es.length≤1000)(Ω:aF):VH [fQ s l d es] Ω=aM (.lst (bC (mY s es))) Ω:=by
 obtain⟨z2,z3,z4,z5,q⟩:=Ra (fun Ω'=>cK Ω' (.lst (encL es))=some (encL es)) (fun _=>rfl) s l d es Ω es 0 [] none none none (by omega) (by simpa using hz);show trim Ω (gC (SO [some (fQ s l d es),none,none,none,none,none] Ω))=_;have e:SO [some (fQ s l d es),none,none,none,none,none] Ω=some (.ret (.lst (bC (mY s es))),[some (fQ s l d es),aE Ω.length,z2,z3,z4,z5],Ω++[.dead]):=by
  unfold SO;rw [bM (ρ1:=[some (fQ s l d es),aE Ω.length,none,none,none,none]) (Ω':=Ω++[.lst []]) (by
   generalize fQ s l d es=P;simp [nO])]
  rw [bM (ρ1:=[some (fQ s l d es),aE Ω.length,aA 0,none,none,none]) (Ω':=Ω++[.lst []]) (by
   generalize fQ s l d es=P;simp)]
  rw [bM (ρ1:=[some (fQ s l d es),aE Ω.length,z2,z3,z4,z5]) (Ω':=Ω++[.lst (bC (mY s es))]) (by
   rw [pM (S:=Gb (.lst (encL es)) (encL es)) (Ω':=Ω++[.lst []]) (by simp [fQ,GS])];rw [xA]at q;exact q)]
  generalize bC (mY s es)=us;generalize fQ s l d es=P;simp
 rw [e];simp only [pE];exact AD (by
  simp only [Cl];exact Gr _ _)
theorem avM(r:Rn)(R:List Rn)(x:Int)(cP:Bool):gX (r::R) x cP=(if ah x cP (r.1,0,0)=true then r.2 else 0)+gX R x cP:=by
 unfold gX ah;obtain⟨c1,c2⟩:=rW r R x;cases cP with
 | false =>
  simp only [sO,jN,Bool.false_and,Bool.or_false,Wj];exact c1
 | true =>
  simp only [fW,Bool.true_and,Bool.or_eq_true,Wj];rw [c2];congr 1
  by_cases h:r.1≤x
  ·rw [if_pos h,if_pos (by omega)]
  ·rw [if_neg h,if_neg (by omega)]
theorem Rc(s:Int)(es:List E)(x:Int)(cP:Bool)(m:Nat)(hm:m≤es.length)(hq:∀(i:Nat) (e:E),es[i]? = some e→(!ah x cP e)=decide (m≤i)):∀(rest:List E) (k:Nat),k≤es.length→es.drop k=rest→gX (jT s es k rest) x cP=if k≤m then jD s es m - jD s es k else 0
 | [],k,pW,hd=>by
  have hk:es.length≤k:=by simpa using hd
  have e0:gX (jT s es k []) x cP=0:=by cases cP <;> simp [jT,gX,cU,cG]
  rw [e0];split
  ·have:k=m:=by omega
   rw [this];omega
  ·rfl
 | e::rest,k,pW,hd=>by
  have hk:k<es.length:=by
   rcases UG k es.length with z | z
   ·exact z
   ·rw [Zu z]at hd;cases hd
  have he:es[k]? = some e:=by
   have:=congrArg (fun l=>l[0]?) hd;simpa using this
  have ih:=Rc s es x cP m hm hq rest (k+1) (by omega) (by rw [← List.drop_drop,hd];rfl);have ha:=hq k e he;rw [jT,avM,ih];have ea:ah x cP (e.1,0,0)=ah x cP e:=rfl;show(if ah x cP (e.1,0,0)=true then jD s es (k+1) - jD s es k else 0)+_=_;rw [ea]
  by_cases Di:m≤k
  ·have h1:ah x cP e=false:=by simpa [Di]using ha
   rw [h1,if_neg (by omega:¬k+1≤m)];simp only [sO,jN]
   by_cases Tj:k≤m
   ·have:k=m:=by omega
    rw [if_pos Tj,this];omega
   ·rw [if_neg Tj];rfl
  ·have h1:ah x cP e=true:=by
    cases hh:ah x cP e with
    | true=>rfl
    | false=>rw [hh]at ha;simp at ha;omega
   rw [h1,if_pos (by omega:k+1≤m),if_pos (by omega:k≤m)];simp only [fW];omega
theorem an0{R:List Rn}{p:Po}(h:Gd R p)(x:Int)(cP:Bool):gX (mY p.s p.es) x cP - p.l≤gX R x cP∧gX R x cP≤gX (mY p.s p.es) x cP+p.l:=by
 obtain⟨m,hm,hq⟩:=Wo h.gf x cP;obtain⟨b1,b2,b3⟩:=Xo h x cP m hm hq;obtain⟨c1,c2,c3⟩:=Wn h.gf x cP m hm hq;have e:=Rc p.s p.es x cP m hm hq p.es 0 nZl rfl;rw [if_pos nZl]at e;have e':gX (mY p.s p.es) x cP=jD p.s p.es m:=by
  show gX (jT p.s p.es 0 p.es) x cP=_;rw [e];simp [jD]
 rw [e'];have hl:=h.gf.l0;unfold jD
 by_cases h0:m=0
 ·rw [if_pos h0];subst h0;have l0:iS p.es 0=0:=rfl;have h1:iK p.s p.es 0=0:=by
   unfold iK;cases wN:p.es with
   | nil =>
    have:=h.gf.ch;rw [wN]at this;have z:(0:Int)=p.s∧_:=this;simp;omega
   | cons e r =>
    have:=(h.gf.fst e r wN).2;simp;omega
  omega
 ·rw [if_neg h0];omega
theorem Xg{l s:Int}:∀{es:List E} {lo hp:Int} {pr:Option Int},Ch l s lo hp pr es→∀e,es[es.length - 1]? = some e→e.2.1=s
 | [],_,_,_,_,e,he=>by simp at he
 | [f],_,_,_,h,e,he=>by
  obtain⟨_,_,_,_,_,_,h7⟩:=h;simp at he;subst he;exact h7.1
 | f::g::r,_,_,_,h,e,he=>by
  obtain⟨_,_,_,_,_,_,h7⟩:=h;exact Xg h7 e (by simpa using he)
theorem Qy(s:Int)(es:List E):∀(rest:List E) (k:Nat),whole (jT s es k rest)=jD s es (k+rest.length) - jD s es k
 | [],k=>by simp [jT,whole]
 | e::rest,k=>by
  have ih:=Qy s es rest (k+1);have e1:whole (jT s es k (e::rest))=(jD s es (k+1) - jD s es k)+whole (jT s es (k+1) rest):=by simp [jT,whole]
  rw [e1,ih,gO,show k+1+rest.length=k+(rest.length+1)by omega];omega
theorem anZ{R:List Rn}{p:Po}(h:Gd R p):whole (mY p.s p.es)=p.s:=by
 have e:=Qy p.s p.es p.es 0;show whole (jT p.s p.es 0 p.es)=_;rw [e,wY];have t0:jD p.s p.es 0=0:=rfl;rw [t0];unfold jD;cases wN:p.es with
 | nil =>
  have:=h.gf.ch;rw [wN]at this;have z:(0:Int)=p.s∧_:=this;simp;omega
 | cons f r =>
  have hn:¬(f::r).length=0:=by simp
  rw [if_neg hn];have hh:iK p.s (f::r) (f::r).length=p.s:=by simp [iK]
  have iT:(f::r).length - 1<(f::r).length:=by simp
  have hg:(f::r)[(f::r).length - 1]? = some (f::r)[(f::r).length - 1]:=eX iT;have hc:=h.gf.ch;rw [wN]at hc;have hl:=Xg hc _ hg;have lo:iS (f::r) (f::r).length=p.s:=by
   unfold iS;rw [if_neg hn,hg];exact hl
  rw [hh,lo];omega
theorem Rb(s:Int)(es:List E):∀(rest:List E) (k:Nat),(jT s es k rest).length=rest.length
 | [],_=>rfl
 | _::rest,k=>by simp [jT,Rb s es rest (k+1)]
theorem Qz(s:Int)(es:List E):∀(rest:List E) (k:Nat),(jT s es k rest).map (·.1)=rest.map (·.1)
 | [],_=>rfl
 | e::rest,k=>by simp [jT,Qz s es rest (k+1)]
open PySem PyProof L2 V2
abbrev Sg:=List Int
def Qx:Sg→Int
 | []=>0
 | x::r=>if r=[]then x else min x (Qx r)
def Qv:Sg→Int
 | []=>0
 | x::r=>if r=[]then x else max x (Qv r)
def YH(g:Sg):A := .tup [.int g.length,.int g.sum,.int (Qx g),.int (Qv g)]
def Vo:List (List Sg)→List Sg
 | []=>[]
 | S::r=>Vo r++S
def atL(L:List (List Sg)):List Int:=(Vo L).flatten
def Lv(k:Nat):Nat→List (List Sg)→Prop
 | _,[]=>True
 | j,S::r=>(∀g∈S,g.length=2 ^ j)∧S≠[]∧S.length≤k∧(r≠[]→k≤S.length+1)∧Lv k (j+1) r
def LO(k m:Nat)(cs:List Nat):List (Str×Fd):=[("keep",.val (.int k)),("many",.val (.int m)),("levels",.lst (cs.map A.aD))]
structure qD(Ω:aF)(s k m:Nat)(L:List (List Sg))(cs:List Nat):Prop where
 obj:Ω[s]? = some (.ins "Sums" (LO k m cs))
 len:cs.length=L.length
 aD:∀(j c:Nat) (S:List Sg),cs[j]? = some c→L[j]? = some S→Ω[c]? = some (.lst (S.map YH))
 nd:cs.Nodup
 ns:s∉cs
structure xF(Ω Ω':aF)(s:Nat)(cs cs':List Nat):Prop where
 le:Ω.length≤Ω'.length
 eq:∀i,i<Ω.length→i≠s→i∉cs→Ω'[i]? = Ω[i]?
 new:∀c∈cs',c∈cs∨Ω.length≤c
theorem xF.refl(Ω:aF)(s:Nat)(cs:List Nat):xF Ω Ω s cs cs:=⟨rC _,fun _ _ _ _=>rfl,fun _ h => .inl h⟩
theorem xF.trans{Ω Ω1 Ω2:aF}{s:Nat}{cs Wv Wu:List Nat}(a:xF Ω Ω1 s cs Wv)(b:xF Ω1 Ω2 s Wv Wu):xF Ω Ω2 s cs Wu where
 le:=qE a.le b.le
 eq:=fun i hi hs hc=>by
  rw [b.eq i (kE hi a.le) hs (fun z=>by
   rcases a.new i z with q | q
   ·exact hc q
   ·omega),a.eq i hi hs hc]
 new:=fun c hc=>by
  rcases b.new c hc with z | z
  ·exact a.new c z
  ·exact .inr (qE a.le z)
section
variable{Ω:aF}{s k m:Nat}{L:List (List Sg)}{cs:List Nat}
theorem qD.lt(h:qD Ω s k m L cs):s<Ω.length:=(dI.mp h.obj).1
theorem qD.SA(h:qD Ω s k m L cs){j c:Nat}(hj:cs[j]? = some c):c<Ω.length∧c≠s:=by
 have hl:=(dI.mp hj).1;have:=h.aD j c (L[j]'(by rw [← h.len];exact hl)) hj (eX _);exact⟨(dI.mp this).1,fun e=>h.ns (e ▸ nH hj)⟩
theorem anG{cs:List Nat}(h:cs.Nodup){i j c:Nat}(hi:cs[i]? = some c)(hj:cs[j]? = some c):i=j:=AS h hi hj
theorem qD.upd(h:qD Ω s k m L cs){j c:Nat}{S':List Sg}(hj:cs[j]? = some c):qD (Ω.set c (.lst (S'.map YH))) s k m (L.set j S') cs∧xF Ω (Ω.set c (.lst (S'.map YH))) s cs cs:=by
 obtain⟨c1,c2⟩:=h.SA hj;have hjl:j<L.length:=by rw [← h.len];exact(dI.mp hj).1
 refine⟨⟨by rw [dZ c2];exact h.obj,by simp [h.len],fun i d S hi hS=>?_,h.nd,h.ns⟩,⟨by simp,fun i hi hs hc=>?_,fun _ z => .inl z⟩⟩
 ·by_cases e:i=j
  ·subst e;rw [hj]at hi;cases hi;rw [eT hjl]at hS;cases hS;exact eT c1
  ·rw [dZ (cQ e)]at hS;have:c≠d:=fun z=>e (anG h.nd (z ▸ hi) hj);rw [dZ this];exact h.aD i d S hi hS
 ·have:c≠i:=fun z=>hc (z ▸ nH hj);rw [dZ this]
theorem qD.new(h:qD Ω s k m L cs):qD (Ω.set s (.ins "Sums" (LO k m (cs++[Ω.length])))++[.lst []]) s k m (L++[[]]) (cs++[Ω.length])∧xF Ω (Ω.set s (.ins "Sums" (LO k m (cs++[Ω.length])))++[.lst []]) s cs (cs++[Ω.length]):=by
 have hs:=h.lt;have FP:∀c∈cs,c<Ω.length:=fun c hc=>by
  obtain⟨j,hj,e⟩:=Zr hc;exact(h.SA (j:=j) (by rw [← e];exact eX hj)).1
 refine⟨⟨?_,by simp [h.len],fun i d S hi hS=>?_,?_,?_⟩,⟨by simp,fun i hi BL hc=>?_,fun c hc=>?_⟩⟩
 ·rw [jL (by simpa using hs),eT hs]
 ·by_cases e:i<cs.length
  ·rw [jL e]at hi;rw [jL (by rw [← h.len];exact e)]at hS;have:=h.SA hi;rw [jL (by simpa using this.1),dZ (cQ this.2)];exact h.aD i d S hi hS
  ·have e2:i=cs.length:=by
    have:=(dI.mp hi).1;simp at this;omega
   subst e2;rw [sL cJ]at hi;simp at hi;subst hi;rw [sL (by rw [h.len];exact rC _),h.len]at hS;simp at hS;subst hS;rw [sL (by simp)];simp
 ·rw [UM];exact⟨h.nd,by simp,fun a ha b hb=>by simp at hb;have:=FP a ha;omega⟩
 ·simp;exact⟨h.ns,by omega⟩
 ·rw [jL (by simpa using hi),dZ (cQ BL)]
 ·rcases oZ.mp hc with z | z
  ·exact .inl z
  ·simp at z;right;omega
end
theorem zC(ns:List Int)(k:Nat)(h:k<ns.length):dY (ns.map A.int) (k:Int)=(aA (ns[k])):=by rw [sJ];simp [h]
theorem Sf{n k:Nat}(h:k<n):pH n (k:Int)=some k:=by
 unfold pH;simp [h]
theorem apV{c:Ev→Mo Bool}{f g:MS}{ρ:Ev}{Ω Ω':aF}(h:c ρ Ω=aM true Ω'):eV c f g ρ Ω=f ρ Ω':=by
 unfold eV;rw [kU h];simp
theorem OX(Ω:aF)(a b:Cell):(Ω++[a,b])[Ω.length]? = some a:=by simp
theorem EE(Ω:aF)(a b:Cell):(Ω++[a,b])[Ω.length+1]? = some b:=by
 rw [sL (by omega)];simp
theorem aiB(Ω:aF)(a b c:Cell):(Ω++[a,b]).set Ω.length c=Ω++[c,b]:=by simp
theorem Nv(Ω:aF)(a b c:Cell):(Ω++[a,b]).set (Ω.length+1) c=Ω++[a,c]:=by
 rw [List.set_append_right _ _ (by omega)];simp
theorem arT(f:Ev→Mo A)(ρ:Ev)(Ω:aF)(n:Int)(h:f ρ Ω=aM (.int n) Ω)(cm:kI n n):(aB bX (aB (fO) (aB (fX) f f) (cI 1009)) pQ) ρ Ω=aM (.int (n*n%1009+3)) Ω:=by
 have h2:aB fX f f ρ Ω=aM (.int (n*n)) Ω:=by
  simp only [aB];rw [cE h,cE h];simp only [fX,gI];rw [Rh _ cm];rfl
 generalize n*n=m at h2;generalize aB fX f f=g at h2;simp [h2]
section
variable{Ω:aF}{s k m:Nat}{L:List (List Sg)}{cs:List Nat}
theorem qD.many(h:qD Ω s k m L cs)(m':Nat):qD (Ω.set s (.ins "Sums" (LO k m' cs))) s k m' L cs∧xF Ω (Ω.set s (.ins "Sums" (LO k m' cs))) s cs cs:=by
 refine⟨⟨eT h.lt,h.len,fun j c S hj hS=>?_,h.nd,h.ns⟩,⟨by simp,fun i hi hs hc=>by rw [dZ (cQ hs)],fun _ z => .inl z⟩⟩;rw [dZ (cQ (h.SA hj).2)];exact h.aD j c S hj hS
end
def Qd(s l:Int)(n i:Nat)(p e:E):Prop:=(i=0→e.2.1=1∧e.2.2=1)∧(i+1=n→e.2.1=s∧e.2.2=s)∧(e.2.1≤e.2.2∧e.2.2 - e.2.1≤l)∧(i≠0→(p.1≤e.1∧p.2.1<e.2.1∧p.2.2<e.2.2)∧pG l p e=true)
instance (s l:Int) (n i:Nat) (p e:E):Decidable (Qd s l n i p e):=by unfold Qd;infer_instance
inductive Due | row (j:Nat) | ayZ (j:Nat) | size | ayA (j:Nat) | good
def wF(L b k n:Int)(fl nw:List A):List (Str×Fd):=[("reach",.val (.int L)),("block",.val (.int b)),("keep",.val (.int k)),("many",.val (.int n)),("full",.lst fl),("newest",.lst nw)]
theorem pY{ρ:Ev}{Ω:aF}{s:Nat}{fs:List (Str×Fd)}{f:Str}{a:A}(h0:ρ[0]? = some (aE s))(ho:Ω[s]? = some (.ins "Window" fs))(hl:fs.lookup f=some (.val a)):(bV ["Window"] f aL) ρ Ω=aM a Ω:=by
 have e:aL ρ Ω=aM (.aD s) Ω:=by simp [h0]
 unfold bV;rw [cE e];simp [ho,hl]
theorem RS{ρ:Ev}{Ω:aF}{s:Nat}{fs:List (Str×Fd)}{f:Str}{ds:List A}(h0:ρ[0]? = some (aE s))(ho:Ω[s]? = some (.ins "Window" fs))(hl:fs.lookup f=some (.lst ds)):(mS ["Window"] 0 f) ρ Ω=aM (.int ds.length) Ω:=by
 have e:=Pz (cs:=["Window"]) (f:=f) (fd := .lst ds) h0 ho (by simp) hl;unfold mS;rw [e]
theorem Ay{i:Nat}{f:Str}{g:MS}{ρ ρ':Ev}{Ω:aF}{s:Nat}{cls:Str}{fs:List (Str×Fd)}{fd fd':Fd}{c c':Cell}(h1:ρ[i]? = some (aE s))(h2:Ω[s]? = some (.ins cls fs))(h3:fs.lookup f=some fd)(h4:fd.cell=some c)
  (h5:g ρ (eQ Ω s cls f fs c)=dR ρ' (eQ Ω s cls f fs c')) (h6:fd'.cell=some c') (h7:fd'=fd∨mQ Ω.length fd') (h8:∀(j:Nat) (d:A),ρ'[j]? = some (some d)→ρ[j]? = some (some d)∨Cl Ω.length d):oK i f g ρ Ω=dR ρ' (Ω.set s (.ins cls (putD f fd' fs))):=by
 have hs:s<Ω.length:=(dI.mp h2).1;refine Of (r:=(.nx,ρ',Ω.set s (.ins cls (putD f fd' fs)))) ⟨s,cls,fs,fd,c,Ω.set s (.ins cls (putD f (.val (.aD Ω.length)) fs)),fd',c',h1,h2,h3,h4,h5,by simp,eT hs,h6,fun k x hk hx => .inl (by rw [dZ (cQ hk)]at hx;exact hx),h7,h8,rfl,by rw [zH]⟩
theorem Ru{i:Nat}{f:Str}{g:Ev→Mo A}{ρ:Ev}{Ω:aF}{s:Nat}{cls:Str}{fs:List (Str×Fd)}{fd:Fd}{c:Cell}{a:A}(h1:ρ[i]? = some (aE s))(h2:Ω[s]? = some (.ins cls fs))(h3:fs.lookup f=some fd)(h4:fd.cell=some c)
  (h5:g ρ (eQ Ω s cls f fs c)=aM a (eQ Ω s cls f fs c)) (h6:Cl Ω.length a):vM i f g ρ Ω=aM a Ω:=by
 have hs:s<Ω.length:=(dI.mp h2).1;have e:Ω.set s (.ins cls (putD f fd fs))=Ω:=by
  rw [QH h3];apply UO;intro j
  by_cases hj:s=j
  ·subst hj;rw [eT hs,h2]
  ·rw [dZ hj]
 have:=abJ (i:=i) (f:=f) (g:=g) (ρ:=ρ) (Ω:=Ω) (r:=(.ok a,Ω)) ⟨s,cls,fs,fd,c,Ω.set s (.ins cls (putD f (.val (.aD Ω.length)) fs)),fd,c,a,h1,h2,h3,h4,h5,by simp,eT hs,h4,fun k x hk hx => .inl (by rw [dZ (cQ hk)]at hx;exact hx),.inl rfl,h6,by rw [zH,e]⟩;exact this
theorem EW{Ω:aF}{s:Nat}{cls f:Str}{fs:List (Str×Fd)}{c:Cell}(h:s<Ω.length):(eQ Ω s cls f fs c)[s]? = some (.ins cls (putD f (.val (.aD Ω.length)) fs)):=by
 rw [jL (by simpa using h),eT h]
theorem EX{Ω:aF}{s:Nat}{cls f:Str}{fs:List (Str×Fd)}{c:Cell}:(eQ Ω s cls f fs c)[Ω.length]? = some c:=by
 rw [sL (by simp)];simp
theorem SD(n:Nat)(ps:List Po):fH n (ps.map aI):=CO fun a ha=>by
 obtain⟨p,_,rfl⟩:=mM.mp ha;exact avQ n p
theorem Xa(n:Nat)(ns:List Int):fH n (ns.map A.int):=CO fun a ha=>by
 obtain⟨p,_,rfl⟩:=mM.mp ha;simp only [Cl]
def pZ(Ω:aF)(s:Nat)(L b k n:Int)(ps:List Po)(ns:List Int):Prop:=Ω[s]? = some (.ins "Window" (wF L b k n (ps.map aI) (ns.map A.int)))
def w1(L:Int):List (Str×Fd):=[("reach",.val (.int L))]
def w2(L b:Int):List (Str×Fd):=[("reach",.val (.int L)),("block",.val (.int b))]
def w3(L b k:Int):List (Str×Fd):=[("reach",.val (.int L)),("block",.val (.int b)),("keep",.val (.int k))]
def w4(L b k:Int):List (Str×Fd):=[("reach",.val (.int L)),("block",.val (.int b)),("keep",.val (.int k)),("many",.val (.int 0))]
def w5(L b k:Int):List (Str×Fd):=[("reach",.val (.int L)),("block",.val (.int b)),("keep",.val (.int k)),("many",.val (.int 0)),("full",.lst [])]
theorem Zi(L b k:Int)(Ω:aF):(FU "Window" 4 DI [.int L,.int b,.int k]) Ω=aM (.aD Ω.length) (Ω++[.ins "Window" (wF L b k 0 [] [])]):=by
 have e:DI [.aD Ω.length,.int L,.int b,.int k] (Ω++[.ins "Window" []])=aM (.bR) (Ω++[.ins "Window" (wF L b k 0 [] [])]):=by
  show trim (Ω++[.ins "Window" []]) (gC (MO [aE Ω.length,aA L,aA b,aA k] (Ω++[.ins "Window" []])))=_;have e1:MO [aE Ω.length,aA L,aA b,aA k] (Ω++[.ins "Window" []])=dR [aE Ω.length,aA L,aA b,aA k] (Ω++[.ins "Window" (wF L b k 0 [] [])]):=by
   have p1:putD ("reach" : Str) (Fd.val (.int L)) ([]:List (Str×Fd))=(w1 L):=rfl;have p2:putD ("block" : Str) (Fd.val (.int b)) (w1 L)=(w2 L b):=rfl;have p3:putD ("keep" : Str) (Fd.val (.int k)) (w2 L b)=(w3 L b k):=rfl;have p4:putD ("many" : Str) (Fd.val (.int 0)) (w3 L b k)=(w4 L b k):=rfl;have p5:putD ("full" : Str) (Fd.lst []) (w4 L b k)=(w5 L b k):=rfl;have p6:putD ("newest" : Str) (Fd.lst []) (w5 L b k)=wF L b k 0 [] []:=rfl;have l1:(w1 L).length<1000:=by simp [w1]
   have l2:(w2 L b).length<1000:=by simp [w2]
   have l3:(w3 L b k).length<1000:=by simp [w3]
   have l4:(w4 L b k).length<1000:=by simp [w4]
   have l5:(w5 L b k).length<1000:=by simp [w5]
   have cf:∀n,mQ n (.lst []):=fun n=>by simp [mQ,fH]
   have h0:(0:Nat)≤sizeLine:=by decide
   unfold MO;generalize hρ:([aE Ω.length,aA L,aA b,aA k]:Ev)=ρ;rw [bM (ρ1:=ρ) (Ω':=Ω++[.ins "Window" (w1 L)]) (by subst hρ;simp [p1])];rw [bM (ρ1:=ρ) (Ω':=Ω++[.ins "Window" (w2 L b)]) (by subst hρ;simp [p2,l1])];rw [bM (ρ1:=ρ) (Ω':=Ω++[.ins "Window" (w3 L b k)]) (by subst hρ;simp [p3,l2])];rw [bM (ρ1:=ρ) (Ω':=Ω++[.ins "Window" (w4 L b k)]) (by subst hρ;simp [p4,l3])];have o5:vV ["Window"] 0 ρ (Ω++[.ins "Window" (w4 L b k)])=some (Ω.length,("Window" : Str),(w4 L b k)):=by subst hρ;simp [vV]
   have o6:vV ["Window"] 0 ρ (Ω++[.ins "Window" (w5 L b k)])=some (Ω.length,("Window" : Str),(w5 L b k)):=by subst hρ;simp [vV]
   rw [bM (ρ1:=ρ) (Ω':=Ω++[.ins "Window" (w5 L b k)]) (by
    simp only [uA,o5];simp [nO,Fd.AQ,cf,p5,l4])]
   simp only [uA,o6];simp [nO,Fd.AQ,cf,p6,l5]
  rw [e1];simp only [QI];exact XH (by simp)
 simp [FU,e]
theorem Ws(ds:List A)(n:Nat)(h:n≤ds.length):nF ds none (some (n:Int))=ds.take n:=by
 unfold nF;rw [HT.PX,HT.IQ,Nat.min_eq_left h];simp
theorem Wt(ds:List A)(n:Nat)(h:n≤ds.length):nF ds (some (n:Int)) none=ds.drop n:=by
 unfold nF;rw [HT.PX,HT.IQ,Nat.min_eq_left h];rw [NF (by simp)]
section
variable{ρ:Ev}{Ω:aF}
abbrev Gv(f:Ev→Mo A)(ρ:Ev)(Ω:aF)(a:A):Prop:=f ρ Ω=aM a Ω
abbrev VC(f:Ev→Mo (List A))(ρ:Ev)(Ω:aF)(a:List A):Prop:=f ρ Ω=aM a Ω
theorem iL:VC a0 ρ Ω []:=rfl
theorem gM{f:Ev→Mo A}{fs:Ev→Mo (List A)}{x:A}{xs:List A}(h:Gv f ρ Ω x)(hs:VC fs ρ Ω xs):VC (aC f fs) ρ Ω (x::xs):=by
 show(aC f fs) ρ Ω=_;simp [show f ρ Ω=_ from h,show fs ρ Ω=_ from hs]
theorem atU{fs:Ev→Mo (List A)}{xs:List A}(h:VC fs ρ Ω xs)(hl:xs.length≤100000):Gv (gL false fs) ρ Ω (.lst xs):=by
 have hz:xs.length≤sizeLine:=by rw [mG];omega
 show(gL false fs) ρ Ω=_;simp [show fs ρ Ω=_ from h,hz]
theorem atV{f g:Ev→Mo A}{a b:List A}(hf:Gv f ρ Ω (.lst a))(hg:Gv g ρ Ω (.lst b))(h:a.length+b.length≤100000):Gv (aB bX f g) ρ Ω (.lst (a++b)):=by
 have hz:¬sizeLine<a.length+b.length:=by rw [mG];omega
 show(aB bX f g) ρ Ω=_;simp [show f ρ Ω=_ from hf,show g ρ Ω=_ from hg,RL,cK,FE,hz]
theorem cdiv{a b:Int}(h0:0<b)(h1:b<1000000):lH a b:=⟨by omega,by omega⟩
end
theorem apW{t:Ev→Mo Bool}{f:Ev→Mo A}{ρ:Ev}{Ω:aF}{a:A}(ht:t ρ Ω=aM true Ω)(hf:Gv f ρ Ω a):eV t (cX f) gB ρ Ω=some (.ret a,ρ,Ω):=by
 unfold eV;rw [kU ht];simp only [fW];unfold cX;rw [kU hf]
theorem QW{t:Ev→Mo Bool}{s:MS}{ρ:Ev}{Ω:aF}(ht:t ρ Ω=aM false Ω):eV t s gB ρ Ω=dR ρ Ω:=by
 unfold eV;rw [kU ht];simp
theorem AJ{f:Ev→Mo A}{ρ:Ev}{Ω:aF}{a:A}(hf:Gv f ρ Ω a):cX f ρ Ω=some (.ret a,ρ,Ω):=by
 unfold cX;rw [kU hf]
theorem RT{F:List A→Mo A}{f g:Ev→Mo A}{ρ:Ev}{Ω:aF}{a b x:A}(hf:Gv f ρ Ω a)(hg:Gv g ρ Ω b)(h:F [a,b] Ω=aM x Ω):Gv (aN (bN 2 F) (aC f (aC g a0))) ρ Ω x:=by
 show(aN _ _) ρ Ω=_;unfold aN;rw [cE (gM hf (gM hg iL))];simp [bN,h]
section
variable{Ω:aF}{s:Nat}{L b k n:Int}{ps:List Po}{ns:List Int}
theorem pZ.lt(h:pZ Ω s L b k n ps ns):s<Ω.length:=(dI.mp h).1
theorem Le{fl nw:List A}:(wF L b k n fl nw).lookup ("reach" : Str)=some (.val (.int L)):=rfl
theorem VY{fl nw:List A}:(wF L b k n fl nw).lookup ("block" : Str)=some (.val (.int b)):=rfl
theorem Lf{fl nw:List A}:(wF L b k n fl nw).lookup ("many" : Str)=some (.val (.int n)):=rfl
theorem HS{fl nw:List A}:(wF L b k n fl nw).lookup ("full" : Str)=some (.lst fl):=rfl
theorem NY{fl nw:List A}:(wF L b k n fl nw).lookup ("newest" : Str)=some (.lst nw):=rfl
theorem aaQ{fl nw gl:List A}:putD ("full" : Str) (Fd.lst gl) (wF L b k n fl nw)=wF L b k n gl nw:=rfl
theorem VQ{fl nw gl:List A}:putD ("newest" : Str) (Fd.lst gl) (wF L b k n fl nw)=wF L b k n fl gl:=rfl
theorem aaP{fl nw:List A}(m:Int):putD ("many" : Str) (Fd.val (.int m)) (wF L b k n fl nw)=wF L b k m fl nw:=rfl
theorem axD(h:pZ Ω s L b k n ps ns)(hb:1≤b)(Dy:b≤1000)(hp:ps.length≤1000)(eW:L≤((ps.length:Int) - 1)*b+ns.length→ps≠[]) :
  NT [.aD s] Ω=aM (.bR) (if L≤((ps.length:Int) - 1)*b+ns.length then Ω.set s (.ins "Window" (wF L b k n (ps.tail.map aI) (ns.map A.int)))else Ω):=by
 have hs:=h.lt;have h':Ω[s]? = some (.ins "Window" (wF L b k n (ps.map aI) (ns.map A.int))):=h;show trim Ω (gC (Hy [aE s,none] Ω))=_;have f1:=RS (ρ:=[aE s,none]) (f := "full") rfl h' HS;have f2:=RS (ρ:=[aE s,none]) (f := "newest") rfl h' NY;have f3:=pY (ρ:=[aE s,none]) (f := "block") rfl h' VY;have l1:(ps.map aI).length=ps.length:=by simp
 have l2:(ns.map A.int).length=ns.length:=by simp
 rw [l1]at f1;rw [l2]at f2;have cm:kI ((ps.length:Int) - 1) b:=CM (by omega) (by omega);have st:(bK (aB bX (aB (fX) (aB (eO) (mS ["Window"] 0 "full") bL) (bV ["Window"] "block" aL)) (mS ["Window"] 0 "newest")) (gN 1)) [aE s,none] Ω=dR [aE s,aA (((ps.length:Int) - 1)*b+ns.length)] Ω:=by
  have e1:(aB (eO) (mS ["Window"] 0 "full") bL) [aE s,none] Ω=aM (.int ((ps.length:Int) - 1)) Ω:=by
   rw [aB,cE f1];simp
  have e2:(aB (fX) (aB (eO) (mS ["Window"] 0 "full") bL) (bV ["Window"] "block" aL)) [aE s,none] Ω=aM (.int (((ps.length:Int) - 1)*b)) Ω:=by
   rw [aB,cE e1,cE f3];simp [cm]
  have e3:(aB bX (aB (fX) (aB (eO) (mS ["Window"] 0 "full") bL) (bV ["Window"] "block" aL)) (mS ["Window"] 0 "newest")) [aE s,none] Ω=aM (.int (((ps.length:Int) - 1)*b+ns.length)) Ω:=by
   rw [aB,cE e2,cE f2];simp
  unfold bK;rw [kU e3];simp
 unfold Hy;rw [bM st];have f4:=pY (ρ:=[aE s,aA (((ps.length:Int) - 1)*b+ns.length)]) (f := "reach") rfl h' Le;have tt:(bY (aB FX bJ (bV ["Window"] "reach" aL))) [aE s,aA (((ps.length:Int) - 1)*b+ns.length)] Ω=aM (decide (L≤((ps.length:Int) - 1)*b+ns.length)) Ω:=by
  have v1:bJ [aE s,aA (((ps.length:Int) - 1)*b+ns.length)] Ω=aM (.int (((ps.length:Int) - 1)*b+ns.length)) Ω:=rfl;have e:(aB FX bJ (bV ["Window"] "reach" aL)) [aE s,aA (((ps.length:Int) - 1)*b+ns.length)] Ω=aM (.bl (decide (L≤((ps.length:Int) - 1)*b+ns.length))) Ω:=by
   rw [aB,cE v1,cE f4];simp
  unfold bY;rw [cE e];simp
 generalize ((ps.length:Int) - 1)*b+ns.length=o at *
 by_cases ho:L≤o
 ·rw [if_pos ho];rw [MB ho]at tt;obtain⟨p,r,rfl⟩:∃p r,ps=p::r:=by
   cases ps with
   | nil=>exact absurd rfl (eW ho)
   | cons p r=>exact⟨p,r,rfl⟩
  have hl:oK 0 "full" (hX (jZ LI (bV ["Window"] "full" aL) (aC bS a0))) [aE s,aA o] Ω=dR [aE s,aA o] (Ω.set s (.ins "Window" (putD "full" (.lst (r.map aI)) (wF L b k n ((p::r).map aI) (ns.map A.int))))):=by
   refine Ay (c := .lst ((p::r).map aI)) (c' := .lst (r.map aI)) rfl h' HS rfl ?_ rfl (.inr (SD _ _)) (fun j d hj => .inl hj);have yK:=EW (cls := "Window") (f := "full") (fs:=wF L b k n ((p::r).map aI) (ns.map A.int)) (c := .lst ((p::r).map aI)) hs;have wL:=EX (Ω:=Ω) (s:=s) (cls := "Window") (f := "full") (fs:=wF L b k n ((p::r).map aI) (ns.map A.int)) (c := .lst ((p::r).map aI));have BI:(eQ Ω s "Window" "full" (wF L b k n ((p::r).map aI) (ns.map A.int)) (.lst ((p::r).map aI))).set Ω.length (.lst (r.map aI))=eQ Ω s "Window" "full" (wF L b k n ((p::r).map aI) (ns.map A.int)) (.lst (r.map aI)):=Aw _;generalize eQ Ω s "Window" "full" (wF L b k n ((p::r).map aI) (ns.map A.int)) (.lst ((p::r).map aI))=Ω1 at *;have g1:=pY (ρ:=[aE s,aA o]) (f := "full") (a := .aD Ω.length) rfl yK rfl;have il:pI Ω1 (.aD Ω.length):=tE (iJ wL);have cl:lS Ω1 (.aD Ω.length)=some (Ω.length,(p::r).map aI):=tO wL;have e:(jZ LI (bV ["Window"] "full" aL) (aC bS a0)) [aE s,aA o] Ω1=aM (aI p) (eQ Ω s "Window" "full" (wF L b k n ((p::r).map aI) (ns.map A.int)) (.lst (r.map aI))):=by
    unfold jZ;rw [cE g1,← BI];simp only [il,fW];rw [dH]at cl;simp [cl]
   unfold hX;rw [kU e]
  unfold eV;rw [kU tt];simp only [fW];rw [hl];simp only [QI];exact XH (by simp)
 ·rw [if_neg ho];rw [sI ho]at tt;rw [QW tt];simp only [QI];exact rR
end
theorem aiA{Ω:aF}{s N:Nat}{X Y Z:Cell}(hN:N≠s)(h:Ω[s]? = some Z):((Ω.set s X).set N Y).set s Z=Ω.set N Y:=by
 have hs:s<Ω.length:=(dI.mp h).1;apply UO;intro j
 by_cases hj:s=j
 ·subst hj;rw [eT (by simpa using hs),dZ hN,h]
 ·rw [dZ hj]
  by_cases sD:N=j
  ·subst sD
   by_cases hl:N<Ω.length
   ·rw [eT (by simpa using hl),eT hl]
   ·rw [List.getElem?_eq_none (by simp;omega),List.getElem?_eq_none (by simp;omega)]
  ·rw [dZ sD,dZ hj,dZ sD]
section
variable{Ω:aF}{s:Nat}{L b k n:Int}{ps:List Po}{ns:List Int}
def bO(k:Int)(ns:List Int):Po:=Mn k (kW (unit ns))
theorem atB(h:pZ Ω s L b k n ps ns)(hl:ns.length≤63)(hk:1≤k)(kY:k<1000000)(hp:ps.length≤1000)(x:Int) :
  oK 0 "full" (oK 0 "newest" (hX (jZ nB (bV ["Window"] "full" aL) (aC (aN (bN 2 uW) (aC (aN (bN 1 qG) (aC (bV ["Window"] "newest" aL) a0)) (aC (bV ["Window"] "keep" aL) a0))) a0)))) [aE s,aA x] Ω
   = dR [aE s,aA x] (Ω.set s (.ins "Window" (wF L b k n ((ps++[bO k ns]).map aI) (ns.map A.int)))):=by
 have hs:=h.lt;have h':Ω[s]? = some (.ins "Window" (wF L b k n (ps.map aI) (ns.map A.int))):=h;have key:oK 0 "newest" (hX (jZ nB (bV ["Window"] "full" aL) (aC (aN (bN 2 uW) (aC (aN (bN 1 qG) (aC (bV ["Window"] "newest" aL) a0)) (aC (bV ["Window"] "keep" aL) a0))) a0))) [aE s,aA x] (eQ Ω s "Window" "full" (wF L b k n (ps.map aI) (ns.map A.int)) (.lst (ps.map aI)))
   = dR [aE s,aA x] (eQ Ω s "Window" "full" (wF L b k n (ps.map aI) (ns.map A.int)) (.lst ((ps++[bO k ns]).map aI))):=by
  have ho:=EW (cls := "Window") (f := "full") (fs:=wF L b k n (ps.map aI) (ns.map A.int)) (c := .lst (ps.map aI)) hs;have hn:=EX (Ω:=Ω) (s:=s) (cls := "Window") (f := "full") (fs:=wF L b k n (ps.map aI) (ns.map A.int)) (c := .lst (ps.map aI));have hlen:(eQ Ω s "Window" "full" (wF L b k n (ps.map aI) (ns.map A.int)) (.lst (ps.map aI))).length=Ω.length+1:=by simp
  have BI:(eQ Ω s "Window" "full" (wF L b k n (ps.map aI) (ns.map A.int)) (.lst (ps.map aI))).set Ω.length (.lst ((ps++[bO k ns]).map aI))=eQ Ω s "Window" "full" (wF L b k n (ps.map aI) (ns.map A.int)) (.lst ((ps++[bO k ns]).map aI)):=Aw _;rw [← BI];generalize eQ Ω s "Window" "full" (wF L b k n (ps.map aI) (ns.map A.int)) (.lst (ps.map aI))=ΩA at *;generalize RA:putD ("full" : Str) (Fd.val (.aD Ω.length)) (wF L b k n (ps.map aI) (ns.map A.int))=oS at ho;have Ro:oS.lookup ("newest" : Str)=some (.lst (ns.map A.int)):=by rw [← RA];rfl
  have Sy:s<ΩA.length:=by omega
  have eW:Ω.length≠s:=by omega
  have Dd:=EW (cls := "Window") (f := "newest") (fs:=oS) (c := .lst (ns.map A.int)) Sy;have Tb:=EX (Ω:=ΩA) (s:=s) (cls := "Window") (f := "newest") (fs:=oS) (c := .lst (ns.map A.int));have Tc:(eQ ΩA s "Window" "newest" oS (.lst (ns.map A.int)))[Ω.length]? = some (.lst (ps.map aI)):=by
   rw [jL (by simp;omega),dZ (cQ eW)];exact hn
  have lB:(eQ ΩA s "Window" "newest" oS (.lst (ns.map A.int)))=ΩA.set s (.ins "Window" (putD "newest" (.val (.aD ΩA.length)) oS))++[.lst (ns.map A.int)]:=rfl;refine Of (r:=(.nx,[aE s,aA x],ΩA.set Ω.length (.lst ((ps++[bO k ns]).map aI)))) ⟨s, "Window",oS,.lst (ns.map A.int),.lst (ns.map A.int),(ΩA.set s (.ins "Window" (putD "newest" (.val (.aD ΩA.length)) oS))).set Ω.length (.lst ((ps++[bO k ns]).map aI)),.lst (ns.map A.int),.lst (ns.map A.int),rfl,ho,Ro,rfl,?_,by simp,?_,rfl,fun j c hj hc=>?_,.inl rfl,fun j d hj => .inl hj,rfl,?_⟩
  ·
   have fA:(putD ("newest" : Str) (Fd.val (.aD ΩA.length)) oS).lookup ("full" : Str)=some (.val (.aD Ω.length)):=by rw [← RA];rfl
   have fB:(putD ("newest" : Str) (Fd.val (.aD ΩA.length)) oS).lookup ("newest" : Str)=some (.val (.aD ΩA.length)):=by rw [← RA];rfl
   have fC:(putD ("newest" : Str) (Fd.val (.aD ΩA.length)) oS).lookup ("keep" : Str)=some (.val (.int k)):=by rw [← RA];rfl
   have aqA:(eQ ΩA s "Window" "newest" oS (.lst (ns.map A.int))).set Ω.length (.lst ((ps++[bO k ns]).map aI))=(ΩA.set s (.ins "Window" (putD "newest" (.val (.aD ΩA.length)) oS))).set Ω.length (.lst ((ps++[bO k ns]).map aI))++[.lst (ns.map A.int)]:=by
    rw [lB,List.set_append_left _ _ (by simp;omega)]
   rw [← aqA];generalize eQ ΩA s "Window" "newest" oS (.lst (ns.map A.int))=ΩB at *;have g1:=pY (ρ:=[aE s,aA x]) (f := "full") rfl Dd fA;have g2:=pY (ρ:=[aE s,aA x]) (f := "newest") rfl Dd fB;have g3:=pY (ρ:=[aE s,aA x]) (f := "keep") rfl Dd fC;have hNB:ΩA.length<ΩB.length:=(dI.mp Tb).1;have po:=Zl ns hl (.aD ΩA.length) ΩB (fun Δ=>by
    show cK (ΩB++Δ) (.aD ΩA.length)=_;exact iJ (by rw [jL hNB];exact Tb))
   have gd:=LH (xT ns);have ol:=Ac (cO (unit ns)) 0 (fun r hr=>XI (xT ns) hr);rw [NZ,AA]at ol;have th:=axG (kW (unit ns)).s (kW (unit ns)).l (kW (unit ns)).d (kW (unit ns)).es k ΩB hk kY (by show(gS 0 (cO (unit ns))).length≤100000;omega);have il:pI ΩB (.aD Ω.length):=tE (iJ Tc);have cl:lS ΩB (.aD Ω.length)=some (Ω.length,ps.map aI):=tO Tc;have e1:(aN (bN 1 qG) (aC (bV ["Window"] "newest" aL) a0)) [aE s,aA x] ΩB=aM (aI (kW (unit ns))) ΩB:=by
    have a1:(aC (bV ["Window"] "newest" aL) a0) [aE s,aA x] ΩB=aM [.aD ΩA.length] ΩB:=gM g2 iL;rw [aN,cE a1];simp [bN,po]
   have e2:(aN (bN 2 uW) (aC (aN (bN 1 qG) (aC (bV ["Window"] "newest" aL) a0)) (aC (bV ["Window"] "keep" aL) a0))) [aE s,aA x] ΩB=aM (aI (bO k ns)) ΩB:=RT e1 g3 th;have hz:(ps.map aI).length<sizeLine:=by rw [kQ,mG];omega
   have e3:(jZ nB (bV ["Window"] "full" aL) (aC (aN (bN 2 uW) (aC (aN (bN 1 qG) (aC (bV ["Window"] "newest" aL) a0)) (aC (bV ["Window"] "keep" aL) a0))) a0)) [aE s,aA x] ΩB=aM (.bR) (ΩB.set Ω.length (.lst ((ps++[bO k ns]).map aI))):=by
    have ar:(aC (aN (bN 2 uW) (aC (aN (bN 1 qG) (aC (bV ["Window"] "newest" aL) a0)) (aC (bV ["Window"] "keep" aL) a0))) a0) [aE s,aA x] ΩB=aM [aI (bO k ns)] ΩB:=gM e2 iL;unfold jZ;rw [cE g1];simp only [il,fW];rw [cE ar];have em:(ps++[bO k ns]).map aI=ps.map aI++[aI (bO k ns)]:=by simp
    rw [em];generalize ps.map aI=fl at cl hz;simp [cl,hz]
   unfold hX;rw [kU e3]
  ·rw [dZ eW,eT Sy]
  ·by_cases sD:j=Ω.length
   ·subst sD;rw [eT (by simp;omega)]at hc;cases hc;exact .inr (SD _ _)
   ·rw [dZ (cQ sD),dZ (cQ hj)]at hc;exact .inl hc
  ·show ΩA.set Ω.length _=_;have pf:putD ("newest" : Str) (Fd.lst (ns.map A.int)) oS=oS:=QH Ro;rw [pf];exact(aiA eW ho).symm
 have e:=Ay (i:=0) (f := "full") (c := .lst (ps.map aI)) (c' := .lst ((ps++[bO k ns]).map aI)) (fd' := .lst ((ps++[bO k ns]).map aI)) rfl h' HS rfl key rfl (.inr (SD _ _)) (fun j d hj => .inl hj);rw [aaQ]at e;exact e
end
def lL(b k:Int)(ps:List Po)(ns:List Int)(x:Int):List Po:=if(ns.length:Int)+1=b then ps++[bO k (ns++[x])]else ps
def iI(b:Int)(ns:List Int)(x:Int):List Int:=if(ns.length:Int)+1=b then []else ns++[x]
def AL(L b k:Int)(ps:List Po)(ns:List Int)(x:Int):List Po:=if L≤(((lL b k ps ns x).length:Int) - 1)*b+(iI b ns x).length then(lL b k ps ns x).tail else lL b k ps ns x
theorem axB{Ω:aF}{s:Nat}{L b k n:Int}{ps:List Po}{ns:List Int}(h:pZ Ω s L b k n ps ns)(hL:1≤L)(Dy:b≤63)(hn:(ns.length:Int)+1≤b)(hk:1≤k)(kY:k<1000000)(hp:ps.length≤900)(x:Int) :
  uY [.aD s,.int x] Ω=aM (.bR) (Ω.set s (.ins "Window" (wF L b k (n+1) ((AL L b k ps ns x).map aI) ((iI b ns x).map A.int)))):=by
 have hs:=h.lt;have h':Ω[s]? = some (.ins "Window" (wF L b k n (ps.map aI) (ns.map A.int))):=h;show trim Ω (gC (TM [aE s,aA x] Ω))=_;have e1:(sV ["Window"] "many" aL (aB bX (bV ["Window"] "many" aL) bL)) [aE s,aA x] Ω=dR [aE s,aA x] (Ω.set s (.ins "Window" (wF L b k (n+1) (ps.map aI) (ns.map A.int)))):=by
  have g:=pY (ρ:=[aE s,aA x]) (f := "many") rfl h' Lf;have l3:(aB bX (bV ["Window"] "many" aL) bL) [aE s,aA x] Ω=aM (.int (n+1)) Ω:=by
   rw [aB,cE g];simp
  unfold sV;rw [kU l3];rw [kU (x:=A.aD s) (Ω':=Ω) (by simp)];simp only [h'];rw [if_pos ⟨by simp,by simp [wF]⟩,aaP]
 have o1:(Ω.set s (.ins "Window" (wF L b k (n+1) (ps.map aI) (ns.map A.int))))[s]? = some (.ins "Window" (wF L b k (n+1) (ps.map aI) (ns.map A.int))):=eT hs;have e2:(hX (DV ["Window"] 0 "newest" bJ)) [aE s,aA x] (Ω.set s (.ins "Window" (wF L b k (n+1) (ps.map aI) (ns.map A.int))))=dR [aE s,aA x] (Ω.set s (.ins "Window" (wF L b k (n+1) (ps.map aI) ((ns++[x]).map A.int)))):=by
  have ow:=Pz (cs:=["Window"]) (f := "newest") (i:=0) (ρ:=[aE s,aA x]) (fd := .lst (ns.map A.int)) rfl o1 (by simp) NY;have hz:(ns.map A.int).length<sizeLine:=by rw [kQ,mG];omega
  have v1:bJ [aE s,aA x] (Ω.set s (.ins "Window" (wF L b k (n+1) (ps.map aI) (ns.map A.int))))=aM (.int x) (Ω.set s (.ins "Window" (wF L b k (n+1) (ps.map aI) (ns.map A.int)))):=rfl;have e:(DV ["Window"] 0 "newest" bJ) [aE s,aA x] (Ω.set s (.ins "Window" (wF L b k (n+1) (ps.map aI) (ns.map A.int))))=aM (.bR) (Ω.set s (.ins "Window" (wF L b k (n+1) (ps.map aI) ((ns++[x]).map A.int)))):=by
   unfold DV;rw [ow];simp only [v1];rw [if_pos hz,zH,VQ];simp
  unfold hX;rw [kU e]
 have h2:pZ (Ω.set s (.ins "Window" (wF L b k (n+1) (ps.map aI) ((ns++[x]).map A.int)))) s L b k (n+1) ps (ns++[x]):=eT hs;have ln:(ns++[x]).length=ns.length+1:=by simp
 have e3:(eV (bY (aB iA (mS ["Window"] 0 "newest") (bV ["Window"] "block" aL)))
   (aV (oK 0 "full" (oK 0 "newest" (hX (jZ nB (bV ["Window"] "full" aL) (aC (aN (bN 2 uW) (aC (aN (bN 1 qG) (aC (bV ["Window"] "newest" aL) a0)) (aC (bV ["Window"] "keep" aL) a0))) a0)))))
   (uA ["Window"] 0 "newest" (gL true a0)))
   gB) [aE s,aA x] (Ω.set s (.ins "Window" (wF L b k (n+1) (ps.map aI) ((ns++[x]).map A.int))))=dR [aE s,aA x] (Ω.set s (.ins "Window" (wF L b k (n+1) ((lL b k ps ns x).map aI) ((iI b ns x).map A.int)))):=by
  have g1:=RS (ρ:=[aE s,aA x]) (f := "newest") rfl h2 NY;have g2:=pY (ρ:=[aE s,aA x]) (f := "block") rfl h2 VY;have l2:((ns++[x]).map A.int).length=ns.length+1:=by simp
  rw [l2]at g1;have tt:(bY (aB iA (mS ["Window"] 0 "newest") (bV ["Window"] "block" aL))) [aE s,aA x] (Ω.set s (.ins "Window" (wF L b k (n+1) (ps.map aI) ((ns++[x]).map A.int))))=aM (((ns.length+1:Nat):Int) == b) (Ω.set s (.ins "Window" (wF L b k (n+1) (ps.map aI) ((ns++[x]).map A.int)))):=by
   have e:(aB iA (mS ["Window"] 0 "newest") (bV ["Window"] "block" aL)) [aE s,aA x] (Ω.set s (.ins "Window" (wF L b k (n+1) (ps.map aI) ((ns++[x]).map A.int))))=aM (.bl (((ns.length+1:Nat):Int) == b)) (Ω.set s (.ins "Window" (wF L b k (n+1) (ps.map aI) ((ns++[x]).map A.int)))):=by
    rw [aB,cE g1,cE g2,as5]
   unfold bY;rw [cE e];simp
  by_cases hq:(ns.length:Int)+1=b
  ·have hb:(((ns.length+1:Nat):Int) == b)=true:=by simp;omega
   rw [hb]at tt;have fs:=atB h2 (by rw [ln];omega) hk kY (by omega) x;rw [zH]at fs;have o3:(Ω.set s (.ins "Window" (wF L b k (n+1) ((ps++[bO k (ns++[x])]).map aI) ((ns++[x]).map A.int))))[s]? = some (.ins "Window" (wF L b k (n+1) ((ps++[bO k (ns++[x])]).map aI) ((ns++[x]).map A.int))):=eT hs;have ob:vV ["Window"] 0 [aE s,aA x] (Ω.set s (.ins "Window" (wF L b k (n+1) ((ps++[bO k (ns++[x])]).map aI) ((ns++[x]).map A.int))))=some (s,("Window" : Str),wF L b k (n+1) ((ps++[bO k (ns++[x])]).map aI) ((ns++[x]).map A.int)):=by
    simp only [vV,List.getElem?_cons_zero,Option.join_some,o3];simp
   have fn:(uA ["Window"] 0 "newest" (gL true a0)) [aE s,aA x] (Ω.set s (.ins "Window" (wF L b k (n+1) ((ps++[bO k (ns++[x])]).map aI) ((ns++[x]).map A.int))))=dR [aE s,aA x] (Ω.set s (.ins "Window" (wF L b k (n+1) ((ps++[bO k (ns++[x])]).map aI) []))):=by
    have cf:∀n,mQ n (.lst []):=fun n=>by simp [mQ,fH]
    have lw:(wF L b k (n+1) ((ps++[bO k (ns++[x])]).map aI) ((ns++[x]).map A.int)).length<1000:=by simp [wF]
    have pw:=VQ (L:=L) (b:=b) (k:=k) (n:=n+1) (fl:=(ps++[bO k (ns++[x])]).map aI) (nw:=(ns++[x]).map A.int) (gl:=[]);simp only [uA,ob];generalize wF L b k (n+1) ((ps++[bO k (ns++[x])]).map aI) ((ns++[x]).map A.int)=fs1 at lw pw;simp [nO,Fd.AQ,cf,lw,pw]
   unfold eV;rw [kU tt];simp only [fW];rw [bM fs,fn];simp only [lL,iI,if_pos hq,GZ]
  ·have hb:(((ns.length+1:Nat):Int) == b)=false:=by simp;omega
   rw [hb]at tt;rw [QW tt];simp only [lL,iI,if_neg hq]
 have h4:pZ (Ω.set s (.ins "Window" (wF L b k (n+1) ((lL b k ps ns x).map aI) ((iI b ns x).map A.int)))) s L b k (n+1) (lL b k ps ns x) (iI b ns x):=eT hs;have iY:(lL b k ps ns x).length≤1000:=by
  unfold lL;split
  ·simp;omega
  ·omega
 have wL:((iI b ns x).length:Int)≤b:=by
  unfold iI;split
  ·simp;omega
  ·simp;omega
 have dr:=axD h4 (by omega) (by omega) iY (fun hh z=>by
  rw [z]at hh;simp at hh;omega)
 have e:TM [aE s,aA x] Ω=dR [aE s,aA x] (Ω.set s (.ins "Window" (wF L b k (n+1) ((AL L b k ps ns x).map aI) ((iI b ns x).map A.int)))):=by
  unfold TM;rw [bM e1,bM e2,bM e3];have ex:(if L≤(((lL b k ps ns x).length:Int) - 1)*b+(iI b ns x).length then(Ω.set s (.ins "Window" (wF L b k (n+1) ((lL b k ps ns x).map aI) ((iI b ns x).map A.int)))).set s (.ins "Window" (wF L b k (n+1) ((lL b k ps ns x).tail.map aI) ((iI b ns x).map A.int)))else Ω.set s (.ins "Window" (wF L b k (n+1) ((lL b k ps ns x).map aI) ((iI b ns x).map A.int))))=Ω.set s (.ins "Window" (wF L b k (n+1) ((AL L b k ps ns x).map aI) ((iI b ns x).map A.int))):=by
   unfold AL;split
   ·rw [zH]
   ·rfl
  rw [ex]at dr;have ob:(Ω.set s (.ins "Window" (wF L b k (n+1) ((lL b k ps ns x).map aI) ((iI b ns x).map A.int))))[s]? = _:=h4;have lk:(wF L b k (n+1) ((lL b k ps ns x).map aI) ((iI b ns x).map A.int)).lookup ("drop_oldest" : Str)=none:=rfl;generalize Ω.set s (.ins "Window" (wF L b k (n+1) ((lL b k ps ns x).map aI) ((iI b ns x).map A.int)))=Ω4 at dr ob;generalize wF L b k (n+1) ((lL b k ps ns x).map aI) ((iI b ns x).map A.int)=fs4 at ob lk;have call:(dE "drop_oldest" [("Window",dD 1 [] NT)] aL a0) [aE s,aA x] Ω4=aM (.bR) (Ω.set s (.ins "Window" (wF L b k (n+1) ((AL L b k ps ns x).map aI) ((iI b ns x).map A.int)))):=by
   simp [dD,ob,lk,dr,List.lookup]
  unfold hX;rw [kU call]
 rw [e];simp only [QI];exact XH (by simp)
structure WI(L b:Int)(aK:List Int)(bs:List (List Int))(ns:List Int):Prop where
 len:∀B∈bs,(B.length:Int)=b
 nC:(ns.length:Int)<b
 dr:∃D,aK=D++bs.flatten++ns∧(D=[]∨L≤(bs.length:Int)*b+ns.length)
 top:((bs.length:Int) - 1)*b+ns.length<L
def tP(b:Int)(bs:List (List Int))(ns:List Int)(x:Int):List (List Int):=if(ns.length:Int)+1=b then bs++[ns++[x]]else bs
def GK(L b:Int)(bs:List (List Int))(ns:List Int)(x:Int):List (List Int):=if L≤(((tP b bs ns x).length:Int) - 1)*b+(iI b ns x).length then(tP b bs ns x).tail else tP b bs ns x
theorem aj4(b k:Int)(bs:List (List Int))(ns:List Int)(x:Int):lL b k (bs.map (bO k)) ns x=(tP b bs ns x).map (bO k):=by
 unfold lL tP;split <;> simp
theorem aj3(L b k:Int)(bs:List (List Int))(ns:List Int)(x:Int):AL L b k (bs.map (bO k)) ns x=(GK L b bs ns x).map (bO k):=by
 unfold AL GK;rw [aj4,kQ];split
 ·rw [List.map_tail]
 ·rfl
theorem Lg{L b:Int}(hL:1≤L)(hb:1≤b):WI L b [] [] []:=⟨fun _ h=>by simp at h,by simp;omega,⟨[],rfl,.inl rfl⟩,by simp;omega⟩
theorem WI.put{L b:Int}{aK:List Int}{bs:List (List Int)}{ns:List Int}(h:WI L b aK bs ns)(hL:1≤L)(hb:1≤b)(x:Int):WI L b (aK++[x]) (GK L b bs ns x) (iI b ns x):=by
 obtain⟨len,nC,⟨D,hD,hd⟩,top⟩:=h;have em:((bs.length:Int) - 1)*b=(bs.length:Int)*b - b:=by rw [Int.sub_mul];omega
 rw [em]at top
 by_cases hq:(ns.length:Int)+1=b
 ·have e2:tP b bs ns x=bs++[ns++[x]]:=by simp [tP,hq]
  have e3:iI b ns x=[]:=by simp [iI,hq]
  have eo:(((tP b bs ns x).length:Int) - 1)*b+(iI b ns x).length=(bs.length:Int)*b:=by
   rw [e2,e3];simp
  have KO:aK++[x]=D++(bs++[ns++[x]]).flatten++[]:=by rw [hD];simp
  have Rx:∀B∈bs++[ns++[x]],(B.length:Int)=b:=fun B hB=>by
   rcases oZ.mp hB with z | z
   ·exact len B z
   ·simp at z;rw [z];simp;omega
  unfold GK;rw [eo,e2,e3]
  by_cases hp:L≤(bs.length:Int)*b
  ·rw [if_pos hp];cases bs with
   | nil =>
    simp at hp;omega
   | cons B r =>
    refine⟨fun C hC=>Rx C (by simp at hC ⊢;exact .inr hC),by simp;omega,⟨D++B,by rw [KO];simp,.inr ?_⟩,?_⟩
    ·have:(((B::r)++[ns++[x]]).tail.length:Int)=((B::r).length:Int):=by simp
     rw [this];simp only [xC];omega
    ·have e4:(((B::r)++[ns++[x]]).tail.length:Int) - 1=((B::r).length:Int) - 1:=by simp
     rw [e4,em];simp only [xC];omega
  ·rw [if_neg hp];refine⟨Rx,by simp;omega,⟨D,KO,?_⟩,?_⟩
   ·rcases hd with z | z
    ·exact .inl z
    ·refine .inr ?_;have:((bs++[ns++[x]]).length:Int)*b=(bs.length:Int)*b+b:=by simp [zM]
     rw [this];simp only [xC];omega
   ·have:(((bs++[ns++[x]]).length:Int) - 1)*b=(bs.length:Int)*b:=by simp
    rw [this];simp only [xC];omega
 ·have e2:tP b bs ns x=bs:=by simp [tP,hq]
  have e3:iI b ns x=ns++[x]:=by simp [iI,hq]
  have eo:(((tP b bs ns x).length:Int) - 1)*b+(iI b ns x).length=(bs.length:Int)*b - b+(ns.length+1):=by
   rw [e2,e3,em];simp
  have KO:aK++[x]=D++bs.flatten++(ns++[x]):=by rw [hD];simp
  have ln:((ns++[x]).length:Int)=(ns.length:Int)+1:=by simp
  unfold GK;rw [eo,e2,e3]
  by_cases hp:L≤(bs.length:Int)*b - b+(ns.length+1)
  ·rw [if_pos hp];cases bs with
   | nil =>
    simp at hp;omega
   | cons B r =>
    have e5:(((B::r).tail.length:Int))*b=((B::r).length:Int)*b - b:=by simp [zM]
    refine⟨fun C hC=>len C (by simp at hC ⊢;exact .inr hC),by rw [ln];omega,⟨D++B,by rw [KO];simp,.inr ?_⟩,?_⟩
    ·rw [e5,ln];omega
    ·rw [Int.sub_mul,e5,ln];omega
  ·rw [if_neg hp];refine⟨len,by rw [ln];omega,⟨D,KO,?_⟩,?_⟩
   ·rcases hd with z | z
    ·exact .inl z
    ·exact .inr (by rw [ln];omega)
   ·rw [em,ln];omega
theorem Fx{b:Int}:∀{bs:List (List Int)},(∀B∈bs,(B.length:Int)=b)→((bs.flatten).length:Int)=(bs.length:Int)*b
 | [],_=>by simp
 | B::r,h=>by
  have ih:=Fx (bs:=r) fun C hC=>h C (by simp [hC]);have h1:=h B (by simp);have:((B::r).length:Int)*b=(r.length:Int)*b+b:=by simp [zM]
  rw [this,NJ,kF];push_cast;omega
theorem WI.RO{L b:Int}{aK:List Int}{bs:List (List Int)}{ns:List Int}(h:WI L b aK bs ns)(hb:1≤b)(hL:L≤40):bs.length≤41:=by
 have t:=h.top
 rcases UG 41 bs.length with z | z
 ·exfalso;have h1:(41:Int)≤(bs.length:Int) - 1:=by omega
  have h2:((bs.length:Int) - 1)*1≤((bs.length:Int) - 1)*b:=Int.mul_le_mul_of_nonneg_left hb (by omega);omega
 ·exact z
structure Taken(b:Int)(aK:List Int)(bs:List (List Int))(ns:List Int)(last:Int)(q:Nat)(nl:List Int):Prop where
 Ah:nl=ns.drop (ns.length - last.toNat)
 ai8:(last - nl.length+b - 1)/b=q
 ZV:q≤bs.length
 xU:∃Y,aK=Y++((bs.drop (bs.length - q)).flatten++nl)
 many:((bs.drop (bs.length - q)).flatten.length:Int)=q*b
 Ge:last≤q*b+nl.length
 over:q*b+nl.length≤last+b - 1
theorem taken{L b:Int}{aK:List Int}{bs:List (List Int)}{ns:List Int}(h:WI L b aK bs ns)(hb:1≤b)(last:Int)(h1:1≤last)(h2:last≤L)(h3:last≤aK.length):∃q nl,Taken b aK bs ns last q nl:=by
 obtain⟨len,nC,⟨D,hD,hd⟩,top⟩:=h;have fl:=Fx len;have hh:(aK.length:Int)=D.length+(bs.length:Int)*b+ns.length:=by
  rw [hD,kF,kF];push_cast;omega
 have hT:last≤(bs.length:Int)*b+ns.length:=by
  rcases hd with z | z
  ·rw [z]at hh;simp at hh;omega
  ·omega
 by_cases hc:last≤ns.length
 ·have el:(ns.drop (ns.length - last.toNat)).length=last.toNat:=by simp;omega
  refine⟨0,ns.drop (ns.length - last.toNat),rfl,?_,CW _,?_,by simp,by rw [el];simp;omega,by rw [el];simp;omega⟩
  ·rw [el];have:last - (last.toNat:Int)+b - 1=b - 1:=by omega
   rw [this];exact Int.ediv_eq_zero_of_lt (by omega) (by omega)
  ·refine⟨D++bs.flatten++ns.take (ns.length - last.toNat),?_⟩;rw [hD];simp [Jh]
 ·have e0:ns.length - last.toNat=0:=by omega
  have en:ns.drop (ns.length - last.toNat)=ns:=by rw [e0];rfl
  obtain⟨q,hq⟩:=HF (show 0≤(last - ns.length+b - 1)/b from UY (by omega) (by omega));have uI:(last - ns.length+b - 1)/b=(q:Int):=hq;have d1:=Int.mul_ediv_self_le (x:=last - ns.length+b - 1) (k:=b) (by omega);have d2:=Zx (x:=last - ns.length+b - 1) (k:=b) (by omega);rw [uI,Int.mul_comm]at d1 d2;have hle:q≤bs.length:=by
   rcases UG bs.length q with z | z
   ·exfalso;have h4:((bs.length:Int)+1)*b≤(q:Int)*b:=UX (by omega) (by omega);rw [zM]at h4;omega
   ·exact z
  have lend:(bs.drop (bs.length - q)).length=q:=by simp;omega
  have Vp:=Fx (bs:=bs.drop (bs.length - q)) fun B hB=>len B (Jj hB);rw [lend]at Vp;refine⟨q,ns,en.symm,uI,hle,?_,Vp,by omega,by omega⟩;refine⟨D++(bs.take (bs.length - q)).flatten,?_⟩;rw [hD]
  conv=>lhs;rw [← Jh (bs.length - q) bs,List.flatten_append]
  simp
section
variable{Ω:aF}{s:Nat}{L b k n:Int}{ps:List Po}{ns:List Int}
def oO(L n:Int):A→Option Int
 | .bR=>some (min L n)
 | .int v=>some v
 | _=>none
theorem Je(h:pZ Ω s L b k n ps ns)(a:A)(v:Int)(ha:oO L n a=some v):xI [.aD s,a] Ω=if v<1∨min L n<v then some (.exc ⟨"NoPlace",[]⟩,Ω)else some (.ok (.int v),Ω):=by
 have h':Ω[s]? = some (.ins "Window" (wF L b k n (ps.map aI) (ns.map A.int))):=h;show trim Ω (gC (Hx [aE s,some a,none] Ω))=_;have g1:=pY (ρ:=[aE s,some a,none]) (f := "reach") rfl h' Le;have g2:=pY (ρ:=[aE s,some a,none]) (f := "many") rfl h' Lf;have e1:(bK (aN uL (aC (bV ["Window"] "reach" aL) (aC (bV ["Window"] "many" aL) a0))) (gN 2)) [aE s,some a,none] Ω=dR [aE s,some a,aA (min L n)] Ω:=by
  have a1:(aC (bV ["Window"] "reach" aL) (aC (bV ["Window"] "many" aL) a0)) [aE s,some a,none] Ω=aM [.int L,.int n] Ω:=gM g1 (gM g2 iL);have e:(aN uL (aC (bV ["Window"] "reach" aL) (aC (bV ["Window"] "many" aL) a0))) [aE s,some a,none] Ω=aM (.int (min L n)) Ω:=by
   rw [aN,cE a1];simp
  unfold bK;rw [kU e];simp
 have e2:(eV (bY (aB (LJ false) bJ cN)) (bK bB (gN 1)) gB) [aE s,some a,aA (min L n)] Ω=dR [aE s,aA v,aA (min L n)] Ω:=by
  cases a with
  | bR=>simp [oO]at ha;subst ha;simp [sC]
  | int i=>simp [oO]at ha;subst ha;simp [sC]
  | _=>simp [oO]at ha
 unfold Hx;rw [bM e1,bM e2];have h1:(1:Nat)≤sizeLine:=by decide
 generalize min L n=m
 by_cases hc:v<1∨m<v
 ·rw [if_pos hc];have e3:(eV (oG (bY (aB mI bJ bL)) (bY (aB yS bJ bB))) (vQ "NoPlace" (aC (cS "last goes from 1 to the length and to how many were put in") a0)) gB) [aE s,aA v,aA m] Ω=some (.exc ⟨"NoPlace",[]⟩,[aE s,aA v,aA m],Ω):=by
   by_cases h3:v<1
   ·simp [h3,h1]
   ·have h4:m<v:=hc.resolve_left h3;simp [h3,h4,h1]
  have:aV (eV (oG (bY (aB mI bJ bL)) (bY (aB yS bJ bB))) (vQ "NoPlace" (aC (cS "last goes from 1 to the length and to how many were put in") a0)) gB) (cX bJ) [aE s,aA v,aA m] Ω=some (.exc ⟨"NoPlace",[]⟩,[aE s,aA v,aA m],Ω):=by
   unfold aV;rw [e3]
  rw [this];simp only [gC,trim];split <;> rfl
 ·rw [if_neg hc];have h3:¬v<1:=fun z=>hc (.inl z);have h4:¬m<v:=fun z=>hc (.inr z);rw [bM (ρ1:=[aE s,aA v,aA m]) (Ω':=Ω) (by simp [h3,h4])];simp
theorem avH(ds:List A)(v:Int)(h1:1≤v):nF ds (some (-v)) none=ds.drop (ds.length - v.toNat):=by
 unfold nF;have e:HT.cR ds.length 0 (some (-v))=ds.length - v.toNat:=by
  show(if -v<0 then(-v+(ds.length:Int)).toNat else _)=_;rw [if_pos (by omega)];omega
 rw [HT.PX,e,NF (by simp)]
def bH(k:Int)(bs:List (List Int))(q:Nat)(nl:List Int):List Po:=(bs.drop (bs.length - q)).map (bO k)++[kW (unit nl)]
theorem axK{aK:List Int}{bs:List (List Int)}{q:Nat}{nl:List Int}{last:Int}(h:pZ Ω s L b k n (bs.map (bO k)) ns)(hb:1≤b)(Dy:b≤63)(hf:(ns.length:Int)<b)(hbs:bs.length≤1000)(h1:1≤last)(T:Taken b aK bs ns last q nl) :
  uZ [.aD s,.int last] Ω=aM (.lst ((bH k bs q nl).map aI)) Ω:=by
 have hs:=h.lt;have h':Ω[s]? = some (.ins "Window" (wF L b k n ((bs.map (bO k)).map aI) (ns.map A.int))):=h;show trim Ω (gC (TN [aE s,aA last,none,none] Ω))=_;have nle:nl.length≤ns.length:=by rw [T.Ah];simp
 have e1:oK 0 "newest" (bK (mR false (bV ["Window"] "newest" aL) (lJ (HW bJ)) pD) (gN 2)) [aE s,aA last,none,none] Ω=dR [aE s,aA last,aT (nl.map A.int),none] (Ω.set s (.ins "Window" (putD "newest" (.lst (ns.map A.int)) (wF L b k n ((bs.map (bO k)).map aI) (ns.map A.int))))):=by
  refine Ay (c := .lst (ns.map A.int)) (c' := .lst (ns.map A.int)) rfl h' NY rfl ?_ rfl (.inl rfl) (fun j d hj=>?_)
  ·have ho:=EW (cls := "Window") (f := "newest") (fs:=wF L b k n ((bs.map (bO k)).map aI) (ns.map A.int)) (c := .lst (ns.map A.int)) hs;have hn:=EX (Ω:=Ω) (s:=s) (cls := "Window") (f := "newest") (fs:=wF L b k n ((bs.map (bO k)).map aI) (ns.map A.int)) (c := .lst (ns.map A.int));generalize eQ Ω s "Window" "newest" (wF L b k n ((bs.map (bO k)).map aI) (ns.map A.int)) (.lst (ns.map A.int))=Ω1 at *;have g:=pY (ρ:=[aE s,aA last,none,none]) (f := "newest") (a := .aD Ω.length) rfl ho rfl;have li:cK Ω1 (.aD Ω.length)=some (ns.map A.int):=iJ hn;have ec:nF (ns.map A.int) (some (-last)) none=nl.map A.int:=by
    rw [avH _ _ h1,kQ,← Jl,← T.Ah]
   have e:(mR false (bV ["Window"] "newest" aL) (lJ (HW bJ)) pD) [aE s,aA last,none,none] Ω1=aM (.lst (nl.map A.int)) Ω1:=by
    rw [mR,cE g];simp [li,ec]
   unfold bK;rw [kU e];simp
  ·match j with
   | 0=>exact .inl hj
   | 1=>exact .inl hj
   | 2 =>
    simp at hj;subst hj;exact .inr (by simp only [Cl];exact Xa _ _)
   | 3=>simp at hj
   | j+4=>simp at hj
 rw [VQ]at e1;have eS:Ω.set s (.ins "Window" (wF L b k n ((bs.map (bO k)).map aI) (ns.map A.int)))=Ω:=by
  apply UO;intro j
  by_cases hj:s=j
  ·subst hj;rw [eT hs,h']
  ·rw [dZ hj]
 rw [eS]at e1;have dv:lH (last - nl.length+b - 1) b:=cdiv (by omega) (by omega);have e2:(bK (aB (jF) (aB (eO) (aB bX (aB (eO) bJ (aN dQ (aC bB a0))) (bV ["Window"] "block" aL)) bL) (bV ["Window"] "block" aL)) (gN 3)) [aE s,aA last,aT (nl.map A.int),none] Ω=dR [aE s,aA last,aT (nl.map A.int),aA q] Ω:=by
  have g:=pY (ρ:=[aE s,aA last,aT (nl.map A.int),none]) (f := "block") rfl h' VY;have si:dO Ω (.lst (nl.map A.int))=some (nl.map A.int):=rfl;have a1:(aB (eO) bJ (aN dQ (aC bB a0))) [aE s,aA last,aT (nl.map A.int),none] Ω=aM (.int (last - nl.length)) Ω:=by
   have hl:(nl.map A.int).length=nl.length:=by simp
   generalize nl.map A.int=us at si hl;simp [si,hl]
  have a2:(aB bX (aB (eO) bJ (aN dQ (aC bB a0))) (bV ["Window"] "block" aL)) [aE s,aA last,aT (nl.map A.int),none] Ω=aM (.int (last - nl.length+b)) Ω:=by
   rw [aB,cE a1,cE g];simp
  have a3:(aB (eO) (aB bX (aB (eO) bJ (aN dQ (aC bB a0))) (bV ["Window"] "block" aL)) bL) [aE s,aA last,aT (nl.map A.int),none] Ω=aM (.int (last - nl.length+b - 1)) Ω:=by
   rw [aB,cE a2];simp
  have a4:(aB (jF) (aB (eO) (aB bX (aB (eO) bJ (aN dQ (aC bB a0))) (bV ["Window"] "block" aL)) bL) (bV ["Window"] "block" aL)) [aE s,aA last,aT (nl.map A.int),none] Ω=aM (.int q) Ω:=by
   rw [aB,cE a3,cE g,← T.ai8];simp [dv]
  unfold bK;rw [kU a4];generalize nl.map A.int=us;simp
 have e3:vM 0 "full" (aB bX (mR false (bV ["Window"] "full" aL) (lJ (aB (eO) (aN dQ (aC (bV ["Window"] "full" aL) a0)) bZ)) pD) (gL false (aC (aN (bN 1 qG) (aC bB a0)) a0))) [aE s,aA last,aT (nl.map A.int),aA q] Ω=aM (.lst ((bH k bs q nl).map aI)) Ω:=by
  refine Ru (c := .lst ((bs.map (bO k)).map aI)) rfl h' HS rfl ?_ (by simp only [Cl];exact SD _ _);have ho:=EW (cls := "Window") (f := "full") (fs:=wF L b k n ((bs.map (bO k)).map aI) (ns.map A.int)) (c := .lst ((bs.map (bO k)).map aI)) hs;have hn:=EX (Ω:=Ω) (s:=s) (cls := "Window") (f := "full") (fs:=wF L b k n ((bs.map (bO k)).map aI) (ns.map A.int)) (c := .lst ((bs.map (bO k)).map aI));generalize eQ Ω s "Window" "full" (wF L b k n ((bs.map (bO k)).map aI) (ns.map A.int)) (.lst ((bs.map (bO k)).map aI))=Ω1 at *;generalize hρ:([aE s,aA last,aT (nl.map A.int),aA q]:Ev)=ρ;have r0:ρ[0]? = some (aE s):=by rw [← hρ];rfl
  have v2:bB ρ Ω1=aM (.lst (nl.map A.int)) Ω1:=by rw [← hρ];rfl
  have v3:bZ ρ Ω1=aM (.int q) Ω1:=by rw [← hρ];rfl
  have g:=pY (ρ:=ρ) (f := "full") (a := .aD Ω.length) r0 ho rfl;have li:cK Ω1 (.aD Ω.length)=some ((bs.map (bO k)).map aI):=iJ hn;have si:dO Ω1 (.aD Ω.length)=some ((bs.map (bO k)).map aI):=li;have ll:((bs.map (bO k)).map aI).length=bs.length:=by simp
  have a1:(aN dQ (aC (bV ["Window"] "full" aL) a0)) ρ Ω1=aM (.int bs.length) Ω1:=by
   have c1:(aC (bV ["Window"] "full" aL) a0) ρ Ω1=aM [.aD Ω.length] Ω1:=gM g iL;rw [aN,cE c1];simp only [dQ,si,ll]
  have a2:(aB (eO) (aN dQ (aC (bV ["Window"] "full" aL) a0)) bZ) ρ Ω1=aM (.int ((bs.length - q:Nat):Int)) Ω1:=by
   have hq:=T.ZV;have:(bs.length:Int) - q=((bs.length - q:Nat):Int):=by omega
   rw [aB,cE a1,cE v3,← this];simp
  have a3:(mR false (bV ["Window"] "full" aL) (lJ (aB (eO) (aN dQ (aC (bV ["Window"] "full" aL) a0)) bZ)) pD) ρ Ω1=aM (.lst (((bs.drop (bs.length - q)).map (bO k)).map aI)) Ω1:=by
   have ec:=Wt ((bs.map (bO k)).map aI) (bs.length - q) (by rw [ll];omega);rw [← Jl,← Jl]at ec;have pt:(lJ (aB (eO) (aN dQ (aC (bV ["Window"] "full" aL) a0)) bZ)) ρ Ω1=aM (some ((bs.length - q:Nat):Int)) Ω1:=by
    rw [lJ,cE a2];rfl
   have s0:pD ρ Ω1=aM none Ω1:=rfl;rw [mR,cE g,cE pt,cE s0];simp only [RI,li,ec];rfl
  have po:=Zl nl (by omega) (.lst (nl.map A.int)) Ω1 (fun _=>rfl);have a4:(gL false (aC (aN (bN 1 qG) (aC bB a0)) a0)) ρ Ω1=aM (.lst [aI (kW (unit nl))]) Ω1:=by
   have c1:(aC bB a0) ρ Ω1=aM [.lst (nl.map A.int)] Ω1:=gM v2 iL;have c2:(aN (bN 1 qG) (aC bB a0)) ρ Ω1=aM (aI (kW (unit nl))) Ω1:=by
    rw [aN,cE c1];simp [bN,po]
   exact atU (gM c2 iL) (by simp)
  have:=atV a3 a4 (by simp;omega);have em:(bH k bs q nl).map aI=((bs.drop (bs.length - q)).map (bO k)).map aI++[aI (kW (unit nl))]:=by simp [bH]
  rw [em];exact this
 have e:TN [aE s,aA last,none,none] Ω=some (.ret (.lst ((bH k bs q nl).map aI)),[aE s,aA last,aT (nl.map A.int),aA q],Ω):=by
  unfold TN;rw [bM e1,bM e2];exact AJ e3
 rw [e];simp only [pE];exact rR
theorem Wb{p q:Po}(h:aI p=aI q):p.s=q.s∧p.l=q.l:=by
 simp [aI,fQ]at h;exact⟨h.1,h.2.1⟩
theorem awP(p:Po)(Ω:aF):aW (aI p) (.int 0) Ω=aM (.int p.s) Ω:=by simp [aI,fQ]
theorem awQ(p:Po)(Ω:aF):aW (aI p) (.int 1) Ω=aM (.int p.l) Ω:=by simp [aI,fQ]
def hU(qs:List Po):Int:=(qs.map (·.s)).sum
def mC(qs:List Po):Int:=(qs.map (·.l)).sum
theorem Jf(qs:List Po)(hz:qs.length≤100000)(last:Int)(Ω:aF):zP [.lst (qs.map aI),.int last] Ω=aM (.int (hU qs - last)) Ω:=by
 have q:Ye [aT (qs.map aI),aA last] Ω=aM (.lst (qs.map fun p=>A.int p.s)) Ω :=
  zX (n:=1) (js:=[]) (fi:=fV aL) (g:=gN 0) (ρ:=[aT (qs.map aI),aA last]) (Ω:=Ω) (Ω0:=Ω) (S:=srcOf (.lst (qs.map aI)) (qs.map aI)) qs aI (fun p=>A.int p.s) (fun ρ=>∃y,ρ=[y]) (fun x y e=>by rw [(Wb e).1])
   (by simp) (fun ys=>by simp [srcOf]) ⟨none,by simp [lP]⟩ rfl (by omega) (fun p hp ρ hP ys=>by
    obtain⟨y,rfl⟩:=hP;have e:=awP p (Ω++[.lst ys]);generalize aI p=P at e;refine⟨[some P],⟨_,rfl⟩,by simp,?_⟩;rw [aB,cE (x:=P) (Ω':=Ω++[.lst ys]) (by simp),cE (x:=A.int 0) (Ω':=Ω++[.lst ys]) (by simp)];exact e) (fun x _=>by simp only [Cl])
 have io:intsOf (qs.map fun p=>A.int p.s)=some (qs.map (·.s)):=by
  have:=JP (qs.map (·.s));rw [uT]at this;exact this
 show trim Ω (gC (SS [aT (qs.map aI),aA last] Ω))=_;have e:SS [aT (qs.map aI),aA last] Ω=some (.ret (.int (hU qs - last)),[aT (qs.map aI),aA last],Ω):=by
  have li:cK Ω (.lst (qs.map fun p=>A.int p.s))=some (qs.map fun p=>A.int p.s):=rfl;unfold SS hU;generalize (qs.map fun p=>A.int p.s)=us at q li io;generalize qs.map aI=vs at q;simp [q,li,io]
 rw [e];simp only [pE];exact rR
end
def kL(qs:List Po):List Rn:=(qs.map fun p=>mY p.s p.es).flatten
def uV:List (List Int)→List Po→Prop
 | [],[]=>True
 | B::bs,p::ps=>(Gd (unit B) p∧∀e∈p.es,e.1∈B)∧uV bs ps
 | _,_=>False
theorem aaS(R S:List Rn):whole (R++S)=whole R+whole S:=by simp [whole]
theorem HY(a b:List Int):unit (a++b)=unit a++unit b:=by simp [unit]
theorem Wy(R S:List Rn)(x:Int)(cP:Bool):gX (R++S) x cP=gX R x cP+gX S x cP:=by
 unfold gX;cases cP
 ·exact EA R S x
 ·exact xS R S x
theorem ES(p:Po)(ps:List Po):kL (p::ps)=mY p.s p.es++kL ps:=by simp [kL]
theorem OV(p:Po)(ps:List Po):mC (p::ps)=p.l+mC ps:=by simp [mC]
theorem ahM(p:Po)(ps:List Po):hU (p::ps)=p.s+hU ps:=by simp [hU]
theorem Fj(x:Int)(cP:Bool):∀{bs:List (List Int)} {ps:List Po},uV bs ps→gX (kL ps) x cP - mC ps≤gX (unit bs.flatten) x cP∧gX (unit bs.flatten) x cP≤gX (kL ps) x cP+mC ps
 | [],[],_=>by cases cP <;> simp [kL,mC,gX,unit,cU,cG]
 | B::bs,p::ps,h=>by
  obtain⟨a,b⟩:=Fj x cP h.2;obtain⟨c,d⟩:=an0 h.1.1 x cP;rw [NJ,HY,Wy,ES,Wy,OV];omega
theorem RF:∀{bs:List (List Int)} {ps:List Po},uV bs ps→whole (kL ps)=hU ps∧hU ps=bs.flatten.length∧0≤mC ps
 | [],[],_=>by simp [kL,mC,hU,whole]
 | B::bs,p::ps,h=>by
  obtain⟨a,b,c⟩:=RF h.2;have e:=anZ h.1.1;have e2:=h.1.1.sz;have e3:=h.1.1.gf.l0;rw [AA]at e2;rw [NJ,kF,ES,aaS,OV,ahM];push_cast;omega
theorem Uy:∀{bs:List (List Int)} {ps:List Po},uV bs ps→∀n∈(kL ps).map (·.1),n∈bs.flatten
 | [],[],_,n,hn=>by simp [kL]at hn
 | B::bs,p::ps,h,n,hn=>by
  rw [ES,HA]at hn;rw [NJ]
  rcases oZ.mp hn with z | z
  ·have e:=Qz p.s p.es p.es 0;have z':n∈(jT p.s p.es 0 p.es).map (·.1):=z;rw [e]at z';obtain⟨f,hf,rfl⟩:=mM.mp z';exact xB _ (h.1.2 f hf)
  ·exact mO _ (Uy h.2 n z)
theorem Va:∀{bs:List (List Int)} {ps:List Po} {B:List Int} {p:Po},uV bs ps→Gd (unit B) p→(∀e∈p.es,e.1∈B)→uV (bs++[B]) (ps++[p])
 | [],[],_,_,_,h1,h2=>⟨⟨h1,h2⟩,trivial⟩
 | _::_,_::_,_,_,h,h1,h2=>⟨h.1,Va h.2 h1 h2⟩
theorem Qe(ns:List Int):∀e∈(kW (unit ns)).es,e.1∈ns:=fun e he=>by
 have BS:e∈gS 0 (cO (unit ns)):=he;obtain⟨r,hr,er⟩:=mM.mp (Qi _ _ e BS);obtain⟨as,bs,e1⟩:=List.append_of_mem hr;have:=(ZX e1).2.2;rw [← er];simpa [unit]using this
theorem Uz{k:Int}(hk:1≤k):∀(bs:List (List Int)),uV bs (bs.map (bO k))
 | []=>trivial
 | B::bs=>⟨⟨(LH (xT B)).lZ k hk,fun e he=>Qe B e ((XR _ _).subset he)⟩,Uz hk bs⟩
theorem RG{k:Int}(hk:1≤k)(bs:List (List Int))(q:Nat)(nl:List Int):uV (bs.drop (bs.length - q)++[nl]) (bH k bs q nl) :=
 Va (Uz hk _) (LH (xT nl)) (Qe nl)
theorem QN:∀(ps:List Po),(kL ps).length=(ps.map fun p=>p.es.length).sum
 | []=>rfl
 | p::ps=>by
  rw [ES,kF,QN ps];show(jT p.s p.es 0 p.es).length+_=_;rw [Rb];simp
theorem Qg(ns:List Int):(kW (unit ns)).es.length≤ns.length:=by
 have:=Ac (cO (unit ns)) 0 fun r hr=>XI (xT ns) hr;rw [NZ,AA]at this;show(gS 0 (cO (unit ns))).length≤_;omega
theorem awH{k:Nat}(hk:1≤k)(ns:List Int):(bO k ns).es.length≤ns.length∧(bO k ns).es.length≤2*k:=by
 have g:=LH (xT ns);have t:=ab8 g.gf k hk;have o:=Qg ns;have l:=(XR ((kW (unit ns)).l+(kW (unit ns)).s/(k:Int)) (kW (unit ns)).es).length_le;exact⟨qE l o,t⟩
theorem He{k:Nat}(hk:1≤k)(b:Nat):∀(bs:List (List Int)),(∀B∈bs,B.length=b)→((bs.map (bO k)).map fun p=>p.es.length).sum≤bs.length*b∧((bs.map (bO k)).map fun p=>p.es.length).sum≤bs.length*(2*k)
 | [],_=>by simp
 | B::bs,h=>by
  obtain⟨a,c⟩:=He hk b bs fun C hC=>h C (by simp [hC]);obtain⟨d,e⟩:=awH hk B;have hB:=h B (by simp);simp only [dH,rD,gO,Nat.add_mul,Nat.one_mul];omega
theorem Pe{k:Int}{L b:Int}{aK:List Int}{bs:List (List Int)}{ns nl:List Int}{q:Nat}{last:Int}(hk:1≤k)(kY:k≤12)(h:WI L b aK bs ns)(T:Taken b aK bs ns last q nl)(hb:1≤b)(Dy:b≤40)(hl:last≤40):(kL (bH k bs q nl)).length≤63:=by
 obtain⟨k',rfl⟩:=HF (show 0≤k by omega);obtain⟨b',rfl⟩:=HF (show 0≤b by omega);have hd:(bs.drop (bs.length - q)).length=q:=by have:=T.ZV;simp;omega
 obtain⟨l1,l2⟩:=He (k:=k') (by omega) b' (bs.drop (bs.length - q)) fun B hB=>by
  have:=h.len B (Jj hB);omega
 rw [hd]at l1 l2;have ol:=Qg nl;have e:(kL (bH (k':Int) bs q nl)).length=(((bs.drop (bs.length - q)).map (bO k')).map fun p=>p.es.length).sum+(kW (unit nl)).es.length:=by
  rw [QN];simp [bH]
 rw [e];have ov:=T.over;have ov':q*b'+nl.length≤last.toNat+b' - 1:=by
  have:((q*b':Nat):Int)=(q:Int)*(b':Int):=by push_cast;rfl
  omega
 have nf:nl.length<b':=by
  have:=h.nC;have:nl.length≤ns.length:=by rw [T.Ah];simp
  omega
 have RE:q*(2*k')≤q*24:=Nat.mul_le_mul_left _ (by omega)
 by_cases c:b'≤24
 ·omega
 ·have q2:q≤2:=by
   rcases UG 2 q with z | z
   ·exfalso;have:3*b'≤q*b':=Nat.mul_le_mul_right _ z;omega
   ·exact z
  rcases(show q=0∨q=1∨q=2 by omega)with rfl | rfl | rfl <;> omega
theorem Gn:∀(xs:List Int) (n:Int),cU (unit xs) n=((xs.filter fun x=>decide (x<n)).length:Int)
 | [],n=>by simp [unit,cU]
 | x::xs,n=>by
  have ih:=Gn xs n;have e:cU (unit (x::xs)) n=(if x<n then 1 else 0)+cU (unit xs) n:=by simp [unit,cU]
  rw [e,ih,NK]
  by_cases c:x<n <;> simp [c] <;> omega
theorem yY:∀(xs:List Int) (n:Int),cG (unit xs) n=((xs.filter fun x=>decide (x≤n)).length:Int)
 | [],n=>by simp [unit,cG]
 | x::xs,n=>by
  have ih:=yY xs n;have e:cG (unit (x::xs)) n=(if x≤n then 1 else 0)+cG (unit xs) n:=by simp [unit,cG]
  rw [e,ih,NK]
  by_cases c:x≤n <;> simp [c] <;> omega
def lM(k:Int)(bs:List (List Int))(q:Nat)(nl:List Int)(last:Int):Int:=hU (bH k bs q nl) - last+mC (bH k bs q nl)
theorem ab7{k:Int}{L b:Int}{aK:List Int}{bs:List (List Int)}{ns nl:List Int}{q:Nat}{last:Int}(hk:1≤k)(T:Taken b aK bs ns last q nl)(h1:1≤last)(p:Int)(hp:1≤p)(iY:p≤last) :
  0≤lM k bs q nl last∧1≤p+(hU (bH k bs q nl) - last)/2∧∃n,na (cO (kL (bH k bs q nl))) 0 (p+(hU (bH k bs q nl) - last)/2)=some n∧n∈aK ∧
   ((((aK.drop (aK.length - last.toNat)).filter fun x=>decide (x<n)).length:Int)<p+lM k bs q nl last)∧p - lM k bs q nl last≤(((aK.drop (aK.length - last.toNat)).filter fun x=>decide (x≤n)).length:Int):=by
 have g:=RG hk bs q nl;obtain⟨w1,w2,w3⟩:=RF g;have fe:(bs.drop (bs.length - q)++[nl]).flatten=(bs.drop (bs.length - q)).flatten++nl:=by simp
 rw [fe]at w2;have hm:=T.many;have he:=T.Ge;rw [kF]at w2;push_cast at w2;have hS:last≤hU (bH k bs q nl):=by omega
 unfold lM;obtain⟨n,n1,n2,n3,n4⟩:=anJ (kL (bH k bs q nl)) (p+(hU (bH k bs q nl) - last)/2) (by omega) (by rw [w1];omega);refine⟨by omega,by omega,n,n1,?_,?_⟩
 ·obtain⟨Y,hY⟩:=T.xU;rw [hY];have:=Uy g n n4;rw [fe]at this;exact mO _ this
 ·obtain⟨Y,hY⟩:=T.xU;generalize hK:(bs.drop (bs.length - q)).flatten++nl=K at hY fe;have hKl:(K.length:Int)=hU (bH k bs q nl):=by rw [← hK,kF];push_cast;omega
  have a:=(Fj n false g).2;have c:=(Fj n true g).1;rw [fe]at a c;simp only [gX,sO,jN,fW]at a c;have KP:aK.drop (aK.length - last.toNat)=K.drop (K.length - last.toNat):=by
   rw [hY,kF,List.drop_append];have:Y.drop (Y.length+K.length - last.toNat)=[]:=Zu (by omega);rw [this,xA];congr 1;omega
  rw [KP,← Gn,← yY];have eK:K=K.take (K.length - last.toNat)++K.drop (K.length - last.toNat):=(Jh _ _).symm;have u1:cU (unit K) n=cU (unit (K.take (K.length - last.toNat))) n+cU (unit (K.drop (K.length - last.toNat))) n:=by
   conv=>lhs;rw [eK]
   rw [HY,EA]
  have u2:cG (unit K) n=cG (unit (K.take (K.length - last.toNat))) n+cG (unit (K.drop (K.length - last.toNat))) n:=by
   conv=>lhs;rw [eK]
   rw [HY,xS]
  have v1:0≤cU (unit (K.take (K.length - last.toNat))) n:=by rw [Gn];omega
  have v2:cG (unit (K.take (K.length - last.toNat))) n≤hU (bH k bs q nl) - last:=by
   rw [yY];have:=Zq (fun x=>decide (x≤n)) (K.take (K.length - last.toNat));have l:(K.take (K.length - last.toNat)).length=K.length - last.toNat:=by simp
   omega
  generalize cU (unit (K.drop (K.length - last.toNat))) n=x1 at *;generalize cG (unit (K.drop (K.length - last.toNat))) n=x2 at *;constructor <;> omega
theorem uN{nm:Str}{i m:Nat}{jA:List A}{F:List A→Mo A}{args:Ev→Mo (List A)}{as:List A}{ρ:Ev}{Ω:aF}{s:Nat}{fs:List (Str×Fd)}(h0:ρ[i]? = some (aE s))(ho:Ω[s]? = some (.ins "Window" fs))(hl:fs.lookup nm=none)(ha:args ρ Ω=aM as Ω)(hn:as.length+1+jA.length=m) :
  (dE nm [("Window",dD m jA F)] (fS i) args) ρ Ω=F (.aD s::(as++jA)) Ω:=by
 have e:(fS i) ρ Ω=aM (.aD s) Ω:=by simp [h0]
 have JY:(A.aD s::as).length+jA.length=m:=by simp;omega
 unfold dE;rw [cE e];simp only [RK,ho,List.lookup,hl,Hg,cE ha,dD,JY,fW,Jm]
theorem mL{f:Ev→Mo A}{j:Nat}{ρ:Ev}{Ω Ω':aF}{a:A}(hj:j<ρ.length)(h:f ρ Ω=aM a Ω'):bK f (gN j) ρ Ω=dR (ρ.set j (some a)) Ω':=by
 unfold bK;rw [kU h];simp [hj]
structure jH(Ω:aF)(s:Nat)(L b k:Int)(aK:List Int)(bs:List (List Int))(ns:List Int):Prop where
 at_:pZ Ω s L b k aK.length (bs.map (bO k)) ns
 wi:WI L b aK bs ns
 L1:1≤L
 L2:L≤40
 b1:1≤b
 b2:b≤40
 k1:1≤k
 k2:k≤12
section
variable{Ω:aF}{s:Nat}{L b k:Int}{aK:List Int}{bs:List (List Int)}{ns:List Int}
theorem jH.parts(h:jH Ω s L b k aK bs ns){last:Int}{q:Nat}{nl:List Int}(h1:1≤last)(T:Taken b aK bs ns last q nl):uZ [.aD s,.int last] Ω=aM (.lst ((bH k bs q nl).map aI)) Ω :=
 axK h.at_ h.b1 (by have:=h.b2;omega) h.wi.nC (by have:=h.wi.RO h.b1 h.L2;omega) h1 T
theorem jH.nC(h:jH Ω s L b k aK bs ns)(q:Nat)(nl:List Int):(bH k bs q nl).length≤100:=by
 have:=h.wi.RO h.b1 h.L2;simp [bH];omega
theorem axC(h:jH Ω s L b k aK bs ns)(a:A)(v:Int)(ha:oO L aK.length a=some v)(h1:1≤v)(h2:v≤min L aK.length){q:Nat}{nl:List Int}(T:Taken b aK bs ns v q nl) :
  DH [.aD s,a] Ω=aM (.int (lM k bs q nl v)) Ω:=by
 have ll:=Je h.at_ a v ha;rw [if_neg (by omega)]at ll;have pp:=h.parts h1 T;have hf:=h.nC q nl;have ho:Ω[s]? = some (.ins "Window" (wF L b k aK.length ((bs.map (bO k)).map aI) (ns.map A.int))):=h.at_;have be:=Jf (bH k bs q nl) (by omega) v Ω;show trim Ω (gC (MN [aE s,some a,none] Ω))=_;have g1:(dE "look_last" [("Window",dD 2 [] xI)] aL (aC bJ a0)) [aE s,some a,none] Ω=aM (.int v) Ω:=by
  refine Eq.trans (uN (as:=[a]) (s:=s) rfl ho rfl ?_ rfl) ll;exact gM rfl iL
 have g2:(dE "parts" [("Window",dD 2 [] uZ)] aL (aC bJ a0)) [aE s,aA v,none] Ω=aM (.lst ((bH k bs q nl).map aI)) Ω:=by
  refine Eq.trans (uN (as:=[.int v]) (s:=s) rfl ho rfl ?_ rfl) pp;exact gM rfl iL
 have q1:Hw [aE s,aA v,aT ((bH k bs q nl).map aI)] Ω=aM (.lst ((bH k bs q nl).map fun p=>A.int p.l)) Ω :=
  zX (n:=1) (js:=[]) (fi:=fV bB) (g:=gN 0) (ρ:=[aE s,aA v,aT ((bH k bs q nl).map aI)]) (Ω:=Ω) (Ω0:=Ω) (S:=srcOf (.lst ((bH k bs q nl).map aI)) ((bH k bs q nl).map aI)) (bH k bs q nl) aI (fun p=>A.int p.l) (fun ρ=>∃y,ρ=[y]) (fun x y e=>by rw [(Wb e).2])
   (by simp) (fun ys=>by simp [srcOf]) ⟨none,by simp [lP]⟩ rfl (by omega) (fun p hp ρ hP ys=>by
    obtain⟨y,rfl⟩:=hP;have e:=awQ p (Ω++[.lst ys]);generalize aI p=P at e;refine⟨[some P],⟨_,rfl⟩,by simp,?_⟩;rw [aB,cE (x:=P) (Ω':=Ω++[.lst ys]) (by simp),cE (x:=A.int 1) (Ω':=Ω++[.lst ys]) (by simp)];exact e) (fun x _=>by simp only [Cl])
 have io:intsOf ((bH k bs q nl).map fun p=>A.int p.l)=some ((bH k bs q nl).map (·.l)):=by
  have:=JP ((bH k bs q nl).map (·.l));rw [uT]at this;exact this
 have e:MN [aE s,some a,none] Ω=some (.ret (.int (lM k bs q nl v)),[aE s,aA v,aT ((bH k bs q nl).map aI)],Ω):=by
  unfold MN;rw [bM (mL (by simp) g1)];show aV _ _ [aE s,aA v,none] Ω=_;rw [bM (mL (by simp) g2)];show cX _ [aE s,aA v,aT ((bH k bs q nl).map aI)] Ω=_;have li:cK Ω (.lst ((bH k bs q nl).map fun p=>A.int p.l))=some ((bH k bs q nl).map fun p=>A.int p.l):=rfl;refine AJ ?_;have b1:(aN (bN 2 zP) (aC bB (aC bJ a0))) [aE s,aA v,aT ((bH k bs q nl).map aI)] Ω=aM (.int (hU (bH k bs q nl) - v)) Ω:=RT rfl rfl be;have b2:(aN tM (aC Hw a0)) [aE s,aA v,aT ((bH k bs q nl).map aI)] Ω=aM (.int (mC (bH k bs q nl))) Ω:=by
   rw [aN,cE (gM q1 iL)];unfold mC;generalize ((bH k bs q nl).map fun p=>A.int p.l)=us at li io;simp [li,io]
  show(aB bX _ _) _ Ω=_;rw [aB,cE b1,cE b2];unfold lM;simp
 rw [e];simp only [pE];exact rR
theorem Nm(ok:aF→Prop)(aH:∀Ω,ok Ω)(x0 x1 x2 x3:Option A)(Ω:aF):∀(ps:List Po) (done:List Rn) (y5:Option A),(∀p∈ps,p.es.length≤1000)→done.length+(kL ps).length≤1000→∃z5,
  dS ok (gN 5) Hv (ps.map aI) [x0,x1,x2,x3,aE Ω.length,y5] (Ω++[.lst (bC done)])=dR [x0,x1,x2,x3,aE Ω.length,z5] (Ω++[.lst (bC (done++kL ps))])
 | [],done,y5,_,_=>⟨y5,by simp [dS,aH,kL]⟩
 | p::ps,done,y5,hp,hl=>by
  rw [ES,kF]at hl;obtain⟨z5,q⟩:=Nm ok aH x0 x1 x2 x3 Ω ps (done++mY p.s p.es) (some (aI p)) (fun r hr=>hp r (jK _ hr)) (by rw [kF];omega);refine⟨z5,?_⟩;rw [ES,← List.append_assoc,← q,dH];refine lE (aH _) (ρ0:=[x0,x1,x2,x3,aE Ω.length,some (aI p)]) (Ω0:=Ω++[.lst (bC done)]) (by simp) ?_;have m:VH [aI p] (Ω++[.lst (bC done)])=aM (.lst (bC (mY p.s p.es))) (Ω++[.lst (bC done)]):=axP p.s p.l p.d p.es (hp p (by simp)) _;have cl:lS (Ω++[Cell.lst (bC done)]) (.aD Ω.length)=some (Ω.length,bC done):=tO (by simp);have il:pI (Ω++[Cell.lst (bC done)]) (.aD Ω.length):=tE (iJ (ds:=bC done) (by simp));have hz:(bC done).length+(bC (mY p.s p.es)).length≤sizeLine:=by rw [mG];simp [bC];omega
  have er:bC (done++mY p.s p.es)=bC done++bC (mY p.s p.es):=by simp [bC]
  have BI:(Ω++[Cell.lst (bC done)]).set Ω.length (.lst (bC done++bC (mY p.s p.es)))=Ω++[.lst (bC done++bC (mY p.s p.es))]:=by simp
  rw [er,← BI];generalize Ω++[Cell.lst (bC done)]=Ω1 at *;generalize bC (mY p.s p.es)=us at *;generalize bC done=vs at *;generalize aI p=P at *;simp [Hv,bN,m,cl,il,hz,EV]
theorem axA(h:jH Ω s L b k aK bs ns)(p:Int)(a:A)(v:Int)(ha:oO L aK.length a=some v)(h1:1≤v)(h2:v≤min L aK.length)(hp:1≤p)(iY:p≤v){q:Nat}{nl:List Int}(T:Taken b aK bs ns v q nl)(n:Int)(hn:na (cO (kL (bH k bs q nl))) 0 (p+(hU (bH k bs q nl) - v)/2)=some n)(hn1:1≤p+(hU (bH k bs q nl) - v)/2) :
  xH [.aD s,.int p,a] Ω=aM (.int n) Ω:=by
 have ll:=Je h.at_ a v ha;rw [if_neg (by omega)]at ll;have pp:=h.parts h1 T;have hf:=h.nC q nl;have nC:=Pe h.k1 h.k2 h.wi T h.b1 h.b2 (by have:=h.L2;omega);have ho:Ω[s]? = some (.ins "Window" (wF L b k aK.length ((bs.map (bO k)).map aI) (ns.map A.int))):=h.at_;have wN:∀p∈bH k bs q nl,p.es.length≤1000:=fun r hr=>by
  have:∀(ps:List Po),r∈ps→r.es.length≤(ps.map fun p=>p.es.length).sum:=by
   intro ps
   induction ps with
   | nil=>intro z;cases z
   | cons x xs ih =>
    intro z;rw [dH,rD]
    rcases dN.mp z with y | y
    ·subst y;omega
    ·have:=ih y;omega
  have:=this _ hr;rw [← QN]at this;omega
 have be:=Jf (bH k bs q nl) (by omega) v (Ω++[.dead]);have nt:=axM (kL (bH k bs q nl)) nC (p+(hU (bH k bs q nl) - v)/2) (Ω++[.dead]);rw [if_neg (by omega),hn]at nt;simp only at nt;obtain⟨z5,lp⟩:=Nm (fun Ω'=>dO Ω' (.lst ((bH k bs q nl).map aI))=some ((bH k bs q nl).map aI)) (fun _=>rfl) (aE s) (aA p) (aA v) (some (.lst ((bH k bs q nl).map aI))) Ω (bH k bs q nl) [] none wN (by simp;omega);rw [xA]at lp;show trim Ω (gC (MM [aE s,aA p,some a,none,none,none] Ω))=_;have g1:(dE "look_last" [("Window",dD 2 [] xI)] aL (aC bB a0)) [aE s,aA p,some a,none,none,none] Ω=aM (.int v) Ω:=by
  refine Eq.trans (uN (as:=[a]) (s:=s) rfl ho rfl ?_ rfl) ll;exact gM rfl iL
 have g2:(dE "parts" [("Window",dD 2 [] uZ)] aL (aC bB a0)) [aE s,aA p,aA v,none,none,none] Ω=aM (.lst ((bH k bs q nl).map aI)) Ω:=by
  refine Eq.trans (uN (as:=[.int v]) (s:=s) rfl ho rfl ?_ rfl) pp;exact gM rfl iL
 have e:MM [aE s,aA p,some a,none,none,none] Ω=some (.ret (.int n),[aE s,aA p,aA v,aT ((bH k bs q nl).map aI),aT (bC (kL (bH k bs q nl))),z5],Ω++[.dead]):=by
  unfold MM;rw [bM (mL (by simp) g1)];show aV _ _ [aE s,aA p,aA v,none,none,none] Ω=_;have h4:¬p<1:=by omega
  have h5:¬v<p:=by omega
  rw [bM (ρ1:=[aE s,aA p,aA v,none,none,none]) (Ω':=Ω) (by simp [h4,h5])];rw [bM (mL (by simp) g2)];show aV _ _ [aE s,aA p,aA v,aT ((bH k bs q nl).map aI),none,none] Ω=_;generalize (bH k bs q nl).map aI=us at lp be;generalize hrr:bC (kL (bH k bs q nl))=rr at lp nt;rw [bM (ρ1:=[aE s,aA p,aA v,aT us,aE Ω.length,none]) (Ω':=Ω++[.lst []]) (by simp [nO])];rw [bM (ρ1:=[aE s,aA p,aA v,aT us,aE Ω.length,z5]) (Ω':=Ω++[.lst rr]) (by
   rw [pM (S:=srcOf (.lst us) us) (Ω':=Ω++[.lst []]) (by simp)];exact lp)]
  rw [aiO (k:=Ω.length) (ds:=rr) rfl (by simp)];have es:(Ω++[Cell.lst rr]).set Ω.length .dead=Ω++[.dead]:=by simp
  rw [es];show cX _ [aE s,aA p,aA v,aT us,aT rr,z5] (Ω++[.dead])=_;refine AJ ?_;generalize Ω++[Cell.dead]=Ω1 at be nt;have b1:(aN (bN 2 zP) (aC bZ (aC bB a0))) [aE s,aA p,aA v,aT us,aT rr,z5] Ω1=aM (.int (hU (bH k bs q nl) - v)) Ω1:=RT rfl rfl be;refine RT (a := .lst rr) (b := .int (p+(hU (bH k bs q nl) - v)/2)) rfl ?_ nt;show(aB bX _ _) _ Ω1=_;generalize hU (bH k bs q nl) - v=w at b1;have d2:lH w 2:=⟨by decide,by decide⟩;have b2:(aB (jF) (aN (bN 2 zP) (aC bZ (aC bB a0))) fM) [aE s,aA p,aA v,aT us,aT rr,z5] Ω1=aM (.int (w/2)) Ω1:=by
   rw [aB,cE b1];simp [d2]
  rw [aB,cE (x:=A.int p) (Ω':=Ω1) (by simp),cE b2];simp
 rw [e];simp only [pE];exact AD (by simp only [Cl])
end
structure aAT(Ω:aF)(k:Nat)(row:List Int)(L:List (List Sg))(cs:List Nat):Prop where
 at_:qD Ω 0 k row.length L cs
 lv:Lv k 0 L
 fl:atL L=row
 IU:Ω[1]? = some (.lst (row.map A.int))
 no:1∉cs
 nC:row.length≤400
theorem atX(L:List Int):kO 8 (.lst (L.map A.int)) (.lst [])=L.isEmpty:=by cases L <;> rfl
theorem Pd(L:List Int):fF 8 (.lst (L.map A.int))=true:=by
 simp [fF]
theorem Ve(L:List Int)(k:Nat)(Ω:aF)(g:Ω[k]? = some (.lst (L.map A.int))):iA (.aD k) (.lst []) Ω=aM (.bl L.isEmpty) Ω:=by
 have h1:=Pd L;have h2:fF 8 (.lst [])=true:=rfl;have r1:res Ω 6 (.aD k)=some (.lst (L.map A.int)):=by rw [Oi g,Aq _ (by simp)];rfl
 simp [iA,CD,r1,ZO h2,h1,h2,atX]
open Classical in
theorem WT{α:Type}{n:Nat}{js:List Nat}{fi:Ev→Mo Src}{g:A→MS}{c:Ev→Mo Bool}{e:Ev→Mo A}{ρ:Ev}{Ω Ω0:aF}{S:Src}(xs:List α)(enc out:α→A)(kp:α→Bool)(P:Ev→Prop)(inj:∀x y,enc x=enc y→out x=out y∧kp x=kp y)
  (h0:fi ρ Ω=aM S Ω0) (aH:∀ys,S.ok (Ω0++[.lst ys])) (hP:P (lP n js ρ)) (hS:S.ds=xs.map enc) (hl:xs.length≤1000000)
  (step:∀x∈xs,∀ρ,P ρ→∀ys,∃ρ1,P ρ1∧g (enc x) ρ (Ω0++[.lst ys])=dR ρ1 (Ω0++[.lst ys])∧c ρ1 (Ω0++[.lst ys])=aM (kp x) (Ω0++[.lst ys])∧e ρ1 (Ω0++[.lst ys])=aM (out x) (Ω0++[.lst ys]))
  (hc:∀x∈xs,Cl Ω0.length (out x)):lK false n js fi g c e ρ Ω=aM (.lst ((xs.filter kp).map out)) Ω0:=by
 let F:A→Option A:=fun a=>if h:∃x,x∈xs∧enc x=a then(if kp (Classical.choose h)=true then some (out (Classical.choose h))else none)else none
 have hF:∀x∈xs,F (enc x)=if kp x=true then some (out x)else none:=fun x hx=>by
  have h:∃y,y∈xs∧enc y=enc x:=⟨x,hx,rfl⟩;show(if h:∃y,y∈xs∧enc y=enc x then(if kp (Classical.choose h)=true then some (out (Classical.choose h))else none)else none)=_;have q:=inj _ _ (HM h).2;rw [dif_pos h,q.1,q.2]
 have ef:∀l:List α,(∀x∈l,x∈xs)→(l.map enc).filterMap F=(l.filter kp).map out:=by
  intro l
  induction l with
  | nil=>intro _;rfl
  | cons x r ih =>
   intro h;have q:=hF x (h x (by simp))
   by_cases hk:kp x=true
   ·rw [if_pos hk]at q;simp only [dH,UN,q,ih fun y hy=>h y (by simp [hy]),NK,hk,fW]
   ·rw [if_neg hk]at q;simp only [dH,UN,q,ih fun y hy=>h y (by simp [hy]),NK,if_neg hk]
 have q:=WS (n:=n) (js:=js) (fi:=fi) (g:=g) (c:=c) (e:=e) (ρ:=ρ) (Ω:=Ω) (Ω0:=Ω0) (S:=S) F P h0 aH hP (by rw [hS];simpa using hl) (fun x hx ρ hp ys=>by
  rw [hS]at hx;obtain⟨y,hy,rfl⟩:=mM.mp hx;obtain⟨ρ1,h1,h2,h3,h4⟩:=step y hy ρ hp ys;have q:=hF y hy
  by_cases hk:kp y=true
  ·rw [if_pos hk]at q;rw [hk]at h3;exact⟨ρ1,h1,h2,.inl ⟨out y,q,h3,h4⟩⟩
  ·rw [if_neg hk]at q;rw [Bool.eq_false_iff.mpr hk]at h3;exact⟨ρ1,h1,h2,.inr ⟨q,h3⟩⟩) (by
  rw [hS,ef xs fun _ h=>h];exact CO fun a ha=>by
   obtain⟨x,hx,rfl⟩:=mM.mp ha;exact hc x (List.mem_filter.mp hx).1)
 rw [hS,ef xs fun _ h=>h]at q;exact q
theorem as4(n:Int)(L:List Int)(h:n∈L)(c:Nat)(Ω:aF)(g:Ω[c]? = some (.lst (L.map A.int))):yR true (.int n) (.aD c) Ω=aM (.bl false) Ω:=by
 have h1:=Pd L;have r1:res Ω 6 (.aD c)=some (.lst (L.map A.int)):=by rw [Oi g,Aq _ (by simp)];rfl
 have h2:fF 8 (.int n)=true:=rfl;have h3:fF 7 (.int n)=true:=rfl;have ha:((L.map A.int).any fun d=>kO 7 d (.int n))=true:=by
  rw [List.any_eq_true];exact⟨.int n,Jk h,by simp [kO]⟩
 unfold yR;rw [r1,ZO h2];simp only [h3,h1,Bool.and_self,fW,ha,Bool.not_true]
theorem Zk(c:Int)(h0:0≤c):∃L b k:Int,1≤L∧L≤40∧1≤b∧b≤40∧1≤k∧k≤12∧∀Ω,HI [.int c] Ω=aM (.tup [.int L,.int b,.int k]) Ω:=by
 have s3:(3:Nat)≤sizeLine:=by decide
 have d1:lH c 40:=⟨by decide,by decide⟩;have d2:lH c 480:=⟨by decide,by decide⟩;have d3:lH c 2880:=⟨by decide,by decide⟩;have d4:lH c 115200:=⟨by decide,by decide⟩;have d5:lH (1+c%40) 12:=⟨by decide,by decide⟩
 by_cases hc:c/480%6=0
 ·refine⟨1+c%40,max (1+c/2880%40) ((1+c%40)/12),1+c/115200%12,by omega,by omega,by omega,by omega,by omega,by omega,fun Ω=>?_⟩;simp [HI,Hs,d1,d2,d3,d4,d5,hc,s3]
 ·refine⟨1+c%40,max (1+c/40%12) ((1+c%40)/12),1+c/115200%12,by omega,by omega,by omega,by omega,by omega,by omega,fun Ω=>?_⟩;simp [HI,Hs,d1,d2,d3,d4,d5,hc,s3]
structure R72(Ω:aF)(L b k:Int)(row:List Int):Prop where
 st:∃bs ns,jH Ω 0 L b k row bs ns
 IU:Ω[1]? = some (.lst (row.map A.int))
abbrev acC:Cell := .tab "upto" ⟨110,53,110,84⟩ (uD "upto")
abbrev acG:Cell := .tab "below" ⟨112,53,112,85⟩ (uD "below")
abbrev acE:Cell := .tab "so_manieth" ⟨118,40,118,73⟩ (uD "so_manieth")
structure T85(Ω:aF):Prop where
 u:Ω[0]? = some acC
 b:Ω[1]? = some acG
 s:Ω[2]? = some acE
theorem QB{f:Ev→Mo (List A)}{ρ:Ev}{Ω Ω':aF}{n:Nat}(h:f ρ Ω=aM [.int (n:Int)] Ω')(hs:n≤100000):xR f ρ Ω=aM (sW 0 n) Ω':=by
 have:=ai0 h (by unfold EF;omega);rwa [Int.toNat_natCast]at this
abbrev acD:Cell := .tab "upto" ⟨135,53,135,84⟩ (uD "upto")
abbrev acH:Cell := .tab "below" ⟨137,53,137,85⟩ (uD "below")
abbrev acF:Cell := .tab "so_manieth" ⟨149,40,149,73⟩ (uD "so_manieth")
structure T8(Ω:aF):Prop where
 u:Ω[0]? = some acD
 b:Ω[1]? = some acH
 s:Ω[2]? = some acF
abbrev Z8:=Po×List Rn
def XM(zs:List Z8):List A:=zs.map fun z=>A.lst [.int z.1.l,.int z.1.d]
structure Ok8(z:Z8):Prop where
 gd:Gd z.2 z.1
 t1:∀r∈z.2,1≤r.2
 w:whole z.2≤1000000000
 ln:z.2.length≤63
 es:z.1.es.length≤1000
theorem Pm{R S:List Rn}(h1:∀x,cU R x=cU S x)(h2:∀x,cG R x=cG S x):∀{es:List E} {z:Int},Pl R z es→Pl S z es
 | [],_,_=>trivial
 | e::r,z,⟨p,a1,a2,a3,a4,a5,a6⟩=>⟨p,a1,by rw [← h1];exact a2,by rw [← h2];exact a3,a4,a5,Pm h1 h2 a6⟩
theorem Gd.comm{R S:List Rn}{p:Po}(h:Gd (R++S) p):Gd (S++R) p:=by
 refine⟨fun r hr=>h.tn r (by rw [oZ]at hr ⊢;exact hr.symm),h.gf,by rw [h.sz,VZ,VZ];omega,?_⟩;exact Pm (fun x=>by rw [EA,EA];omega) (fun x=>by rw [xS,xS];omega) h.pl
def ao8(y x:Z8)(c:Int):Z8:=(if c%2=0 then vZ y.1 x.1 else vZ x.1 y.1,y.2++x.2)
structure G8(z:Z8):Prop where
 gd:Gd z.2 z.1
 t1:∀r∈z.2,1≤r.2∧r.2≤1000000
def vS(zs:List Z8):Nat:=(zs.map fun z=>z.2.length).sum
def wR(zs:List Z8):Nat:=(zs.map fun z=>z.1.es.length).sum
structure I8(i:Nat)(zs:List Z8):Prop where
 ne:zs≠[]
 g:∀z∈zs,G8 z
 r:vS zs≤i
 e:wR zs≤2*i
theorem Ap(f:Z8→Nat):∀{zs:List Z8} {z:Z8},z∈zs→f z≤(zs.map f).sum
 | a::zs,z,h=>by
  rw [dH,rD]
  rcases dN.mp h with e | e
  ·rw [e];omega
  ·have:=Ap f e;omega
theorem Lh:∀{R:List Rn},(∀r∈R,1≤r.2∧r.2≤1000000)→whole R≤1000000*(R.length:Int)
 | [],_=>by simp [whole]
 | r::R,h=>by
  have e:whole (r::R)=r.2+whole R:=by simp [whole]
  have:=Lh fun q hq=>h q (jK _ hq);have:=(h r nP).2;rw [e,gO];omega
theorem I8.ok{i:Nat}{zs:List Z8}(h:I8 i zs)(hi:i≤63){z:Z8}(hz:z∈zs):Ok8 z:=by
 have g:=h.g z hz;have a:z.2.length≤vS zs:=Ap (fun z=>z.2.length) hz;have b:z.1.es.length≤wR zs:=Ap (fun z=>z.1.es.length) hz;have c:=Lh g.t1;have:=h.r;have:=h.e;exact⟨g.gd,fun r hr=>(g.t1 r hr).1,by omega,by omega,by omega⟩
theorem QE(a b:List Z8):vS (a++b)=vS a+vS b:=by simp [vS]
theorem RW(a b:List Z8):wR (a++b)=wR a+wR b:=by simp [wR]
theorem QD(z:Z8):vS [z]=z.2.length:=by simp [vS]
theorem RV(z:Z8):wR [z]=z.1.es.length:=by simp [wR]
theorem I8.join{i:Nat}{l:List Z8}{y x:Z8}(h:I8 i (l++[y,x]))(c:Int):I8 i (l++[ao8 y x c]):=by
 have hy:=h.g y (by simp);have hx:=h.g x (by simp);have e2:l++[y,x]=l++([y]++[x]):=by simp
 have hr:=h.r;have he:=h.e;rw [e2,QE,QE,QD,QD]at hr;rw [e2,RW,RW,RV,RV]at he;have hm:∀p q:Po,(vZ p q).es.length=p.es.length+q.es.length:=fun p q=>an1 p q;refine⟨by simp,fun z hz=>?_,?_,?_⟩
 ·rcases oZ.mp hz with hz | hz
  ·exact h.g z (by simp [hz])
  ·simp at hz;rw [hz];refine⟨?_,fun r hr'=>?_⟩
   ·show Gd (y.2++x.2) (if c%2=0 then vZ y.1 x.1 else vZ x.1 y.1);split
    ·exact hy.gd.merge hx.gd
    ·exact(hx.gd.merge hy.gd).comm
   ·have hr2:r∈y.2++x.2:=hr'
    rcases oZ.mp hr2 with hq | hq
    ·exact hy.t1 r hq
    ·exact hx.t1 r hq
 ·rw [QE,QD];show vS l+(y.2++x.2).length≤i;rw [kF];omega
 ·rw [RW,RV];show wR l+(if c%2=0 then vZ y.1 x.1 else vZ x.1 y.1).es.length≤2*i;split
  ·rw [hm];omega
  ·rw [hm];omega
theorem aiX(n t:Int):(vR n t).length≤2:=by unfold vR;split <;> simp
theorem I8.run{i:Nat}{zs:List Z8}(h:I8 i zs)(n t:Int)(h1:1≤t)(h2:t≤1000000):I8 (i+1) (zs++[(⟨t,0,0,vR n t⟩,[(n,t)])]):=by
 have hr:=h.r;have he:=h.e;have hl:=aiX n t;refine⟨by simp,fun q hq=>?_,?_,?_⟩
 ·rcases oZ.mp hq with hq | hq
  ·exact h.g q hq
  ·simp at hq;rw [hq];exact⟨Gd.run n t h1,fun r hr=>by simp at hr;rw [hr];exact⟨h1,h2⟩⟩
 ·rw [QE,QD];show _+[(n,t)].length≤_;simp;omega
 ·rw [RW,RV];show _+(vR n t).length≤_;omega
theorem Mz(zs:List Z8)(z:Z8):XM (zs++[z])=XM zs++[A.lst [.int z.1.l,.int z.1.d]]:=by simp [XM]
theorem awV(g:Ev→Mo A)(x0 x1 x2 x3:Option A)(NL:List A)(sk c d k2:Int)(a k b:Nat)(Ω:aF)(fs:List A)(h:g [x0,x1,x2,x3,aT NL,aE b,aA k,aA a] Ω=aM (.int k2) Ω)(aS:dY NL (k:Int)=(aA sk))
  (m1:rG [.int (sk%2147483647),.int ((a:Int)+7)] Ω=aM (.int c) Ω) (m2:rG [.int c,.int k2] Ω=aM (.int d) Ω) (i:pI Ω (.aD b)) (cl:lS Ω (.aD b)=some (b,fs)) (hz:fs.length<sizeLine) :
  hX (jZ nB dP (aC (aN (bN 2 rG) (aC (aN (bN 2 rG) (aC (aB (fO) (aB aW fD jY) (cI 2147483647)) (aC (aB bX lV DR) a0))) (aC g a0))) a0)) [x0,x1,x2,x3,aT NL,aE b,aA k,aA a] Ω=dR [x0,x1,x2,x3,aT NL,aE b,aA k,aA a] (Ω.set b (.lst (fs++[.int d]))):=by
 simp [h,bN,aS,m1,m2,i,cl,hz]
theorem at7(ns rest hW ds:List Int)(od:Int)(many:Int)(k:Nat)(L:Nat)(hk:k<L)(hL:L≤63)(hr:rest.length=L)(hs:hW.length=L)(hd:ds.length≤1000)(x7:Option A)(Ω:aF) :
  ∃(mW:List Int) (d:Int) (y7:Option A),mW.length=L∧0≤d∧d<2147483587 ∧
   GQ [some (.dB ns),aA many,aE Ω.length,aA od,aT (hW.map A.int),aE (Ω.length+1),aA k,x7] (Ω++[.lst (rest.map A.int),.lst (ds.map A.int)])
    = dR [some (.dB ns),aA many,aE Ω.length,aA od,aT (hW.map A.int),aE (Ω.length+1),aA k,y7] (Ω++[.lst (mW.map A.int),.lst ((ds++[d]).map A.int)]):=by
 have gR:=OX Ω (.lst (rest.map A.int)) (.lst (ds.map A.int));have lR:cK (Ω++[.lst (rest.map A.int),.lst (ds.map A.int)]) (.aD Ω.length)=some (rest.map A.int):=iJ gR;have sR:dO (Ω++[.lst (rest.map A.int),.lst (ds.map A.int)]) (.aD Ω.length)=some (rest.map A.int):=by simpa using lR
 have lF:cK (Ω++[.lst (rest.map A.int),.lst (ds.map A.int)]) (.aD (Ω.length+1))=some (ds.map A.int):=iJ (EE ..);have sF:dO (Ω++[.lst (rest.map A.int),.lst (ds.map A.int)]) (.aD (Ω.length+1))=some (ds.map A.int):=by simpa using lF
 have iF:pI (Ω++[.lst (rest.map A.int),.lst (ds.map A.int)]) (.aD (Ω.length+1)):=tE (iJ (EE ..));have cF:lS (Ω++[.lst (rest.map A.int),.lst (ds.map A.int)]) (.aD (Ω.length+1))=some (Ω.length+1,ds.map A.int):=tO (EE ..);have hz:ds.length<sizeLine:=by rw [mG];omega
 have aR:dY (rest.map A.int) (k:Int)=(aA (rest[k]'(by omega))):=by rw [sJ];simp [hr,hk]
 have aS:dY (hW.map A.int) (k:Int)=(aA (hW[k]'(by omega))):=by rw [sJ];simp [hs,hk]
 have f0:=zL (hW[k]'(by omega)) (show(2147483647:Int)≠0 by decide);have f1:=xE (hW[k]'(by omega)) (show(0:Int)<2147483647 by decide);obtain⟨a,ha⟩:∃a,a=ds.length:=⟨_,rfl⟩;have m1:=fun Ω=>NC (hW[k]'(by omega)%2147483647) ((a:Int)+7) Ω f0 (by omega) (by omega) (by omega);have b0:=QM (hW[k]'(by omega)%2147483647) ((a:Int)+7);have b1:=Ao (hW[k]'(by omega)%2147483647) ((a:Int)+7);have cm:kI (a:Int) (a:Int):=CN (by omega) (by omega);have e0:=zL ((a:Int)*a) (show(1009:Int)≠0 by decide);have e1:=xE ((a:Int)*a) (show(0:Int)<1009 by decide);generalize vY (hW[k]'(by omega)%2147483647) ((a:Int)+7)=c at m1 b0 b1;have m2:=fun Ω=>NC c ((a:Int)*a%1009+3) Ω b0 (by omega) (by omega) (by omega);have c0:=QM c ((a:Int)*a%1009+3);have c1:=Ao c ((a:Int)*a%1009+3);generalize vY c ((a:Int)*a%1009+3)=d at m2 c0 c1;have start:∀f:MS,aV (bK (aN dQ (aC dP a0)) (gN 7)) f [some (.dB ns),aA many,aE Ω.length,aA od,aT (hW.map A.int),aE (Ω.length+1),aA k,x7] (Ω++[.lst (rest.map A.int),.lst (ds.map A.int)])
   = f [some (.dB ns),aA many,aE Ω.length,aA od,aT (hW.map A.int),aE (Ω.length+1),aA k,aA a] (Ω++[.lst (rest.map A.int),.lst (ds.map A.int)]):=by
  intro f;rw [bM (ρ1:=[some (.dB ns),aA many,aE Ω.length,aA od,aT (hW.map A.int),aE (Ω.length+1),aA k,aA a]) (Ω':=Ω++[.lst (rest.map A.int),.lst (ds.map A.int)]) (by simp [lF,sF,ha])]
 have eF:∀v:Int,(ds++[v]).map A.int=ds.map A.int++[A.int v]:=fun v=>by simp
 generalize hsk:hW[k]'(by omega)=sk at aS m1
 by_cases hq:rest[k]'(by omega)=0∨od=1
 ·refine⟨rest,d,aA a,hr,c0,c1,?_⟩;rw [eF];unfold GQ;rw [start];generalize hrk:rest[k]'(by omega)=rk at aR hq;have hG:=arT lV [some (.dB ns),aA many,aE Ω.length,aA od,aT (hW.map A.int),aE (Ω.length+1),aA k,aA a] (Ω++[.lst (rest.map A.int),.lst (ds.map A.int)]) (a:Int) (by simp) cm;generalize kM:(a:Int)*(a:Int)%1009+3=k2 at hG m2;generalize hgg:aB bX (aB (fO) (aB (fX) lV lV) (cI 1009)) pQ=gg at hG ⊢;have Cs:(ds.map A.int).length<sizeLine:=by simpa using hz
  have m1':=m1 (Ω++[.lst (rest.map A.int),.lst (ds.map A.int)]);have m2':=m2 (Ω++[.lst (rest.map A.int),.lst (ds.map A.int)]);have hA:=awV gg (some (.dB ns)) (aA many) (aE Ω.length) (aA od) (hW.map A.int) sk c d k2 a k (Ω.length+1) (Ω++[.lst (rest.map A.int),.lst (ds.map A.int)]) (ds.map A.int) hG aS m1' m2' iF cF Cs;rw [Nv]at hA;have arL:(oG (bY (aB iA (aB aW bB jY) bS)) (bY (aB iA bZ bL))) [some (.dB ns),aA many,aE Ω.length,aA od,aT (hW.map A.int),aE (Ω.length+1),aA k,aA a] (Ω++[.lst (rest.map A.int),.lst (ds.map A.int)])=aM true (Ω++[.lst (rest.map A.int),.lst (ds.map A.int)]):=by
   by_cases hm:rk=0
   ·subst hm;simp [sR,aR]
   ·have nA:od=1:=hq.resolve_left hm;subst nA;simp [hm,sR,aR]
  rw [apV arL];exact hA
 ·have KC:¬od=1:=fun z=>hq (.inr z);have nA:¬rest[k]'(by omega)=0:=fun z=>hq (.inl z);have dv:NU (rest[k]'(by omega)) 2147483587:=⟨by decide,by decide⟩;have ix:pH L (k:Int)=some k:=Sf hk;refine⟨rest.set k (rest[k]'(by omega)/2147483587),rest[k]'(by omega)%2147483587,aA a,by simp [hr],by omega,by omega,?_⟩;rw [eF,List.map_set];unfold GQ;rw [start];have FA:cK (Ω++[.lst (rest.map A.int),.lst (ds.map A.int++[A.int (rest[k]'(by omega)%2147483587)])]) (.aD Ω.length)=some (rest.map A.int):=iJ (OX ..);have IP:dO (Ω++[.lst (rest.map A.int),.lst (ds.map A.int++[A.int (rest[k]'(by omega)%2147483587)])]) (.aD Ω.length)=some (rest.map A.int):=by simpa using FA
  have Vc:=OX Ω (.lst (rest.map A.int)) (.lst (ds.map A.int++[A.int (rest[k]'(by omega)%2147483587)]));generalize hrk:rest[k]'(by omega)=rk at aR nA dv FA IP Vc ⊢;simp [KC,sR,aR,nA,iF,cF,hz,Nv,IP,dv,Vc,hr,ix,aiB]
theorem at8(ns hW:List Int)(od many:Int)(L:Nat)(hL:L≤63)(Ω:aF)(rest ds:List Int)(hr:rest.length=L)(hs:hW.length=L)(hd:ds.length≤600)(FN:∀d∈ds,0≤d∧d<2147483587)(x6 x7:Option A) :
  ∃(mW lG:List Int) (HR HQ:Option A),mW.length=L∧lG.length=ds.length+L∧(∀d∈lG,0≤d∧d<2147483587) ∧
   dS (fun _=>True) (gN 6) GQ ((List.range L).map fun(i:Nat)=>A.int (0+(i:Int))) [some (.dB ns),aA many,aE Ω.length,aA od,aT (hW.map A.int),aE (Ω.length+1),x6,x7] (Ω++[.lst (rest.map A.int),.lst (ds.map A.int)])
    = dR [some (.dB ns),aA many,aE Ω.length,aA od,aT (hW.map A.int),aE (Ω.length+1),HR,HQ] (Ω++[.lst (mW.map A.int),.lst (lG.map A.int)]):=by
 obtain⟨ρ1,Ω1,e1,mW,lG,y6,y7,rfl,rfl,a1,a3,a4⟩:=LS (ok:=fun _=>True) (g:=gN 6) (b:=GQ)
  (fun i ρ Ω'=>∃(mW lG:List Int) (y6 y7:Option A),ρ=[some (.dB ns),aA many,aE Ω.length,aA od,aT (hW.map A.int),aE (Ω.length+1),y6,y7]∧Ω'=Ω++[.lst (mW.map A.int),.lst (lG.map A.int)]∧mW.length=L∧lG.length=ds.length+i∧(∀d∈lG,0≤d∧d<2147483587)) (fun _ _ _ _=>trivial)
  ((List.range L).map fun(i:Nat)=>A.int (0+(i:Int))) 0 [some (.dB ns),aA many,aE Ω.length,aA od,aT (hW.map A.int),aE (Ω.length+1),x6,x7] (Ω++[.lst (rest.map A.int),.lst (ds.map A.int)]) ⟨rest,ds,x6,x7,rfl,rfl,hr,rfl,FN⟩
  (by
   rintro i x ρ Ω' hx ⟨ZN,RX,y6,y7,rfl,rfl,b1,b3,b4⟩;have hi:i<L:=by simpa using(dI.mp hx).1
   obtain rfl:A.int (0+(i:Int))=x:=by
    have:=(dI.mp hx).2;simpa using this
   rw [wY]at b3 ⊢;obtain⟨ai1,d,y7',c1,c3,c4,q⟩:=at7 ns ZN hW RX od many i L hi hL b1 hs (by omega) y7 Ω;rw [UW];refine⟨_,_,_,_,rfl,.inl q,ai1,RX++[d],_,_,rfl,rfl,c1,by simp;omega,fun v hv=>?_⟩
   rcases oZ.mp hv with h | h
   ·exact b4 v h
   ·simp at h;rw [h];exact⟨c3,c4⟩)
 simp only [wY,kQ,Zo]at a3;exact⟨mW,lG,y6,y7,a1,a3,a4,e1⟩
theorem at6(ns hW:List Int)(od:Int)(many:Nat)(hm:many≤520)(L:Nat)(hL:L≤63)(hL1:1≤L)(hs:hW.length=L)(Ω:aF):∀(n fuel:Nat) (rest ds:List Int) (x6 x7:Option A),many - ds.length≤n→n<fuel→rest.length=L→ds.length≤583→(∀d∈ds,0≤d∧d<2147483587) →
  ∃(mW lG:List Int) (HR HQ:Option A),many≤lG.length∧lG.length≤583∧(∀d∈lG,0≤d∧d<2147483587) ∧
   nD GR TL fuel [some (.dB ns),aA many,aE Ω.length,aA od,aT (hW.map A.int),aE (Ω.length+1),x6,x7] (Ω++[.lst (rest.map A.int),.lst (ds.map A.int)])
    = dR [some (.dB ns),aA many,aE Ω.length,aA od,aT (hW.map A.int),aE (Ω.length+1),HR,HQ] (Ω++[.lst (mW.map A.int),.lst (lG.map A.int)]):=by
 intro n
 induction n with
 | zero =>
  intro fuel rest ds x6 x7 hn hf hr hd FN;obtain⟨fuel,rfl⟩:∃k,fuel=k+1:=⟨fuel - 1,by omega⟩;have lF:cK (Ω++[.lst (rest.map A.int),.lst (ds.map A.int)]) (.aD (Ω.length+1))=some (ds.map A.int):=iJ (EE ..);have sF:dO (Ω++[.lst (rest.map A.int),.lst (ds.map A.int)]) (.aD (Ω.length+1))=some (ds.map A.int):=by simpa using lF
  have iT:¬(ds.length<many):=by omega
  exact⟨rest,ds,x6,x7,by omega,hd,FN,RP (by simp [GR,lF,sF,iT])⟩
 | succ n ih =>
  intro fuel rest ds x6 x7 hn hf hr hd FN;obtain⟨fuel,rfl⟩:∃k,fuel=k+1:=⟨fuel - 1,by omega⟩;have lF:cK (Ω++[.lst (rest.map A.int),.lst (ds.map A.int)]) (.aD (Ω.length+1))=some (ds.map A.int):=iJ (EE ..);have sF:dO (Ω++[.lst (rest.map A.int),.lst (ds.map A.int)]) (.aD (Ω.length+1))=some (ds.map A.int):=by simpa using lF
  have lR:cK (Ω++[.lst (rest.map A.int),.lst (ds.map A.int)]) (.aD Ω.length)=some (rest.map A.int):=iJ (OX ..);have sR:dO (Ω++[.lst (rest.map A.int),.lst (ds.map A.int)]) (.aD Ω.length)=some (rest.map A.int):=by simpa using lR
  by_cases iT:ds.length<many
  ·obtain⟨ZN,RX,y6,y7,a1,a3,a4,e1⟩:=at8 ns hW od many L hL Ω rest ds hr hs (by omega) FN x6 x7;obtain⟨mW,lG,HR,HQ,b1,b2,b3,q⟩:=ih fuel ZN RX y6 y7 (by omega) (by omega) a1 (by omega) a4;refine⟨mW,lG,HR,HQ,b1,b2,b3,?_⟩;rw [← q];refine Fy (Ω1:=Ω++[.lst (rest.map A.int),.lst (ds.map A.int)]) (by simp [GR,lF,sF,iT]) ?_;unfold TL;rw [pM (S:=sW 0 L) (Ω':=Ω++[.lst (rest.map A.int),.lst (ds.map A.int)]) (QB (n:=L) (by simp [lR,sR,hr]) (by omega))];exact e1
  ·exact⟨rest,ds,x6,x7,by omega,hd,FN,RP (by simp [GR,lF,sF,iT])⟩
theorem Wi(ns:List Int)(many:Nat)(hm:many≤520)(x:Int)(r:List Int)(hr:r.length≤62)(Ω:aF) :
  ∃ds:List Int,ds.length=many∧(∀d∈ds,0≤d∧d<2147483587)∧∃ρ Δ,(aV (bK (aB (fO) (aB aW bB bS) fM) (gN 3))
  (aV (bK (aB (jF) (aB aW bB bS) fM) (RH bB bS))
  (aV (bK (aN (FV false) (aC bB a0)) (gN 4))
  (aV (bK (gL true a0) (gN 5))
  (aV (fun ρ Ω=>nD GR TL ((fun _ _=>1000000) ρ Ω) ρ Ω)
  (cX (mR false dP pD (lJ bJ)))))))) [some (.dB ns),aA many,aE Ω.length,none,none,none,none,none] (Ω++[.lst ((x::r).map A.int)])=some (.ret (.lst (ds.map A.int)),ρ,Ω++Δ):=by
 have d2:lH x 2:=⟨by decide,by decide⟩;obtain⟨mW,ds,x6,x7,b1,b2,b3,q⟩:=at6 ns (x/2::r) (x%2) many hm (r.length+1) (by omega) (by omega) (by simp) Ω many 1000000 (x/2::r) [] none none (by simp) (by omega) (by simp) (by simp) (by simp);refine⟨ds.take many,by simp;omega,fun d hd=>b3 d (Ji hd),[some (.dB ns),aA many,aE Ω.length,aA (x%2),aT ((x/2::r).map A.int),aE (Ω.length+1),x6,x7],[.lst (mW.map A.int),.lst (ds.map A.int)],?_⟩;have lR:cK (Ω++[.lst ((x::r).map A.int)]) (.aD Ω.length)=some ((x::r).map A.int):=iJ (by simp);have sR:dO (Ω++[.lst ((x::r).map A.int)]) (.aD Ω.length)=some ((x::r).map A.int):=by simpa using lR
 have gR:(Ω++[Cell.lst ((x::r).map A.int)])[Ω.length]? = some (.lst ((x::r).map A.int)):=by simp
 have ix:pH (r.length+1) 0=some 0:=by have h:=Sf (n:=r.length+1) (k:=0) (by omega);simpa using h
 have FA:cK (Ω++[.lst ((x/2::r).map A.int)]) (.aD Ω.length)=some ((x/2::r).map A.int):=iJ (by simp);have IP:dO (Ω++[.lst ((x/2::r).map A.int)]) (.aD Ω.length)=some ((x/2::r).map A.int):=by simpa using FA
 have hz:((x/2::r).map A.int).length≤sizeLine:=by rw [mG];simp;omega
 rw [bM (ρ1:=[some (.dB ns),aA many,aE Ω.length,aA (x%2),none,none,none,none]) (Ω':=Ω++[.lst ((x::r).map A.int)]) (by
  simp only [dH]at sR;simp [sR])]
 rw [bM (ρ1:=[some (.dB ns),aA many,aE Ω.length,aA (x%2),none,none,none,none]) (Ω':=Ω++[.lst ((x/2::r).map A.int)]) (by
  simp only [dH]at sR gR;simp [sR,d2,gR,ix])]
 rw [bM (ρ1:=[some (.dB ns),aA many,aE Ω.length,aA (x%2),aT ((x/2::r).map A.int),none,none,none]) (Ω':=Ω++[.lst ((x/2::r).map A.int)]) (by
  generalize (x/2::r).map A.int=u at FA IP hz;simp [FA,IP])]
 rw [bM (ρ1:=[some (.dB ns),aA many,aE Ω.length,aA (x%2),aT ((x/2::r).map A.int),aE (Ω.length+1),none,none]) (Ω':=Ω++[.lst ((x/2::r).map A.int),.lst []]) (by simp [nO])];rw [bM (ρ1:=[some (.dB ns),aA many,aE Ω.length,aA (x%2),aT ((x/2::r).map A.int),aE (Ω.length+1),x6,x7]) (Ω':=Ω++[.lst (mW.map A.int),.lst (ds.map A.int)]) q];have lF:cK (Ω++[.lst (mW.map A.int),.lst (ds.map A.int)]) (.aD (Ω.length+1))=some (ds.map A.int):=iJ (EE ..);have ec:=Ws (ds.map A.int) many (by simpa using b1);have em:(ds.take many).map A.int=(ds.map A.int).take many:=by simp
 rw [em];generalize ds.map A.int=u at lF ec;simp [lF,ec]
theorem axT(ns:List Int)(wK:ns.length≤63)(many:Nat)(hm:many≤520)(Ω:aF):∃ds:List Int,ds.length=many∧(∀d∈ds,0≤d∧d<2147483587)∧NS [.dB ns,.int many] Ω=aM (.lst (ds.map A.int)) Ω:=by
 have hlc:∀Ω,cK Ω (.dB ns)=some (ns.map A.int):=fun _=>rfl;have h1:(1:Nat)≤sizeLine:=by decide
 have gG:∀(n:Nat) (ds:List Int),Cl n (.lst (ds.map A.int)):=fun n ds=>by simp only [Cl];exact Xa n ds
 have fin:∀ds:List Int,(∃ρ Δ,MK [some (.dB ns),aA many,none,none,none,none,none,none] Ω=some (.ret (.lst (ds.map A.int)),ρ,Ω++Δ))→NS [.dB ns,.int many] Ω=aM (.lst (ds.map A.int)) Ω:=by
  rintro ds ⟨ρ,Δ,h⟩;show trim Ω (gC (MK [some (.dB ns),aA many,none,none,none,none,none,none] Ω))=_;rw [h];simp only [gC];exact AD (gG _ _)
 have hz:(ns.map A.int).length≤sizeLine:=by rw [mG];simp;omega
 have r1:bK (aN (FV true) (aC (mR false aL pD (lJ (cI 63))) a0)) (gN 2) [some (.dB ns),aA many,none,none,none,none,none,none] Ω=dR [some (.dB ns),aA many,aE Ω.length,none,none,none,none,none] (Ω++[.lst (ns.map A.int)]):=by
  have hl:=hlc Ω;have ec:nF (ns.map A.int) none (some 63)=ns.map A.int:=by
   unfold nF;rw [HT.PX];have:HT.cR (ns.map A.int).length (ns.map A.int).length (some ((63:Nat):Int))=min 63 (ns.map A.int).length:=HT.IQ _ _ 63;rw [show(some (63:Int))=some ((63:Nat):Int)from rfl,this,kQ,Nat.min_eq_right wK,List.drop_zero];exact NF (by simp)
  have sl:(mR false aL pD (lJ (cI 63))) [some (.dB ns),aA many,none,none,none,none,none,none] Ω=aM (.lst (ns.map A.int)) Ω:=by
   generalize ns.map A.int=u at hl hz ec;simp [hl,hz,ec]
  refine mL (by simp) ?_;rw [aN,cE (gM sl iL)];generalize ns.map A.int=u at hz;simp [nO,hz]
 have gE:=Ve ns Ω.length (Ω++[.lst (ns.map A.int)]) (by simp);cases ns with
 | nil =>
  obtain⟨ds,b1,b2,ρ,Δ,q⟩:=Wi [] many hm 0 [] (by simp) (Ω++[.lst []]);refine⟨ds,b1,b2,fin ds ⟨ρ,.lst []::Δ,?_⟩⟩;unfold MK;rw [bM r1];rw [bM (ρ1:=[some (.dB []),aA many,aE ((Ω++[.lst []]:aF).length),none,none,none,none,none]) (Ω':=Ω++[.lst []]++[.lst ([0].map A.int)]) (by
   simp only [GZ]at gE ⊢;simp [gE,nO,h1])]
  rw [q];simp
 | cons n r =>
  obtain⟨ds,b1,b2,ρ,Δ,q⟩:=Wi (n::r) many hm n r (by simpa using wK) Ω;refine⟨ds,b1,b2,fin ds ⟨ρ,Δ,?_⟩⟩;unfold MK;rw [bM r1];rw [bM (ρ1:=[some (.dB (n::r)),aA many,aE Ω.length,none,none,none,none,none]) (Ω':=Ω++[.lst ((n::r).map A.int)]) (by
   generalize (n::r).map A.int=u at gE;simp [gE])]
  exact q
abbrev hJ:Cell := .tab "upto" ⟨71,53,71,84⟩ (uD "upto")
theorem abM{s l d:Int}{es:List E}(hz:es.length≤1000)(x:Int)(m:Nat)(hm:m≤es.length)(hq:∀(i:Nat) (e:E),es[i]? = some e→(!ah x true e)=decide (m≤i))(ent:A)(Ω:aF)(hT:Ω[0]? = some hJ)(hs:dO Ω ent=some (encL es)) :
  NN [.tup [.int s,.int l,.int d,ent],.int x] Ω=aM (.tup [.int (iS es m),.int (iK s es m)]) Ω:=by
 have hF:tN (qW GN [x]) ent Ω=aM (.int (m:Int)) Ω:=by
  refine atA hs (by simpa using hm) (by simp;omega) fun i a ha=>?_;rw [CK]at ha;cases e:es[i]? with
  | none=>rw [e]at ha;cases ha
  | some z =>
   rw [e]at ha;cases ha;have:=hq i z e;rw [← this];simp only [qW,rZ,GN,ah]
   by_cases h1:z.1<x
   ·have h2:¬x<z.1:=by omega
    simp [cL,h1,h2]
   ·by_cases h3:z.1=x
    ·have h2:¬x<z.1:=by omega
     simp [cL,h1,h2,h3]
    ·have h2:x<z.1:=by omega
     simp [cL,h1,h2,h3]
 have b:=axU s l d ent es m Ω hs hm;have hfw:DU 0 "upto" ⟨71,53,71,84⟩ (uD "upto") [1] (fun ns a=>tN (qW GN ns) a) (aB aW aL pQ) [some (.tup [.int s,.int l,.int d,ent]),aA x] Ω=aM (.int (m:Int)) Ω:=by
  simp only [DU];rw [cE (x:=ent) (Ω':=Ω) (by simp)];rw [if_pos hT];simp only [yZ,rZ];show(match (tN (qW GN [x]) ent Ω)with
   | some (.exc _,_)=>none
   | r=>r)=_
  rw [hF]
 show trim Ω (gC (Hi [some (.tup [.int s,.int l,.int d,ent]),aA x] Ω))=_;unfold Hi;simp [hfw,b]
open Classical in
noncomputable def mU(x:Int)(p:Po):Nat:=if h:∃m,m≤p.es.length∧∀(i:Nat) (e:E),p.es[i]? = some e→(!ah x true e)=decide (m≤i)then Classical.choose h else 0
noncomputable def pV(x:Int)(p:Po):Int:=iS p.es (mU x p)
noncomputable def qY(x:Int)(p:Po):Int:=iK p.s p.es (mU x p)
theorem Ar{R:List Rn}{p:Po}(h:Gd R p)(x:Int):mU x p≤p.es.length∧∀(i:Nat) (e:E),p.es[i]? = some e→(!ah x true e)=decide (mU x p≤i):=by
 have hx:=Wo h.gf x true;unfold mU;rw [dif_pos hx];exact HM hx
theorem U6{R:List Rn}{p:Po}(h:Gd R p)(x:Int):0≤pV x p∧pV x p≤cG R x∧cG R x≤qY x p∧qY x p - pV x p≤p.l:=by
 obtain⟨hm,hq⟩:=Ar h x;obtain⟨b1,b2,b3⟩:=Xo h x true _ hm hq;obtain⟨c1,_,_⟩:=Wn h.gf x true _ hm hq;exact⟨b3,b1,b2,c1⟩
theorem axF{R:List Rn}{p:Po}(h:Gd R p)(hz:p.es.length≤1000)(x:Int)(Ω:aF)(hT:Ω[0]? = some hJ):NN [aI p,.int x] Ω=aM (.tup [.int (pV x p),.int (qY x p)]) Ω :=
 abM hz x _ (Ar h x).1 (Ar h x).2 (.lst (encL p.es)) Ω hT rfl
theorem We:∀{a b:List E},encL a=encL b→a=b
 | [],[],_=>rfl
 | [],_::_,h=>by simp [encL]at h
 | _::_,[],h=>by simp [encL]at h
 | ⟨x,y,z⟩::a,⟨x',y',z'⟩::b,h=>by
  simp only [encL,dH,sN]at h;have e:=We (a:=a) (b:=b) h.2;have h1:=h.1;simp [cL]at h1;obtain⟨rfl,rfl,rfl⟩:=h1;rw [e]
theorem Wc{p q:Po}(h:aI p=aI q):p=q:=by
 cases p with
 | mk s l d es =>
  cases q with
  | mk s' l' d' oV =>
   simp [aI,fQ]at h;obtain⟨rfl,rfl,rfl,h⟩:=h;rw [We h]
noncomputable def pU(x:Int)(ps:List Po):Int:=(ps.map (pV x)).sum
noncomputable def qO(x:Int)(ps:List Po):Int:=(ps.map (qY x)).sum
theorem Ux(x:Int):∀{bs:List (List Int)} {ps:List Po},uV bs ps→0≤pU x ps∧pU x ps≤cG (unit bs.flatten) x∧cG (unit bs.flatten) x≤qO x ps∧qO x ps - pU x ps≤mC ps
 | [],[],_=>by simp [pU,qO,mC,unit,cG]
 | B::bs,p::ps,h=>by
  obtain⟨a,b,c,d⟩:=Ux x h.2;obtain⟨e,f,g,i⟩:=U6 h.1.1 x;have s1:pU x (p::ps)=pV x p+pU x ps:=by simp [pU]
  have s2:qO x (p::ps)=qY x p+qO x ps:=by simp [qO]
  rw [NJ,HY,xS,s1,s2,OV];omega
def iH(x y:Int):A := .tup [.int x,.int y]
theorem axH(ps:List (Int×Int))(hz:ps.length≤100000)(Ω:aF):VF [.lst (ps.map fun p:Int×Int=>iH p.1 p.2)] Ω=aM (.tup [.int (ps.map (·.1)).sum,.int (ps.map (·.2)).sum]) Ω:=by
 have inj:∀x y:Int×Int,iH x.1 x.2=iH y.1 y.2→x=y:=fun x y e=>by
  cases x;cases y;simp [iH]at e;simp [e]
 have q1:Yb [aT (ps.map fun p:Int×Int=>iH p.1 p.2)] Ω=aM (.lst (ps.map fun p=>A.int p.2)) Ω :=
  zX (n:=1) (js:=[]) (fi:=fV aL) (g:=gN 0) (ρ:=[aT (ps.map fun p:Int×Int=>iH p.1 p.2)]) (Ω:=Ω) (Ω0:=Ω) (S:=srcOf (.lst (ps.map fun p:Int×Int=>iH p.1 p.2)) (ps.map fun p:Int×Int=>iH p.1 p.2)) ps (fun p:Int×Int=>iH p.1 p.2) (fun p:Int×Int=>A.int p.2) (fun ρ=>∃y,ρ=[y]) (fun x y e=>by rw [inj x y e])
   (by simp) (fun ys=>by simp [srcOf]) ⟨none,by simp [lP]⟩ rfl (by omega) (fun p hp ρ hP ys=>by
    obtain⟨y,rfl⟩:=hP;exact⟨[some (iH p.1 p.2)],⟨_,rfl⟩,by simp,by simp [iH]⟩) (fun x _=>by simp only [Cl])
 have q2:Xz [aT (ps.map fun p:Int×Int=>iH p.1 p.2)] Ω=aM (.lst (ps.map fun p=>A.int p.1)) Ω :=
  zX (n:=1) (js:=[]) (fi:=fV aL) (g:=gN 0) (ρ:=[aT (ps.map fun p:Int×Int=>iH p.1 p.2)]) (Ω:=Ω) (Ω0:=Ω) (S:=srcOf (.lst (ps.map fun p:Int×Int=>iH p.1 p.2)) (ps.map fun p:Int×Int=>iH p.1 p.2)) ps (fun p:Int×Int=>iH p.1 p.2) (fun p:Int×Int=>A.int p.1) (fun ρ=>∃y,ρ=[y]) (fun x y e=>by rw [inj x y e])
   (by simp) (fun ys=>by simp [srcOf]) ⟨none,by simp [lP]⟩ rfl (by omega) (fun p hp ρ hP ys=>by
    obtain⟨y,rfl⟩:=hP;exact⟨[some (iH p.1 p.2)],⟨_,rfl⟩,by simp,by simp [iH]⟩) (fun x _=>by simp only [Cl])
 have i1:intsOf (ps.map fun p=>A.int p.1)=some (ps.map (·.1)):=by
  have:=JP (ps.map (·.1));rw [uT]at this;exact this
 have i2:intsOf (ps.map fun p=>A.int p.2)=some (ps.map (·.2)):=by
  have:=JP (ps.map (·.2));rw [uT]at this;exact this
 have s2:(2:Nat)≤sizeLine:=by decide
 show trim Ω (gC (SH [aT (ps.map fun p:Int×Int=>iH p.1 p.2)] Ω))=_;have e:SH [aT (ps.map fun p:Int×Int=>iH p.1 p.2)] Ω=some (.ret (.tup [.int (ps.map (·.1)).sum,.int (ps.map (·.2)).sum]),[aT (ps.map fun p:Int×Int=>iH p.1 p.2)],Ω):=by
  unfold SH;generalize (ps.map fun p=>A.int p.1)=us at q2 i1;generalize (ps.map fun p=>A.int p.2)=vs at q1 i2;generalize (ps.map fun p:Int×Int=>iH p.1 p.2)=ws at q1 q2;simp [q1,q2,i1,i2,s2]
 rw [e];simp only [pE];exact rR
section
variable{Ω:aF}{s:Nat}{L b k:Int}{aK:List Int}{bs:List (List Int)}{ns:List Int}
theorem aj6(h:jH Ω s L b k aK bs ns){v:Int}{q:Nat}{nl:List Int}(hv:v≤L)(T:Taken b aK bs ns v q nl):∀p∈bH k bs q nl,p.es.length≤1000:=fun r hr=>by
 have nC:=Pe h.k1 h.k2 h.wi T h.b1 h.b2 (by have:=h.L2;omega);have:∀(ps:List Po),r∈ps→r.es.length≤(ps.map fun p=>p.es.length).sum:=by
  intro ps
  induction ps with
  | nil=>intro z;cases z
  | cons x xs ih =>
   intro z;rw [dH,rD]
   rcases dN.mp z with y | y
   ·subst y;omega
   ·have:=ih y;omega
 have:=this _ hr;rw [← QN]at this;omega
theorem Vb:∀{bs:List (List Int)} {ps:List Po},uV bs ps→∀p∈ps,∃R,Gd R p
 | [],[],_,p,hp=>by cases hp
 | B::bs,q::ps,h,p,hp=>by
  rcases dN.mp hp with z | z
  ·subst z;exact⟨_,h.1.1⟩
  ·exact Vb h.2 p z
theorem Jd(h:jH Ω s L b k aK bs ns)(hT:Ω[0]? = some hJ)(x:Int)(a:A)(v:Int)(ha:oO L aK.length a=some v)(h1:1≤v)(h2:v≤min L aK.length){q:Nat}{nl:List Int}(T:Taken b aK bs ns v q nl) :
  uX [.aD s,.int x,a] Ω=aM (.tup [.int (max 0 (pU x (bH k bs q nl) - (hU (bH k bs q nl) - v))),.int (min v (qO x (bH k bs q nl)))]) Ω:=by
 have ll:=Je h.at_ a v ha;rw [if_neg (by omega)]at ll;have pp:=h.parts h1 T;have hf:=h.nC q nl;have wN:=aj6 h (by omega) T;have hg:=Vb (RG h.k1 bs q nl);have ho:Ω[s]? = some (.ins "Window" (wF L b k aK.length ((bs.map (bO k)).map aI) (ns.map A.int))):=h.at_;have be:=Jf (bH k bs q nl) (by omega) v Ω;show trim Ω (gC (ML [aE s,aA x,some a,none,none] Ω))=_;have g1:(dE "look_last" [("Window",dD 2 [] xI)] aL (aC bB a0)) [aE s,aA x,some a,none,none] Ω=aM (.int v) Ω:=by
  refine Eq.trans (uN (as:=[a]) (s:=s) rfl ho rfl ?_ rfl) ll;exact gM rfl iL
 have g2:(dE "parts" [("Window",dD 2 [] uZ)] aL (aC bB a0)) [aE s,aA x,aA v,none,none] Ω=aM (.lst ((bH k bs q nl).map aI)) Ω:=by
  refine Eq.trans (uN (as:=[.int v]) (s:=s) rfl ho rfl ?_ rfl) pp;exact gM rfl iL
 have h0l:0<Ω.length:=(dI.mp hT).1;have q1:Hu [aE s,aA x,aA v,aT ((bH k bs q nl).map aI),none] Ω=aM (.lst ((bH k bs q nl).map fun p=>iH (pV x p) (qY x p))) Ω :=
  zX (n:=1) (js:=[1]) (fi:=fV bZ) (g:=gN 0) (ρ:=[aE s,aA x,aA v,aT ((bH k bs q nl).map aI),none]) (Ω:=Ω) (Ω0:=Ω) (S:=srcOf (.lst ((bH k bs q nl).map aI)) ((bH k bs q nl).map aI)) (bH k bs q nl) aI (fun p=>iH (pV x p) (qY x p)) (fun ρ=>∃y,ρ=[y,aA x]) (fun x y e=>by rw [Wc e])
   (by simp) (fun ys=>by simp [srcOf]) ⟨none,by simp [lP]⟩ rfl (by omega) (fun p hp ρ hP ys=>by
    obtain⟨y,rfl⟩:=hP;obtain⟨R,gR⟩:=hg p hp;have u:=axF gR (wN p hp) x (Ω++[.lst ys]) (by rw [jL h0l];exact hT);generalize aI p=P at u;refine⟨[some P,aA x],⟨_,rfl⟩,by simp,?_⟩;simp [bN,u,iH]) (fun x _=>by simp [iH,Cl,fH])
 have sm:=axH ((bH k bs q nl).map fun p=>(pV x p,qY x p)) (by simp;omega) Ω;simp only [uT]at sm;have e1:(bH k bs q nl).map ((fun p:Int×Int=>iH p.1 p.2) ∘ fun p=>(pV x p,qY x p))=(bH k bs q nl).map fun p=>iH (pV x p) (qY x p):=rfl;have e2:((bH k bs q nl).map ((fun p:Int×Int=>p.1) ∘ fun p=>(pV x p,qY x p))).sum=pU x (bH k bs q nl):=rfl;have e3:((bH k bs q nl).map ((fun p:Int×Int=>p.2) ∘ fun p=>(pV x p,qY x p))).sum=qO x (bH k bs q nl):=rfl;rw [e1,e2,e3]at sm;have s2:(2:Nat)≤sizeLine:=by decide
 have e:ML [aE s,aA x,some a,none,none] Ω=some (.ret (.tup [.int (max 0 (pU x (bH k bs q nl) - (hU (bH k bs q nl) - v))),.int (min v (qO x (bH k bs q nl)))]),[aE s,aA x,aA v,aT ((bH k bs q nl).map aI),some (.tup [.int (pU x (bH k bs q nl)),.int (qO x (bH k bs q nl))])],Ω):=by
  unfold ML;rw [bM (mL (by simp) g1)];show aV _ _ [aE s,aA x,aA v,none,none] Ω=_;rw [bM (mL (by simp) g2)];show aV _ _ [aE s,aA x,aA v,aT ((bH k bs q nl).map aI),none] Ω=_;generalize ((bH k bs q nl).map fun p=>iH (pV x p) (qY x p))=us at q1 sm;generalize pU x (bH k bs q nl)=lo at sm;generalize qO x (bH k bs q nl)=hi at sm;generalize hU (bH k bs q nl)=S at be;generalize (bH k bs q nl).map aI=vs at be q1;have g3:(aN (bN 1 VF) (aC Hu a0)) [aE s,aA x,aA v,aT vs,none] Ω=aM (.tup [.int lo,.int hi]) Ω:=by
   rw [aN,cE (gM q1 iL)];simp [bN,sm]
  rw [bM (mL (by simp) g3)];show cX _ [aE s,aA x,aA v,aT vs,some (.tup [.int lo,.int hi])] Ω=_;simp [bN,be,s2]
 rw [e];simp only [pE];exact rR
theorem XN{last:Int}{q:Nat}{nl:List Int}(hk:1≤k)(T:Taken b aK bs ns last q nl)(h1:1≤last)(x:Int):∃lo hi:Int,lo=max 0 (pU x (bH k bs q nl) - (hU (bH k bs q nl) - last))∧hi=min last (qO x (bH k bs q nl))∧0≤lo ∧
  lo≤(((aK.drop (aK.length - last.toNat)).filter fun y=>decide (y≤x)).length:Int)∧(((aK.drop (aK.length - last.toNat)).filter fun y=>decide (y≤x)).length:Int)≤hi∧hi≤last∧hi - lo≤lM k bs q nl last:=by
 have g:=RG hk bs q nl;obtain⟨w1,w2,w3⟩:=RF g;obtain⟨a0,a1,a2,a3⟩:=Ux x g;have fe:(bs.drop (bs.length - q)++[nl]).flatten=(bs.drop (bs.length - q)).flatten++nl:=by simp
 rw [fe]at w2 a1 a2;have hm:=T.many;have he:=T.Ge;rw [kF]at w2;push_cast at w2;have hS:last≤hU (bH k bs q nl):=by omega
 refine⟨_,_,rfl,rfl,by omega,?_⟩;unfold lM;obtain⟨Y,hY⟩:=T.xU;generalize hK:(bs.drop (bs.length - q)).flatten++nl=K at hY fe a1 a2;have hKl:(K.length:Int)=hU (bH k bs q nl):=by rw [← hK,kF];push_cast;omega
 have KP:aK.drop (aK.length - last.toNat)=K.drop (K.length - last.toNat):=by
  rw [hY,kF,List.drop_append];have:Y.drop (Y.length+K.length - last.toNat)=[]:=Zu (by omega);rw [this,xA];congr 1;omega
 have fl:=Zq (fun y=>decide (y≤x)) (K.drop (K.length - last.toNat));rw [List.length_drop]at fl;rw [KP,← yY];rw [← KP]at fl;have eK:K=K.take (K.length - last.toNat)++K.drop (K.length - last.toNat):=(Jh _ _).symm;have u2:cG (unit K) x=cG (unit (K.take (K.length - last.toNat))) x+cG (unit (K.drop (K.length - last.toNat))) x:=by
  conv=>lhs;rw [eK]
  rw [HY,xS]
 have v1:0≤cG (unit (K.take (K.length - last.toNat))) x:=by rw [yY];omega
 have v2:cG (unit (K.take (K.length - last.toNat))) x≤hU (bH k bs q nl) - last:=by
  rw [yY];have:=Zq (fun y=>decide (y≤x)) (K.take (K.length - last.toNat));have l:(K.take (K.length - last.toNat)).length=K.length - last.toNat:=by simp
  omega
 have v3:cG (unit (K.drop (K.length - last.toNat))) x≤last:=by
  rw [yY,← KP];omega
 have v4:0≤cG (unit (K.drop (K.length - last.toNat))) x:=by rw [yY];omega
 generalize cG (unit (K.drop (K.length - last.toNat))) x=x2 at *;generalize pU x (bH k bs q nl)=lo at *;generalize qO x (bH k bs q nl)=hi at *;refine⟨?_,?_,?_,?_⟩ <;> omega
theorem amL{last:Int}{q:Nat}{nl:List Int}(h:jH Ω s L b k aK bs ns)(T:Taken b aK bs ns last q nl)(h1:1≤last):0≤lM k bs q nl last∧lM k bs q nl last≤b - 1+(last/b+1)*(b/k):=by
 have hb:=h.b1;have hk:=h.k1;have g:=RG hk bs q nl;obtain⟨w1,w2,w3⟩:=RF g;have fe:(bs.drop (bs.length - q)++[nl]).flatten=(bs.drop (bs.length - q)).flatten++nl:=by simp
 rw [fe]at w2;have hm:=T.many;have he:=T.Ge;have ov:=T.over;rw [kF]at w2;push_cast at w2;have sl:∀(cs:List (List Int)),(∀B∈cs,(B.length:Int)=b)→mC (cs.map (bO k))=cs.length*(b/k):=by
  intro cs
  induction cs with
  | nil=>intro _;simp [mC]
  | cons B r ih =>
   intro hB;have i:=ih fun C hC=>hB C (by simp [hC]);have h0:=hB B (by simp);rw [dH,OV,i];have:(bO k B).l=b/k:=by
    show(0:Int)+whole (unit B)/k=_;rw [AA,h0];omega
   rw [this,gO];push_cast;rw [zM];omega
 have s1:=sl (bs.drop (bs.length - q)) fun B hB=>h.wi.len B (Jj hB);have hd:(bs.drop (bs.length - q)).length=q:=by have:=T.ZV;simp;omega
 rw [hd]at s1;have s2:mC (bH k bs q nl)=q*(b/k):=by
  have:mC (bH k bs q nl)=mC ((bs.drop (bs.length - q)).map (bO k))+(kW (unit nl)).l:=by simp [bH,mC]
  rw [this,s1];show _+(0:Int)=_;omega
 have hq:(q:Int)≤last/b+1:=by
  have d2:=Zx (x:=last) (k:=b) (by omega)
  rcases Int.lt_or_le (last/b+1) (q:Int)with z | z
  ·exfalso;have h4:(last/b+1+1)*b≤(q:Int)*b:=UX (by omega) (by omega);rw [zM,zM,Int.mul_comm (last/b) b]at h4;omega
  ·exact z
 have dk:0≤b/k:=UY (by omega) (by omega);have uH:(q:Int)*(b/k)≤(last/b+1)*(b/k):=UX hq dk;unfold lM;rw [s2]at w3 ⊢;constructor
 ·omega
 ·omega
end
def nU(ps:List Po):Nat:=(ps.map fun p=>p.es.length).sum
theorem Vx:∀ps:List Po,(ps.map fun p=>(p.es.length:Int)).sum=(nU ps:Int)
 | []=>rfl
 | p::ps=>by
  have ih:=Vx ps;have e:nU (p::ps)=p.es.length+nU ps:=by simp [nU]
  rw [dH,rD,ih,e];push_cast;rfl
section
variable{Ω:aF}{s r:Nat}{L b k:Int}{aK:List Int}{bs:List (List Int)}{ns:List Int}
theorem awR(p:Po)(Ω:aF):aW (aI p) (.int 3) Ω=aM (.lst (encL p.es)) Ω:=by simp [aI,fQ,GS]
theorem Zj(h:jH Ω s L b k aK bs ns):nX [.aD s] Ω=aM (.int ((ns.length:Int)+(nU (bs.map (bO k)):Int))) Ω:=by
 have hs:=h.at_.lt;have h':Ω[s]? = some (.ins "Window" (wF L b k aK.length ((bs.map (bO k)).map aI) (ns.map A.int))):=h.at_;have arS:=h.wi.RO h.b1 h.L2;show trim Ω (gC (TR [aE s] Ω))=_;have e3:vM 0 "full" (aB bX (mS ["Window"] 0 "newest") (aN tM (aC TQ a0))) [aE s] Ω=aM (.int ((ns.length:Int)+(nU (bs.map (bO k)):Int))) Ω:=by
  refine Ru (c := .lst ((bs.map (bO k)).map aI)) rfl h' HS rfl ?_ (by simp only [Cl]);have ho:=EW (cls := "Window") (f := "full") (fs:=wF L b k aK.length ((bs.map (bO k)).map aI) (ns.map A.int)) (c := .lst ((bs.map (bO k)).map aI)) hs;have hn:=EX (Ω:=Ω) (s:=s) (cls := "Window") (f := "full") (fs:=wF L b k aK.length ((bs.map (bO k)).map aI) (ns.map A.int)) (c := .lst ((bs.map (bO k)).map aI));generalize eQ Ω s "Window" "full" (wF L b k aK.length ((bs.map (bO k)).map aI) (ns.map A.int)) (.lst ((bs.map (bO k)).map aI))=Ω1 at *;have hN:Ω.length<Ω1.length:=(dI.mp hn).1;have g:=pY (ρ:=[aE s]) (f := "full") (a := .aD Ω.length) rfl ho rfl;have li:∀Δ,dO (Ω1++Δ) (.aD Ω.length)=some ((bs.map (bO k)).map aI):=fun Δ=>iJ (by rw [jL hN];exact hn);have li0:dO Ω1 (.aD Ω.length)=some ((bs.map (bO k)).map aI):=by have:=li [];simpa using this
  have f2:=RS (ρ:=[aE s]) (f := "newest") (ds:=ns.map A.int) rfl ho rfl;rw [kQ]at f2;have hl:(bs.map (bO k)).length≤1000:=by simp;omega
  generalize bs.map (bO k)=ps at *;have sq:(fV (bV ["Window"] "full" aL)) [aE s] Ω1=aM (srcOf (.aD Ω.length) (ps.map aI)) Ω1:=by
   rw [fV,cE g];simp only [li0]
  have q1:TQ [aE s] Ω1=aM (.lst (ps.map fun p=>A.int p.es.length)) Ω1 :=
   zX (n:=1) (js:=[]) (fi:=fV (bV ["Window"] "full" aL)) (g:=gN 0) (ρ:=[aE s]) (Ω:=Ω1) (Ω0:=Ω1) (S:=srcOf (.aD Ω.length) (ps.map aI)) ps aI (fun p=>A.int p.es.length) (fun ρ=>∃y,ρ=[y]) (fun x y e=>by rw [Wc e])
    sq (fun ys=>li _) ⟨none,by simp [lP]⟩ rfl (by omega) (fun p hp ρ hP ys=>by
     obtain⟨y,rfl⟩:=hP;have e:=awR p (Ω1++[.lst ys]);have ll:((encL p.es).length:Int)=p.es.length:=by simp [encL]
     generalize aI p=P at e;refine⟨[some P],⟨_,rfl⟩,by simp,?_⟩;have e':(aB aW aL pQ) [some P] (Ω1++[.lst ys])=aM (.lst (encL p.es)) (Ω1++[.lst ys]):=by
      rw [aB,cE (x:=P) (Ω':=Ω1++[.lst ys]) (by simp),cE (x:=A.int 3) (Ω':=Ω1++[.lst ys]) (by simp)];exact e
     have si:dO (Ω1++[.lst ys]) (.lst (encL p.es))=some (encL p.es):=rfl;rw [aN,cE (gM e' iL)];simp only [dQ,si,ll]) (fun x _=>by simp only [Cl])
  have io:intsOf (ps.map fun p=>A.int (p.es.length:Int))=some (ps.map fun p=>(p.es.length:Int)):=by
   have:=JP (ps.map fun p=>(p.es.length:Int));rw [uT]at this;exact this
  have sm:=Vx ps;have b2:(aN tM (aC TQ a0)) [aE s] Ω1=aM (.int (nU ps)) Ω1:=by
   rw [aN,cE (gM q1 iL),← sm];have li:cK Ω1 (.lst (ps.map fun p=>A.int p.es.length))=some (ps.map fun p=>A.int p.es.length):=rfl;generalize (ps.map fun p=>A.int (p.es.length:Int))=us at li io;simp [li,io]
  rw [aB,cE f2,cE b2];simp
 have e:TR [aE s] Ω=some (.ret (.int ((ns.length:Int)+(nU (bs.map (bO k)):Int))),[aE s],Ω):=by
  unfold TR;exact AJ e3
 rw [e];simp only [pE];exact rR
theorem aaR(h:WI L b [] bs ns)(hb:1≤b):bs=[]∧ns=[]:=by
 obtain⟨len,nC,⟨D,hD,hd⟩,top⟩:=h;have h2:=hD.symm;simp only [List.append_eq_nil_iff]at h2;refine⟨?_,h2.2⟩;cases bs with
 | nil=>rfl
 | cons B bs =>
  have h3:=h2.1.2;rw [NJ,List.append_eq_nil_iff]at h3;have:=len B (by simp);rw [h3.1]at this;simp at this;omega
theorem Tw(h:jH Ω s L b k [] bs ns):nX [.aD s] Ω=aM (.int 0) Ω:=by
 obtain⟨e1,e2⟩:=aaR h.wi h.b1;have q:=Zj h;subst e1;subst e2;simpa [nU]using q
theorem arG(h:jH Ω s L b k aK bs ns)(eW:1≤aK.length):0<(ns.length:Int)+(nU (bs.map (bO k)):Int)∧(ns.length:Int)+(nU (bs.map (bO k)):Int)≤(L/b+2)*2*k+b:=by
 have hb:=h.b1;have hk:=h.k1;have kM:=h.k2;have hL:=h.L1;obtain⟨len,nC,⟨D,hD,hd⟩,top⟩:=h.wi;constructor
 ·cases bs with
  | nil =>
   have:1≤ns.length:=by
    rcases hd with z | z
    ·rw [hD,z]at eW;simpa using eW
    ·simp at z;omega
   omega
  | cons B r =>
   have l:=len B (by simp);have g:Gd (unit B) (bO k B):=(LH (xT B)).lZ k hk;have e1:(bO k B).s=b:=by rw [← l,← AA B];exact g.sz
   have:(bO k B).es≠[]:=fun z=>by
    have:=(Uv g.gf).mpr z;omega
   have:1≤(bO k B).es.length:=Zp.mpr this;have e2:nU ((B::r).map (bO k))=(bO k B).es.length+nU (r.map (bO k)):=by simp [nU]
   omega
 ·obtain⟨k',rfl⟩:=HF (show 0≤k by omega);have l2:nU (bs.map (bO k'))≤bs.length*(2*k'):=(He (k:=k') (by omega) b.toNat bs fun B hB=>by have:=len B hB;omega).2;have hq:(bs.length:Int)≤L/b+1:=by
   have d2:=Zx (x:=L) (k:=b) (by omega)
   rcases Int.lt_or_le (L/b+1) (bs.length:Int)with z | z
   ·exfalso;have h4:(L/b+1)*b≤((bs.length:Int) - 1)*b:=UX (by omega) (by omega);rw [zM,Int.mul_comm (L/b) b]at h4;omega
   ·exact z
  have h5:(bs.length:Int)*(2*(k':Int))≤(L/b+2)*(2*(k':Int)):=UX (by omega) (by omega);have h6:(nU (bs.map (bO k')):Int)≤(bs.length:Int)*(2*(k':Int)):=by exact_mod_cast l2
  rw [Int.mul_assoc];omega
end
def AR(xs:List Int)(v:Int):Int:=xs.foldl (fun a x=>a*2147483587+x) v
theorem Ql(ok:aF→Prop)(x0 x1:Option A)(Ω:aF)(aH:ok Ω):∀(xs:List Int) (v:Int) (x3:Option A),∃y3,dS ok (gN 3) Ht (xs.map A.int) [x0,x1,aA v,x3] Ω=dR [x0,x1,aA (AR xs v),y3] Ω
 | [],v,x3=>⟨x3,by simp [dS,aH,AR]⟩
 | x::xs,v,x3=>by
  obtain⟨y3,q⟩:=Ql ok x0 x1 Ω aH xs (v*2147483587+x) (aA x);refine⟨y3,?_⟩;have e:AR (x::xs) v=AR xs (v*2147483587+x):=rfl;rw [e,← q,dH];have cm:kI v 2147483587:=CM (by decide) (by decide);refine lE aH (ρ0:=[x0,x1,aA v,aA x]) (Ω0:=Ω) (by simp) (by simp [Ht,cm])
theorem axN(x:Int)(xs:List Int)(so:Int):∃n,∀Ω,xG [.lst ((x::xs).map A.int),.int so] Ω=aM (.int n) Ω:=by
 have h2:∀j,kI 2 j:=fun j=>CN (by decide) (by decide);have h3:DN 10 18:=⟨by decide,by decide,by decide⟩;have h5:DN 10 60:=⟨by decide,by decide,by decide⟩;have QY:(3:Nat)≤sizeLine:=by decide
 by_cases k0:so=0
 ·exact⟨x%7,fun Ω=>by simp [xG,wV,k0]⟩
 by_cases k1:so=1
 ·exact⟨x%100 - 50,fun Ω=>by simp [xG,wV,k1]⟩
 by_cases k4:so=4
 ·have hm:x%3=0∨x%3=1∨x%3=2:=by omega
  rcases hm with e | e | e
  ·exact⟨5,fun Ω=>by simp [xG,wV,k4,e,QY]⟩
  ·exact⟨-5,fun Ω=>by simp [xG,wV,k4,e,QY]⟩
  ·exact⟨0,fun Ω=>by simp [xG,wV,k4,e,QY,GS]⟩
 refine⟨if so=2 then AR (x::xs) 0%(2*10 ^ 18+1) - 10 ^ 18 else AR (x::xs) 0%(2*10 ^ 60 - 1) - 10 ^ 60+1,fun Ω=>?_⟩;obtain⟨y3,q⟩:=Ql (fun Ω'=>dO Ω' (.lst ((x::xs).map A.int))=some ((x::xs).map A.int)) (some (.lst ((x::xs).map A.int))) (aA so) Ω rfl (x::xs) 0 none;show trim Ω (gC (wV [aT ((x::xs).map A.int),aA so,none,none] Ω))=_;generalize AR (x::xs) 0=v at q;generalize hu:(x::xs).map A.int=u at q;have e:wV [aT u,aA so,none,none] Ω=some (.ret (.int (if so=2 then v%(2*10 ^ 18+1) - 10 ^ 18 else v%(2*10 ^ 60 - 1) - 10 ^ 60+1)),[aT u,aA so,aA v,y3],Ω):=by
  unfold wV;rw [bM (ρ1:=[aT u,aA so,none,none]) (Ω':=Ω) (by simp [k0])];rw [bM (ρ1:=[aT u,aA so,none,none]) (Ω':=Ω) (by simp [k1])];rw [bM (ρ1:=[aT u,aA so,none,none]) (Ω':=Ω) (by simp [k4])];rw [bM (ρ1:=[aT u,aA so,aA 0,none]) (Ω':=Ω) (by simp)];rw [bM (ρ1:=[aT u,aA so,aA v,y3]) (Ω':=Ω) (by
   rw [pM (S:=srcOf (.lst u) u) (Ω':=Ω) (by simp)];exact q)]
  by_cases k2:so=2
  ·simp [k2,h2,h3]
  ·simp [k2,h2,h5]
 rw [e];simp only [pE];exact rR
theorem WA(n:Int)(Ω:aF):DG [.int n] Ω=aM (.bl true) Ω:=by simp [DG,Yg]
theorem FZ{nm:Str}{m:Nat}{jA:List A}{F:List A→Mo A}{f:Ev→Mo A}{args:Ev→Mo (List A)}{as:List A}{ρ:Ev}{Ω:aF}{s:Nat}{fs:List (Str×Fd)}(h0:f ρ Ω=aM (.aD s) Ω)(ho:Ω[s]? = some (.ins "Window" fs))(hl:fs.lookup nm=none)(ha:args ρ Ω=aM as Ω)(hn:as.length+1+jA.length=m) :
  (dE nm [("Window",dD m jA F)] f args) ρ Ω=F (.aD s::(as++jA)) Ω:=by
 have JY:(A.aD s::as).length+jA.length=m:=by simp;omega
 unfold dE;rw [cE h0];simp only [RK,ho,List.lookup,hl,Hg,cE ha,dD,JY,fW,Jm]
theorem Ba{e:Ev→Mo A}{ρ:Ev}{Ω:aF}{ds:List A}(h:e ρ Ω=aM (.lst ds) Ω):(aN dQ (aC e a0)) ρ Ω=aM (.int ds.length) Ω:=by
 rw [aN,cE (gM h iL)];simp [dQ,dO,cK]
section
variable{Ω:aF}{s r:Nat}{L b k:Int}{aK:List Int}{bs:List (List Int)}{ns:List Int}
theorem axE(h:jH Ω s L b k aK bs ns)(hT:Ω[0]? = some hJ)(x:Int)(a:A)(v:Int)(ha:oO L aK.length a=some v)(h1:1≤v)(h2:v≤min L aK.length){q:Nat}{nl:List Int}(T:Taken b aK bs ns v q nl) :
  Kb [.aD s,.lst ((aK.drop (aK.length - v.toNat)).map A.int),.int x,a,.int (lM k bs q nl v)] Ω=aM (.bl true) Ω:=by
 have up:=Jd h hT x a v ha h1 h2 T;obtain⟨lo,hi,el,eh,t0,t1,t2,t3,t4⟩:=XN h.k1 T h1 x;rw [← el,← eh]at up;generalize lM k bs q nl v=off at *;have ho:Ω[s]? = some (.ins "Window" (wF L b k aK.length ((bs.map (bO k)).map aI) (ns.map A.int))):=h.at_;have hL:=h.L2;have ln:((aK.drop (aK.length - v.toNat)).length:Int)=v:=by simp;omega
 have hz:(aK.drop (aK.length - v.toNat)).length≤100000:=by omega
 generalize aK.drop (aK.length - v.toNat)=xs at *;have fl:∀x5,Yh [aE s,aT (xs.map A.int),aA x,some a,aA off,x5,none] Ω=aM (.lst ((xs.filter fun y=>decide (y≤x)).map A.int)) Ω:=fun x5 =>
  WT (n:=1) (js:=[2]) (fi:=fV bJ) (g:=gN 0) (ρ:=[aE s,aT (xs.map A.int),aA x,some a,aA off,x5,none]) (Ω:=Ω) (Ω0:=Ω) (S:=srcOf (.lst (xs.map A.int)) (xs.map A.int)) xs A.int A.int (fun y=>decide (y≤x)) (fun ρ=>∃y,ρ=[y,aA x]) (fun x y e=>by cases e;exact⟨rfl,rfl⟩)
   (by simp) (fun ys=>by simp [srcOf]) ⟨none,by simp [lP]⟩ rfl (by omega) (fun y hx ρ hP ys=>by
    obtain⟨y',rfl⟩:=hP;exact⟨[aA y,aA x],⟨_,rfl⟩,by simp,by simp,by simp⟩) (fun x _=>by simp only [Cl])
 show trim Ω (gC (SU [aE s,aT (xs.map A.int),aA x,some a,aA off,none,none] Ω))=_;have g1:(dE "upto" [("Window",dD 3 [] uX)] aL (aC bB (aC bZ a0))) [aE s,aT (xs.map A.int),aA x,some a,aA off,none,none] Ω=aM (.tup [.int lo,.int hi]) Ω:=by
  refine Eq.trans (uN (as:=[.int x,a]) (s:=s) rfl ho rfl ?_ rfl) up;exact gM rfl (gM rfl iL)
 have w:=WA;have sl:dO Ω (.lst (xs.map A.int))=some (xs.map A.int):=rfl;have lm:((xs.map A.int).length:Int)=v:=by simpa using ln
 have f2:=fl (some (.tup [.int lo,.int hi]));have l1:=Ba f2;rw [kQ]at l1;have e:SU [aE s,aT (xs.map A.int),aA x,some a,aA off,none,none] Ω=some (.ret (.bl true),[aE s,aT (xs.map A.int),aA x,some a,aA off,some (.tup [.int lo,.int hi]),aA ((xs.filter fun y=>decide (y≤x)).length:Int)],Ω):=by
  unfold SU;rw [bM (mL (by simp) g1)];show aV _ _ [aE s,aT (xs.map A.int),aA x,some a,aA off,some (.tup [.int lo,.int hi]),none] Ω=_;generalize ((xs.filter fun y=>decide (y≤x)).length:Int)=due at *;generalize xs.map A.int=us at *;rw [bM (ρ1:=[aE s,aT us,aA x,some a,aA off,some (.tup [.int lo,.int hi]),none]) (Ω':=Ω) (by simp [bN,w])];rw [bM (mL (by simp) l1)];show cX _ [aE s,aT us,aA x,some a,aA off,some (.tup [.int lo,.int hi]),aA due] Ω=_;have YB:hi≤(us.length:Int):=by omega
  simp [t0,t1,t2,YB,t4]
 rw [e];simp only [pE];exact rR
theorem axJ(h:jH Ω s L b k aK bs ns)(hr:Ω[r]? = some (.lst (aK.map A.int)))(p:Int)(a:A)(v:Int)(ha:oO L aK.length a=some v)(h1:1≤v)(h2:v≤min L aK.length)(hp:1≤p)(iY:p≤v){q:Nat}{nl:List Int}(T:Taken b aK bs ns v q nl) :
  Kc [.aD s,.aD r,.lst ((aK.drop (aK.length - v.toNat)).map A.int),.int p,a,.int (lM k bs q nl v)] Ω=aM (.bl true) Ω:=by
 obtain⟨o1,o2,n,hn,hm,u1,u2⟩:=ab7 (L:=L) h.k1 T h1 p hp iY;have so:=axA h p a v ha h1 h2 hp iY T n hn o2;generalize lM k bs q nl v=off at *;have ho:Ω[s]? = some (.ins "Window" (wF L b k aK.length ((bs.map (bO k)).map aI) (ns.map A.int))):=h.at_;have hL:=h.L2;have hz:(aK.drop (aK.length - v.toNat)).length≤100000:=by simp;omega
 have gm:=as4 n aK hm r Ω hr;generalize aK.drop (aK.length - v.toNat)=xs at *;have f1:∀x7,Yi [aE s,aE r,aT (xs.map A.int),aA p,some a,aA off,aA n,x7] Ω=aM (.lst ((xs.filter fun y=>decide (y<n)).map A.int)) Ω:=fun x7 =>
  WT (n:=1) (js:=[6]) (fi:=fV bB) (g:=gN 0) (ρ:=[aE s,aE r,aT (xs.map A.int),aA p,some a,aA off,aA n,x7]) (Ω:=Ω) (Ω0:=Ω) (S:=srcOf (.lst (xs.map A.int)) (xs.map A.int)) xs A.int A.int (fun y=>decide (y<n)) (fun ρ=>∃y,ρ=[y,aA n]) (fun x y e=>by cases e;exact⟨rfl,rfl⟩)
   (by simp) (fun ys=>by simp [srcOf]) ⟨none,by simp [lP]⟩ rfl (by omega) (fun y hx ρ hP ys=>by
    obtain⟨y',rfl⟩:=hP;exact⟨[aA y,aA n],⟨_,rfl⟩,by simp,by simp,by simp⟩) (fun x _=>by simp only [Cl])
 have f2:∀x7,SV [aE s,aE r,aT (xs.map A.int),aA p,some a,aA off,aA n,x7] Ω=aM (.lst ((xs.filter fun y=>decide (y≤n)).map A.int)) Ω:=fun x7 =>
  WT (n:=1) (js:=[6]) (fi:=fV bB) (g:=gN 0) (ρ:=[aE s,aE r,aT (xs.map A.int),aA p,some a,aA off,aA n,x7]) (Ω:=Ω) (Ω0:=Ω) (S:=srcOf (.lst (xs.map A.int)) (xs.map A.int)) xs A.int A.int (fun y=>decide (y≤n)) (fun ρ=>∃y,ρ=[y,aA n]) (fun x y e=>by cases e;exact⟨rfl,rfl⟩)
   (by simp) (fun ys=>by simp [srcOf]) ⟨none,by simp [lP]⟩ rfl (by omega) (fun y hx ρ hP ys=>by
    obtain⟨y',rfl⟩:=hP;exact⟨[aA y,aA n],⟨_,rfl⟩,by simp,by simp,by simp⟩) (fun x _=>by simp only [Cl])
 show trim Ω (gC (SW [aE s,aE r,aT (xs.map A.int),aA p,some a,aA off,none,none] Ω))=_;have g1:∀x6,(dE "so_manieth" [("Window",dD 3 [] xH)] aL (aC bZ (aC fD a0))) [aE s,aE r,aT (xs.map A.int),aA p,some a,aA off,x6,none] Ω=aM (.int n) Ω:=fun x6=>by
  refine Eq.trans (uN (as:=[.int p,a]) (s:=s) rfl ho rfl ?_ rfl) so;exact gM rfl (gM rfl iL)
 have w:=WA;have l1:=Ba (f1 none);rw [kQ]at l1;have l2:=fun x7=>Ba (f2 x7);simp only [kQ]at l2;have e:SW [aE s,aE r,aT (xs.map A.int),aA p,some a,aA off,none,none] Ω=some (.ret (.bl true),[aE s,aE r,aT (xs.map A.int),aA p,some a,aA off,aA n,aA ((xs.filter fun y=>decide (y<n)).length:Int)],Ω):=by
  unfold SW;rw [bM (mL (by simp) (g1 none))];show aV _ _ [aE s,aE r,aT (xs.map A.int),aA p,some a,aA off,aA n,none] Ω=_;generalize ((xs.filter fun y=>decide (y<n)).length:Int)=lo at *;generalize ((xs.filter fun y=>decide (y≤n)).length:Int)=hi at *;generalize xs.map A.int=us at *;have g2:=g1 (aA n);have c3:(bY (aB CC (dE "so_manieth" [("Window",dD 3 [] xH)] aL (aC bZ (aC fD a0))) jY)) [aE s,aE r,aT us,aA p,some a,aA off,aA n,none] Ω=aM false Ω:=by
   rw [bY,aB];simp only [mb];rw [g2];simp
  have c2:(bY (aB (yR true) jY bJ)) [aE s,aE r,aT us,aA p,some a,aA off,aA n,none] Ω=aM false Ω:=by simp [gm]
  rw [bM (ρ1:=[aE s,aE r,aT us,aA p,some a,aA off,aA n,none]) (Ω':=Ω) (by
   generalize hA:(bY (aB CC (dE "so_manieth" [("Window",dD 3 [] xH)] aL (aC bZ (aC fD a0))) jY))=A3 at c3 ⊢;generalize hB:(bY (aB (yR true) jY bJ))=A2 at c2 ⊢;simp [bN,w,c2,c3])]
  rw [bM (mL (by simp) l1)];show cX _ [aE s,aE r,aT us,aA p,some a,aA off,aA n,aA lo] Ω=_;have Sa:=l2 (aA lo);refine AJ ?_;show(zY (aB mI lV (aB bX bZ dP)) (aB FX (aN dQ (aC SV a0)) (aB (eO) bZ dP))) _ Ω=_;generalize (aN dQ (aC SV a0))=LL at Sa;simp [Sa,u1,u2]
 rw [e];simp only [pE];exact rR
end
abbrev bA(L b k:Int):A := .tup [.int L,.int b,.int k]
abbrev gZ(s r:Nat)(L b k:Int)(a:A)(c v:Int)(us:List A)(off:Int)(y11 HN y13:Option A):Ev:=[aE s,some (bA L b k),aE r,some a,aA c,aA L,aA b,aA k,aA v,aT us,aA off,y11,HN,y13]
section
variable{Ω:aF}{s r:Nat}{L b k:Int}{aK:List Int}{bs:List (List Int)}{ns:List Int}
theorem aoQ(h:jH Ω s L b k aK bs ns)(hT:Ω[0]? = some hJ)(hr:Ω[r]? = some (.lst (aK.map A.int)))(hh:1≤aK.length)(wM:aK.length≤1000)(c:Int)(c0:0≤c)(c1:c<2147483587)(a:A)(v:Int)(ha:oO L aK.length a=some v)(h1:1≤v)(h2:v≤min L aK.length){q:Nat}{nl:List Int}(T:Taken b aK bs ns v q nl)(i:Nat)(hi:i<3)(zU qJ:Option A) :
  ∃HN,SY (gZ s r L b k a c v ((aK.drop (aK.length - v.toNat)).map A.int) (lM k bs q nl v) (aA i) zU qJ) Ω=dR (gZ s r L b k a c v ((aK.drop (aK.length - v.toNat)).map A.int) (lM k bs q nl v) (aA i) HN qJ) Ω:=by
 have m:=fun Ω=>NC c (i:Int) Ω c0 (by omega) (by omega) (by omega);have m0:=QM c (i:Int);generalize vY c (i:Int)=d at m m0;have li:dO Ω (.aD r)=some (aK.map A.int):=iJ hr;have hp:(0:Int)<aK.length:=by omega
 have e0:=zL d (show(aK.length:Int)≠0 by omega);have e1:=xE d hp;obtain⟨j,hj⟩:=HF e0;have sD:j<aK.length:=by rw [hj]at e1;omega
 have aR:dY (aK.map A.int) (j:Int)=(aA (aK[j])):=zC aK j sD;generalize aK[j]=y at aR;have cp:DN 10 20:=⟨by decide,by decide,by decide⟩;have cm:∀(z:Int) (t:Bool),kI z (if t=true then 1 else 0):=fun z t=>CM (by split <;> decide) (by split <;> decide);have s3:(3:Nat)≤sizeLine:=by decide
 obtain⟨dz,hdz⟩:∃dz:Int,dY [A.int 0,.int 1,.int (0 - 1)] (i:Int)=(aA dz):=by
  rcases(show i=0∨i=1∨i=2 by omega)with rfl | rfl | rfl
  ·exact⟨0,rfl⟩
  ·exact⟨1,rfl⟩
  ·exact⟨0 - 1,rfl⟩
 obtain⟨t,ht⟩:∃t:Bool,t=decide ((if y<0 then -y else y)<10 ^ 20):=⟨_,rfl⟩;have uh:=axE h hT (y+dz*(if t=true then 1 else 0)) a v ha h1 h2 T;have ll:(((aK.map A.int).length:Nat):Int)=aK.length:=by simp
 refine⟨aA (y+dz*(if t=true then 1 else 0)),?_⟩;generalize (aK.drop (aK.length - v.toNat)).map A.int=us at uh;generalize lM k bs q nl v=off at uh;generalize aK.map A.int=hs at *;generalize (aK.length:Int)=n at *;unfold SY;have mV:(aB aW bB (aB (fO) (aN (bN 2 rG) (aC fD (aC HU a0))) (aN dQ (aC bB a0)))) (gZ s r L b k a c v us off (aA i) zU qJ) Ω=aM (.int y) Ω:=by
  simp [gZ,bN,m,li,ll,hp,hj,aR]
 rw [bM (mL (by simp) mV)];show aV _ _ (gZ s r L b k a c v us off (aA i) (aA y) qJ) Ω=_;have mE:(aB bX DQ (aB (fX) (aB aW (gL false (aC bS (aC bL (aC (aB (eO) bS bL) a0)))) HU) (aN LM (aC (aB mI (aN LN (aC DQ a0)) (aB (yQ) zV (cI 20))) a0)))) (gZ s r L b k a c v us off (aA i) (aA y) qJ) Ω=aM (.int (y+dz*(if t=true then 1 else 0))) Ω:=by
  have p1:(aB aW (gL false (aC bS (aC bL (aC (aB (eO) bS bL) a0)))) HU) (gZ s r L b k a c v us off (aA i) (aA y) qJ) Ω=aM (.int dz) Ω:=by
   have BV:dY [A.int 0,.int 1,.int (-1)] (i:Int)=(aA dz):=hdz;simp [gZ,s3,BV]
  have p2:(aN LM (aC (aB mI (aN LN (aC DQ a0)) (aB (yQ) zV (cI 20))) a0)) (gZ s r L b k a c v us off (aA i) (aA y) qJ) Ω=aM (.int (if t=true then 1 else 0)) Ω:=by
   rw [ht];simp [gZ,cp]
  rw [aB,cE (x:=A.int y) (Ω':=Ω) (by simp [gZ]),aB];simp only [mb];rw [p1];simp only;rw [p2];have:=cm dz t;generalize (if t=true then(1:Int)else 0)=w at *;simp [this]
 rw [bM (mL (by simp) mE)];show eV _ _ _ (gZ s r L b k a c v us off (aA i) (aA (y+dz*(if t=true then 1 else 0))) qJ) Ω=_;generalize y+dz*(if t=true then(1:Int)else 0)=z at uh;simp [gZ,bN,uh]
theorem axR(h:jH Ω s L b k aK bs ns)(hT:Ω[0]? = some hJ)(hr:Ω[r]? = some (.lst (aK.map A.int)))(hh:1≤aK.length)(wM:aK.length≤1000)(c:Int)(c0:0≤c)(c1:c<2147483587)(a:A)(v:Int)(ha:oO L aK.length a=some v)(h1:1≤v)(h2:v≤min L aK.length) :
  Kd [.aD s,bA L b k,.aD r,a,.int c] Ω=aM (.bl true) Ω:=by
 obtain⟨q,nl,T⟩:=taken h.wi h.b1 v h1 (by omega) (by omega);have of:=axC h a v ha h1 h2 T;obtain⟨o0,o1⟩:=amL h T h1;have ho:Ω[s]? = some (.ins "Window" (wF L b k aK.length ((bs.map (bO k)).map aI) (ns.map A.int))):=h.at_;have li:cK Ω (.aD r)=some (aK.map A.int):=iJ hr;have si:dO Ω (.aD r)=some (aK.map A.int):=li;have lt1:=fun(i:Nat) (hi:i<3) zU qJ=>aoQ h hT hr hh wM c c0 c1 a v ha h1 h2 T i hi zU qJ;have pl:=fun(p:Int) (hp:1≤p) (iY:p≤v)=>axJ h hr p a v ha h1 h2 hp iY T;have hb:=h.b1;have kZ:=h.b2;have hk:=h.k1;have kM:=h.k2;have hL:=h.L1;have hd:((aK.length - v.toNat:Nat):Int)=(aK.length:Int) - v:=by omega
 have cu:=Wt (aK.map A.int) (aK.length - v.toNat) (by simp);rw [← Jl,hd]at cu;have ll:(((aK.map A.int).length:Nat):Int)=aK.length:=by simp
 have FF:∀i,a = .int i→i=v:=fun i e=>by subst e;simpa [oO]using ha
 have hvn:a = .bR→v=min L aK.length:=fun e=>by subst e;simp [oO]at ha;omega
 have Dz:(a = .bR∧sC a=true)∨∃i,a = .int i:=by
  cases a with
  | bR=>exact .inl ⟨rfl,rfl⟩
  | int i=>exact .inr ⟨i,rfl⟩
  | _=>simp [oO]at ha
 have hzl:(((aK.drop (aK.length - v.toNat)).map A.int)).length≤sizeLine:=by rw [mG];simp;omega
 generalize (aK.drop (aK.length - v.toNat)).map A.int=us at *;generalize lM k bs q nl v=off at *;obtain⟨ρ1,Ω1,q1,vE,sP,rfl,hΩ1⟩:=LS (ok:=fun _=>True) (g:=gN 11) (b:=SY)
  (fun i ρ Ω'=>∃vE sP,ρ=gZ s r L b k a c v us off vE sP none∧Ω'=Ω) (fun _ _ _ _=>trivial)
  ((List.range 3).map fun(i:Nat)=>A.int (0+(i:Int))) 0 (gZ s r L b k a c v us off none none none) Ω ⟨none,none,rfl,rfl⟩
  (by
   rintro i x ρ Ω' hx ⟨vE,sP,rfl,rfl⟩;have hi:i<3:=by simpa using(dI.mp hx).1
   obtain rfl:A.int (0+(i:Int))=x:=by
    have:=(dI.mp hx).2;simpa using this
   rw [UW];obtain⟨HN,q⟩:=lt1 i hi sP none;exact⟨gZ s r L b k a c v us off (aA i) sP none,Ω',_,_,by simp [gZ],.inl q,aA i,HN,rfl,rfl⟩)
 rw [hΩ1]at q1;have f0:=zL c (show v≠0 by omega);have f1:=xE c (show 0<v by omega);obtain⟨p1,nQ,iY,uK⟩:∃p1:Int,1≤p1∧p1≤v∧dY [A.int 1,.int v] (c%2)=(aA p1):=by
  rcases(show c%2=0∨c%2=1 by omega)with e | e <;> rw [e]
  ·exact⟨1,by omega,by omega,rfl⟩
  ·exact⟨v,by omega,by omega,rfl⟩
 have pp1:=pl p1 nQ iY;have Pg:=pl (1+c%v) (by omega) (by omega);have s2:(2:Nat)≤sizeLine:=by decide
 have hv0:0<v:=by omega
 have w:=WA;show trim Ω (gC (TB [aE s,some (bA L b k),aE r,some a,aA c,none,none,none,none,none,none,none,none,none] Ω))=_;have e:∃ρ,TB [aE s,some (bA L b k),aE r,some a,aA c,none,none,none,none,none,none,none,none,none] Ω=some (.ret (.bl true),ρ,Ω):=by
  unfold TB;rw [bM (ρ1:=[aE s,some (bA L b k),aE r,some a,aA c,aA L,aA b,aA k,none,none,none,none,none,none]) (Ω':=Ω) (by simp)];rw [bM (ρ1:=[aE s,some (bA L b k),aE r,some a,aA c,aA L,aA b,aA k,aA (min L aK.length),none,none,none,none,none]) (Ω':=Ω) (by
   generalize aK.map A.int=hs at si ll;simp [si,ll])]
  rw [bM (ρ1:=[aE s,some (bA L b k),aE r,some a,aA c,aA L,aA b,aA k,aA v,none,none,none,none,none]) (Ω':=Ω) (by
   rcases Dz with⟨e,e2⟩ | ⟨i,e⟩
   ·have:=hvn e;rw [← this];subst e;simp [sC]
   ·have:=FF i e;subst e;subst this;simp [sC])]
  rw [bM (ρ1:=[aE s,some (bA L b k),aE r,some a,aA c,aA L,aA b,aA k,aA v,aT us,none,none,none,none]) (Ω':=Ω) (by
   refine mL (by simp) ?_;have g:(aB (eO) (aN dQ (aC bB a0)) tY) [aE s,some (bA L b k),aE r,some a,aA c,aA L,aA b,aA k,aA v,none,none,none,none,none] Ω=aM (.int ((aK.length:Int) - v)) Ω:=by
    generalize aK.map A.int=hs at si ll;simp [si,ll]
   have pt:(lJ (aB (eO) (aN dQ (aC bB a0)) tY)) [aE s,some (bA L b k),aE r,some a,aA c,aA L,aA b,aA k,aA v,none,none,none,none,none] Ω=aM (some ((aK.length:Int) - v)) Ω:=by
    rw [lJ,cE g];rfl
   have s0:∀ρ,pD ρ Ω=aM none Ω:=fun _=>rfl;have v2:bB [aE s,some (bA L b k),aE r,some a,aA c,aA L,aA b,aA k,aA v,none,none,none,none,none] Ω=aM (.aD r) Ω:=rfl;rw [mR,cE v2,cE pt,cE (s0 _)];simp only [RI,li,cu];simp [nO])]
  have g1:∀Lb Kz zU qJ us,(dE "off" [("Window",dD 2 [] DH)] aL (aC bZ a0)) [aE s,some (bA L b k),aE r,some a,aA c,aA L,aA b,aA k,aA v,us,Lb,Kz,zU,qJ] Ω=aM (.int off) Ω:=fun Lb Kz zU qJ us=>by
   refine Eq.trans (uN (as:=[a]) (s:=s) rfl ho rfl ?_ rfl) of;exact gM rfl iL
  rw [bM (mL (by simp) (g1 _ _ _ _ _))];show ∃ρ,aV _ _ (gZ s r L b k a c v us off none none none) Ω=_;have d1:lH v b:=cdiv (by omega) (by omega);have d2:lH b k:=cdiv (by omega) (by omega);have d0:0≤b/k:=UY (by omega) (by omega);have d3:b/k≤b:=Int.ediv_le_self _ (by omega);have cm:kI (v/b+1) (b/k):=CM (by omega) (by omega);rw [bM (ρ1:=gZ s r L b k a c v us off none none none) (Ω':=Ω) (by simp [gZ,bN,w,d1,d2,cm,o0,o1])];rw [bM (ρ1:=gZ s r L b k a c v us off vE sP none) (Ω':=Ω) (by
   rw [pM (S:=sW 0 3) (Ω':=Ω) (QB (n:=3) (by simp) (by omega))];exact q1)]
  have lf:∀(ok:aF→Prop),ok Ω→dS ok (gN 13) SX [.int p1,.int (1+c%v)] (gZ s r L b k a c v us off vE sP none) Ω=dR (gZ s r L b k a c v us off vE sP (aA (1+c%v))) Ω:=fun ok aH=>by
   generalize 1+c%v=p2 at Pg;refine Eq.trans (lE aH (ρ0:=gZ s r L b k a c v us off vE sP (aA p1)) (Ω0:=Ω) (by simp [gZ]) (by simp [SX,gZ,bN,pp1];exact⟨rfl,rfl⟩)) ?_;refine Eq.trans (lE aH (ρ0:=gZ s r L b k a c v us off vE sP (aA p2)) (Ω0:=Ω) (by simp [gZ]) (by simp [SX,gZ,bN,Pg];exact⟨rfl,rfl⟩)) ?_;simp [dS,aH]
  rw [bM (ρ1:=gZ s r L b k a c v us off vE sP (aA (1+c%v))) (Ω':=Ω) (by
   rw [pM (S:=srcOf (.lst [.int p1,.int (1+c%v)]) [.int p1,.int (1+c%v)]) (Ω':=Ω) (by
    simp [gZ,s2,uK,hv0])]
   exact lf _ rfl)]
  refine⟨_,AJ (?_:(aB iA _ _) _ _=_)⟩;rw [aB];simp only [mb];rw [g1];simp
 obtain⟨ρ,e⟩:=e;rw [e];simp only [pE];exact rR
end
abbrev cY(W S:A)(r:Nat)(c:Int)(y4 y5 y6 y7 y8 y9 iW:Option A):Ev:=[some W,some S,aE r,aA c,y4,y5,y6,y7,y8,y9,iW]
section
variable{Ω:aF}{s r:Nat}{L b k:Int}{aK:List Int}{bs:List (List Int)}{ns:List Int}
theorem aqK(W S:A)(h:jH Ω s L b k aK bs ns)(hT:Ω[0]? = some hJ)(hr:Ω[r]? = some (.lst (aK.map A.int)))(hh:1≤aK.length)(wM:aK.length≤1000)(c:Int)(c0:0≤c)(c1:c<2147483587)(a:A)(v:Int)(ha:oO L aK.length a=some v)(h1:1≤v)(h2:v≤min L aK.length)(y6 y8 y9 iW:Option A) :
  TJ (cY W S r c (aE s) (some (bA L b k)) y6 (some a) y8 y9 iW) Ω=dR (cY W S r c (aE s) (some (bA L b k)) y6 (some a) y8 y9 iW) Ω:=by
 have m:=fun Ω=>NC c 11 Ω c0 (by omega) (by omega) (by omega);have m0:=QM c 11;have m1:=Ao c 11;generalize vY c 11=d at m m0 m1;have lh:=axR h hT hr hh wM d m0 m1 a v ha h1 h2;simp only [bA]at lh ⊢;simp [TJ,cY,bN,m,lh]
theorem Ta(W S:A)(h:jH Ω s L b k aK bs ns)(hT:Ω[0]? = some hJ)(hr:Ω[r]? = some (.lst (aK.map A.int)))(hh:1≤aK.length)(wM:aK.length≤1000)(c:Int)(c0:0≤c)(c1:c<2147483587)(y6 y7 y8 y9 iW:Option A) :
  ∃z6 z7,TF (cY W S r c (aE s) (some (bA L b k)) y6 y7 y8 y9 iW) Ω=dR (cY W S r c (aE s) (some (bA L b k)) z6 z7 y8 y9 iW) Ω:=by
 have ho:Ω[s]? = some (.ins "Window" (wF L b k aK.length ((bs.map (bO k)).map aI) (ns.map A.int))):=h.at_;have hb:=h.b1;have kZ:=h.b2;have hk:=h.k1;have kM:=h.k2;have L1:=h.L1;have L2:=h.L2;have he:=Zj h;obtain⟨k0,k1⟩:=arG h hh;generalize (ns.length:Int)+(nU (bs.map (bO k)):Int)=hd at he k0 k1;have m9:=fun Ω=>NC c 9 Ω c0 (by omega) (by omega) (by omega);generalize vY c 9=d9 at m9;obtain⟨mm,Td⟩:∃mm,mm=min L (aK.length:Int):=⟨_,rfl⟩;have Dg:0<mm:=by omega
 have e0:=zL d9 (show mm≠0 by omega);have e1:=xE d9 Dg;have f0:=zL c (show mm≠0 by omega);have f1:=xE c Dg;have l1:=fun a v ha h1 h2 y6 y8 y9 iW=>aqK W S h hT hr hh wM c c0 c1 a v ha h1 h2 y6 y8 y9 iW;obtain⟨p1,nQ,iY,uK⟩:∃p1:Int,1≤p1∧p1≤mm∧dY [A.int 1,.int mm] (c/2%2)=(aA p1):=by
  rcases(show c/2%2=0∨c/2%2=1 by omega)with e | e <;> rw [e]
  ·exact⟨1,by omega,by omega,rfl⟩
  ·exact⟨mm,by omega,by omega,rfl⟩
 refine⟨aA mm,aA (1+d9%mm),?_⟩;have li:dO Ω (.aD r)=some (aK.map A.int):=iJ hr;have ll:(((aK.map A.int).length:Nat):Int)=aK.length:=by simp
 have g0:(dE "held" [("Window",dD 1 [] nX)] fD a0) (cY W S r c (aE s) (some (bA L b k)) (aA mm) y7 y8 y9 iW) Ω=aM (.int hd) Ω:=by
  refine Eq.trans (uN (as:=[]) (s:=s) rfl ho rfl ?_ rfl) he;exact iL
 have d1:lH L b:=cdiv (by omega) (by omega);have dL:0≤L/b:=UY (by omega) (by omega);have dL2:L/b≤L:=Int.ediv_le_self _ (by omega);have cm1:kI (L/b+2) 2:=CM (by decide) (by decide);have cm2:kI ((L/b+2)*2) k:=CM (by omega) (by omega);have dc:lH c 2:=⟨by decide,by decide⟩;have s2:(2:Nat)≤sizeLine:=by decide
 have s4:(4:Nat)≤sizeLine:=by decide
 unfold TF;rw [bM (ρ1:=cY W S r c (aE s) (some (bA L b k)) (aA mm) y7 y8 y9 iW) (Ω':=Ω) (by
  rw [Td];generalize aK.map A.int=hs at li ll;simp [cY,bA,li,ll])]
 have ct:(bY (DW mI nS bS (dE "held" [("Window",dD 1 [] nX)] fD a0) (aB bX (aB (fX) (aB (fX) (aB bX (aB (jF) (aB aW dP bS) (aB aW dP bL)) fM) fM) (aB aW dP fM)) (aB aW dP bL)))) (cY W S r c (aE s) (some (bA L b k)) (aA mm) y7 y8 y9 iW) Ω=aM true Ω:=by
  have rr:(aB bX (aB (fX) (aB (fX) (aB bX (aB (jF) (aB aW dP bS) (aB aW dP bL)) fM) fM) (aB aW dP fM)) (aB aW dP bL)) (cY W S r c (aE s) (some (bA L b k)) (aA mm) y7 y8 y9 iW) Ω=aM (.int ((L/b+2)*2*k+b)) Ω:=by
   simp [cY,bA,d1,cm1,cm2,GS]
  generalize (aB bX (aB (fX) (aB (fX) (aB bX (aB (jF) (aB aW dP bS) (aB aW dP bL)) fM) fM) (aB aW dP fM)) (aB aW dP bL))=RR at rr ⊢;generalize (dE "held" [("Window",dD 1 [] nX)] fD a0)=HH at g0 ⊢;simp [g0,rr,k0,k1]
 rw [bM (ρ1:=cY W S r c (aE s) (some (bA L b k)) (aA mm) y7 y8 y9 iW) (Ω':=Ω) (by
  refine QW ?_;generalize (bY (DW mI nS bS (dE "held" [("Window",dD 1 [] nX)] fD a0) (aB bX (aB (fX) (aB (fX) (aB bX (aB (jF) (aB aW dP bS) (aB aW dP bL)) fM) fM) (aB aW dP fM)) (aB aW dP bL))))=TT at ct;simp [ct])]
 have lf:∀(ok:aF→Prop),ok Ω→dS ok (gN 7) TJ [.bR,.int p1,.int (1+c%mm),.int (1+d9%mm)] (cY W S r c (aE s) (some (bA L b k)) (aA mm) y7 y8 y9 iW) Ω=dR (cY W S r c (aE s) (some (bA L b k)) (aA mm) (aA (1+d9%mm)) y8 y9 iW) Ω:=fun ok aH=>by
  refine Eq.trans (lE aH (ρ0:=cY W S r c (aE s) (some (bA L b k)) (aA mm) (some .bR) y8 y9 iW) (Ω0:=Ω) (by simp [cY]) (l1 .bR mm (by simp [oO,Td]) (by omega) (by omega) _ _ _ _)) ?_;refine Eq.trans (lE aH (ρ0:=cY W S r c (aE s) (some (bA L b k)) (aA mm) (aA p1) y8 y9 iW) (Ω0:=Ω) (by simp [cY]) (l1 (.int p1) p1 rfl (by omega) (by omega) _ _ _ _)) ?_;refine Eq.trans (lE aH (ρ0:=cY W S r c (aE s) (some (bA L b k)) (aA mm) (aA (1+c%mm)) y8 y9 iW) (Ω0:=Ω) (by simp [cY]) (l1 (.int (1+c%mm)) (1+c%mm) rfl (by omega) (by omega) _ _ _ _)) ?_;refine Eq.trans (lE aH (ρ0:=cY W S r c (aE s) (some (bA L b k)) (aA mm) (aA (1+d9%mm)) y8 y9 iW) (Ω0:=Ω) (by simp [cY]) (l1 (.int (1+d9%mm)) (1+d9%mm) rfl (by omega) (by omega) _ _ _ _)) ?_;simp [dS,aH]
 rw [pM (S:=srcOf (.lst [.bR,.int p1,.int (1+c%mm),.int (1+d9%mm)]) [.bR,.int p1,.int (1+c%mm),.int (1+d9%mm)]) (Ω':=Ω) (by
  simp [cY,bN,m9,Dg,dc,s2,s4,uK])]
 exact lf _ rfl
end
structure uS(Ω:aF)(s t r:Nat)(L b k L' b' k':Int)(aK:List Int):Prop where
 one:∃bs ns,jH Ω s L b k aK bs ns
 yD:∃bs ns,jH Ω t L' b' k' aK bs ns
 tab:Ω[0]? = some hJ
 row:Ω[r]? = some (.lst (aK.map A.int))
theorem Zn{Ω:aF}{s t r:Nat}{L b k L' b' k':Int}{aK:List Int}(h:uS Ω s t r L b k L' b' k' aK)(wM:aK.length≤1000)(c:Int)(c0:0≤c)(c1:c<2147483587) :
  VL [.lst [.aD s,.aD t],.lst [bA L b k,bA L' b' k'],.aD r,.int c] Ω=aM (.bl true) Ω:=by
 obtain⟨⟨bs,ns,st⟩,⟨Xn,ER,mF⟩,hT,hr⟩:=h;have ho:Ω[s]? = some (.ins "Window" (wF L b k aK.length ((bs.map (bO k)).map aI) (ns.map A.int))):=st.at_;have iZ:Ω[t]? = some (.ins "Window" (wF L' b' k' aK.length ((Xn.map (bO k')).map aI) (ER.map A.int))):=mF.at_;have gE:=Ve aK r Ω hr;have Me:∀y4 y5 y6 y7 y8 y9 iW,(aB aW aL bS) (cY (.lst [.aD s,.aD t]) (.lst [bA L b k,bA L' b' k']) r c y4 y5 y6 y7 y8 y9 iW) Ω=aM (.aD s) Ω:=fun _ _ _ _ _ _ _=>by simp [cY]
 have Md:∀y4 y5 y6 y7 y8 y9 iW,(aB aW aL bL) (cY (.lst [.aD s,.aD t]) (.lst [bA L b k,bA L' b' k']) r c y4 y5 y6 y7 y8 y9 iW) Ω=aM (.aD t) Ω:=fun _ _ _ _ _ _ _=>by simp [cY]
 show trim Ω (gC (TK (cY (.lst [.aD s,.aD t]) (.lst [bA L b k,bA L' b' k']) r c none none none none none none none) Ω))=_
 suffices e:∃ρ,TK (cY (.lst [.aD s,.aD t]) (.lst [bA L b k,bA L' b' k']) r c none none none none none none none) Ω=some (.ret (.bl true),ρ,Ω)by
  obtain⟨ρ,e⟩:=e;rw [e];simp only [pE];exact rR
 have XG:(bY (aB iA bB (gL false a0))) (cY (.lst [.aD s,.aD t]) (.lst [bA L b k,bA L' b' k']) r c none none none none none none none) Ω=aM aK.isEmpty Ω:=by
  simp [cY,gE]
 unfold TK;cases aK with
 | nil =>
  have h0:=Tw st;have Fh:=Tw mF;have g0:(dE "held" [("Window",dD 1 [] nX)] (aB aW aL bS) a0) (cY (.lst [.aD s,.aD t]) (.lst [bA L b k,bA L' b' k']) r c none none none none none none none) Ω=aM (.int 0) Ω:=by
   refine Eq.trans (FZ (as:=[]) (s:=s) (Me _ _ _ _ _ _ _) ho rfl ?_ rfl) h0;exact iL
  have g1:(dE "held" [("Window",dD 1 [] nX)] (aB aW aL bL) a0) (cY (.lst [.aD s,.aD t]) (.lst [bA L b k,bA L' b' k']) r c none none none none none none none) Ω=aM (.int 0) Ω:=by
   refine Eq.trans (FZ (as:=[]) (s:=t) (Md _ _ _ _ _ _ _) iZ rfl ?_ rfl) Fh;exact iL
  have rt:(zY (aB iA (dE "held" [("Window",dD 1 [] nX)] (aB aW aL bS) a0) bS) (aB iA (dE "held" [("Window",dD 1 [] nX)] (aB aW aL bL) a0) bS)) (cY (.lst [.aD s,.aD t]) (.lst [bA L b k,bA L' b' k']) r c none none none none none none none) Ω=aM (.bl true) Ω:=by
   generalize (dE "held" [("Window",dD 1 [] nX)] (aB aW aL bS) a0)=G0 at g0 ⊢;generalize (dE "held" [("Window",dD 1 [] nX)] (aB aW aL bL) a0)=G1 at g1 ⊢;simp [g0,g1]
  have:=apW (ρ:=cY (.lst [.aD s,.aD t]) (.lst [bA L b k,bA L' b' k']) r c none none none none none none none) (Ω:=Ω) XG rt;refine⟨cY (.lst [.aD s,.aD t]) (.lst [bA L b k,bA L' b' k']) r c none none none none none none none,?_⟩;unfold aV;rw [this]
 | cons x0 aq3 =>
  generalize Ts:x0::aq3=aK at *;have eW:aK≠[]:=by rw [← Ts];simp
  have hh:1≤aK.length:=Zp.mpr eW;have KI:aK.isEmpty=false:=by rw [← Ts];rfl
  rw [KI]at XG;rw [bM (QW XG)];obtain⟨z6,z7,q1⟩:=Ta (.lst [.aD s,.aD t]) (.lst [bA L b k,bA L' b' k']) st hT hr hh wM c c0 c1 none none none none none;obtain⟨w6,w7,q2⟩:=Ta (.lst [.aD s,.aD t]) (.lst [bA L b k,bA L' b' k']) mF hT hr hh wM c c0 c1 z6 z7 none none none;have lf:∀(ok:aF→Prop),ok Ω→dS ok (kN 2 (eR (gN 4) (eR (gN 5) lC))) TF [.tup [.aD s,bA L b k],.tup [.aD t,bA L' b' k']] (cY (.lst [.aD s,.aD t]) (.lst [bA L b k,bA L' b' k']) r c none none none none none none none) Ω=dR (cY (.lst [.aD s,.aD t]) (.lst [bA L b k,bA L' b' k']) r c (aE t) (some (bA L' b' k')) w6 w7 none none none) Ω:=fun ok aH=>by
   refine Eq.trans (lE aH (ρ0:=cY (.lst [.aD s,.aD t]) (.lst [bA L b k,bA L' b' k']) r c (aE s) (some (bA L b k)) none none none none none) (Ω0:=Ω) (by simp [cY]) q1) ?_;refine Eq.trans (lE aH (ρ0:=cY (.lst [.aD s,.aD t]) (.lst [bA L b k,bA L' b' k']) r c (aE t) (some (bA L' b' k')) z6 z7 none none none) (Ω0:=Ω) (by simp [cY]) q2) ?_;simp [dS,aH]
  rw [bM (ρ1:=cY (.lst [.aD s,.aD t]) (.lst [bA L b k,bA L' b' k']) r c (aE t) (some (bA L' b' k')) w6 w7 none none none) (Ω':=Ω) (by
   rw [pM (S:=zipSrc (.lst [.aD s,.aD t]) (.lst [bA L b k,bA L' b' k']) [.aD s,.aD t] [bA L b k,bA L' b' k']) (Ω':=Ω) (by simp [cY])];exact lf _ ⟨rfl,rfl⟩)]
  have L1:=st.L1;have Jo:=mF.L1;obtain⟨m,hm⟩:∃m,m=min (min L L') (aK.length:Int):=⟨_,rfl⟩;obtain⟨q,nl,T⟩:=taken st.wi st.b1 m (by omega) (by omega) (by omega);obtain⟨q',nl',T'⟩:=taken mF.wi mF.b1 m (by omega) (by omega) (by omega);have li:dO Ω (.aD r)=some (aK.map A.int):=iJ hr;have ll:(((aK.map A.int).length:Nat):Int)=aK.length:=by simp
  have hp:(0:Int)<aK.length:=by omega
  have e0:=zL c (show(aK.length:Int)≠0 by omega);have e1:=xE c hp;obtain⟨j,hj⟩:=HF e0;have sD:j<aK.length:=by rw [hj]at e1;omega
  have aR:dY (aK.map A.int) (j:Int)=(aA (aK[j])):=zC aK j sD;generalize aK[j]=y at aR;have up:=Jd st hT y (.int m) m rfl (by omega) (by omega) T;have Mh:=Jd mF hT y (.int m) m rfl (by omega) (by omega) T';obtain⟨lo,hi,el,eh,t0,t1,t2,t3,t4⟩:=XN st.k1 T (by omega) y;obtain⟨BA,pK,Wf,Wg,t0',t1',t2',YB,t4'⟩:=XN mF.k1 T' (by omega) y;rw [← el,← eh]at up;rw [← Wf,← Wg]at Mh;have fin:max lo BA≤min hi pK:=by omega
  clear t0 t1 t2 t3 t4 t0' t1' t2' YB t4' el eh Wf Wg lf q1 q2;have st8:(bK (aN RJ (aC (aB aW (aB aW bJ bS) bS) (aC (aB aW (aB aW bJ bL) bS) (aC (aN dQ (aC bB a0)) a0)))) (gN 8)) (cY (.lst [.aD s,.aD t]) (.lst [bA L b k,bA L' b' k']) r c (aE t) (some (bA L' b' k')) w6 w7 none none none) Ω=dR (cY (.lst [.aD s,.aD t]) (.lst [bA L b k,bA L' b' k']) r c (aE t) (some (bA L' b' k')) w6 w7 (aA m) none none) Ω:=by
   rw [hm];generalize aK.map A.int=hs at li ll;simp [cY,bA,li,ll]
  rw [bM st8];have arg:∀y9 iW,(aB aW bB (aB (fO) bZ (aN dQ (aC bB a0)))) (cY (.lst [.aD s,.aD t]) (.lst [bA L b k,bA L' b' k']) r c (aE t) (some (bA L' b' k')) w6 w7 (aA m) y9 iW) Ω=aM (.int y) Ω:=fun y9 iW=>by
   generalize aK.map A.int=hs at li ll aR;have hpn:0<aK.length:=hh;simp [cY,li,ll,hp,hpn,hj,aR]
  have g0:(dE "upto" [("Window",dD 3 [] uX)] (aB aW aL bS) (aC (aB aW bB (aB (fO) bZ (aN dQ (aC bB a0)))) (aC tY a0))) (cY (.lst [.aD s,.aD t]) (.lst [bA L b k,bA L' b' k']) r c (aE t) (some (bA L' b' k')) w6 w7 (aA m) none none) Ω=aM (.tup [.int lo,.int hi]) Ω:=by
   refine Eq.trans (FZ (as:=[.int y,.int m]) (s:=s) (Me _ _ _ _ _ _ _) ho rfl ?_ rfl) up;exact gM (arg _ _) (gM rfl iL)
  have g1:(dE "upto" [("Window",dD 3 [] uX)] (aB aW aL bL) (aC (aB aW bB (aB (fO) bZ (aN dQ (aC bB a0)))) (aC tY a0))) (cY (.lst [.aD s,.aD t]) (.lst [bA L b k,bA L' b' k']) r c (aE t) (some (bA L' b' k')) w6 w7 (aA m) (some (.tup [.int lo,.int hi])) none) Ω=aM (.tup [.int BA,.int pK]) Ω:=by
   refine Eq.trans (FZ (as:=[.int y,.int m]) (s:=t) (Md _ _ _ _ _ _ _) iZ rfl ?_ rfl) Mh;exact gM (arg _ _) (gM rfl iL)
  rw [bM (mL (by simp) g0)];show ∃ρ,aV _ _ (cY (.lst [.aD s,.aD t]) (.lst [bA L b k,bA L' b' k']) r c (aE t) (some (bA L' b' k')) w6 w7 (aA m) (some (.tup [.int lo,.int hi])) none) Ω=_;rw [bM (mL (by simp) g1)];show ∃ρ,cX _ (cY (.lst [.aD s,.aD t]) (.lst [bA L b k,bA L' b' k']) r c (aE t) (some (bA L' b' k')) w6 w7 (aA m) (some (.tup [.int lo,.int hi])) (some (.tup [.int BA,.int pK]))) Ω=_;refine⟨_,AJ (?_:(aB nS _ _) _ _=_)⟩;have x1:(aN FT (aC (aB aW DP bS) (aC (aB aW vI bS) a0))) (cY (.lst [.aD s,.aD t]) (.lst [bA L b k,bA L' b' k']) r c (aE t) (some (bA L' b' k')) w6 w7 (aA m) (some (.tup [.int lo,.int hi])) (some (.tup [.int BA,.int pK]))) Ω=aM (.int (max lo BA)) Ω:=by simp [cY]
  have x2:(aN uL (aC (aB aW DP bL) (aC (aB aW vI bL) a0))) (cY (.lst [.aD s,.aD t]) (.lst [bA L b k,bA L' b' k']) r c (aE t) (some (bA L' b' k')) w6 w7 (aA m) (some (.tup [.int lo,.int hi])) (some (.tup [.int BA,.int pK]))) Ω=aM (.int (min hi pK)) Ω:=by simp [cY]
  rw [aB,cE x1,cE x2];generalize max lo BA=u1 at fin;generalize min hi pK=u2 at fin;simp [fin]
abbrev fG(ns:List Int)(ds:List A)(L b k L' b' k':Int)(y5 y6 y7 y8:Option A):Ev:=[some (.dB ns),aT ds,aT ([bA L b k,bA L' b' k']),aT ([.aD 2,.aD 3]),aE 4,y5,y6,y7,y8]
theorem Nh{Ω:aF}{s:Nat}{L b k:Int}{row:List Int}{bs:List (List Int)}{nw:List Int}(st:jH Ω s L b k row bs nw)(x:Int) :
  ∃X,uY [.aD s,.int x] Ω=aM (.bR) (Ω.set s X)∧jH (Ω.set s X) s L b k (row++[x]) (GK L b bs nw x) (iI b nw x):=by
 have arS:=st.wi.RO st.b1 st.L2;have pq:=axB st.at_ st.L1 (by have:=st.b2;omega) (by have:=st.wi.nC;omega) st.k1 (by have:=st.k2;omega) (by simp;omega) x;rw [aj3]at pq;have lnn:((row++[x]).length:Int)=(row.length:Int)+1:=by simp
 refine⟨_,pq,?_,st.wi.put st.L1 st.b1 x,st.L1,st.L2,st.b1,st.b2,st.k1,st.k2⟩;unfold pZ;rw [eT st.at_.lt,lnn]
theorem jH.other{Ω:aF}{s:Nat}{L b k:Int}{row:List Int}{bs:List (List Int)}{nw:List Int}(st:jH Ω s L b k row bs nw){t:Nat}(hs:t≠s)(X:Cell):jH (Ω.set t X) s L b k row bs nw:=by
 refine⟨?_,st.wi,st.L1,st.L2,st.b1,st.b2,st.k1,st.k2⟩;unfold pZ;rw [dZ hs];exact st.at_
section
variable{Ω:aF}{L b k L' b' k':Int}{row:List Int}
theorem ajJ(h:uS Ω 2 3 4 L b k L' b' k' row)(hn:row.length<400)(ns:List Int)(ds:List A)(x:Int)(y5 y6 y8:Option A) :
  ∃Ω',uS Ω' 2 3 4 L b k L' b' k' (row++[x])∧MH (fG ns ds L b k L' b' k' y5 y6 (aA x) y8) Ω=dR (fG ns ds L b k L' b' k' y5 y6 (aA x) y8) Ω':=by
 obtain⟨⟨bs,nw,st⟩,⟨Xn,nw',mF⟩,tab,IU⟩:=h;have h4:4<Ω.length:=(dI.mp IU).1;have il:pI Ω (.aD 4):=tE (iJ IU);have cl:lS Ω (.aD 4)=some (4,row.map A.int):=tO IU;have hz:(row.map A.int).length<sizeLine:=by rw [mG];simp;omega
 have er:(row++[x]).map A.int=row.map A.int++[A.int x]:=by simp
 have s1:=st.other (t:=4) (by decide) (.lst ((row++[x]).map A.int));have s1':=mF.other (t:=4) (by decide) (.lst ((row++[x]).map A.int));have g1:(Ω.set 4 (.lst ((row++[x]).map A.int)))[4]? = some (.lst ((row++[x]).map A.int)):=eT h4;have t1:(Ω.set 4 (.lst ((row++[x]).map A.int)))[0]? = some hJ:=by rw [dZ (by decide)];exact tab
 have e1:hX (jZ nB fD (aC lV a0)) (fG ns ds L b k L' b' k' y5 y6 (aA x) y8) Ω=dR (fG ns ds L b k L' b' k' y5 y6 (aA x) y8) (Ω.set 4 (.lst ((row++[x]).map A.int))):=by
  rw [er];generalize row.map A.int=u at cl hz;simp [fG,il,cl,hz]
 generalize Ω.set 4 (.lst ((row++[x]).map A.int))=Ω1 at *;obtain⟨X,p2,s2⟩:=Nh s1 x;have Og:=s1'.other (t:=2) (by decide) X;have o1:=s1.at_;unfold pZ at o1;have e2:hX (dE "put" [("Window",dD 2 [] uY)] (aB aW bZ bS) (aC lV a0)) (fG ns ds L b k L' b' k' y5 y6 (aA x) y8) Ω1=dR (fG ns ds L b k L' b' k' y5 y6 (aA x) y8) (Ω1.set 2 X):=by
  have call:(dE "put" [("Window",dD 2 [] uY)] (aB aW bZ bS) (aC lV a0)) (fG ns ds L b k L' b' k' y5 y6 (aA x) y8) Ω1=aM (.bR) (Ω1.set 2 X):=by
   refine Eq.trans (FZ (as:=[.int x]) (s:=2) (by simp [fG]) o1 rfl ?_ rfl) p2;exact gM rfl iL
  unfold hX;rw [kU call]
 have g2:(Ω1.set 2 X)[4]? = some (.lst ((row++[x]).map A.int)):=by rw [dZ (by decide)];exact g1
 have t2:(Ω1.set 2 X)[0]? = some hJ:=by rw [dZ (by decide)];exact t1
 generalize Ω1.set 2 X=Ω2 at *;obtain⟨Y,p3,s3⟩:=Nh Og x;have s3':=s2.other (t:=3) (by decide) Y;have o2:=Og.at_;unfold pZ at o2;have e3:hX (dE "put" [("Window",dD 2 [] uY)] (aB aW bZ bL) (aC lV a0)) (fG ns ds L b k L' b' k' y5 y6 (aA x) y8) Ω2=dR (fG ns ds L b k L' b' k' y5 y6 (aA x) y8) (Ω2.set 3 Y):=by
  have call:(dE "put" [("Window",dD 2 [] uY)] (aB aW bZ bL) (aC lV a0)) (fG ns ds L b k L' b' k' y5 y6 (aA x) y8) Ω2=aM (.bR) (Ω2.set 3 Y):=by
   refine Eq.trans (FZ (as:=[.int x]) (s:=3) (by simp [fG]) o2 rfl ?_ rfl) p3;exact gM rfl iL
  unfold hX;rw [kU call]
 refine⟨Ω2.set 3 Y,⟨⟨_,_,s3'⟩,⟨_,_,s3⟩,by rw [dZ (by decide)];exact t2,by rw [dZ (by decide)];exact g2⟩,?_⟩;unfold MH;rw [bM e1,bM e2,e3]
theorem apT(h:uS Ω 2 3 4 L b k L' b' k' row)(n:Nat)(hn:row.length+n≤400)(ns:List Int)(ds:List A)(x:Int)(y5 y6 y8:Option A) :
  ∃Ω' rV z8,uS Ω' 2 3 4 L b k L' b' k' rV∧rV.length=row.length+n∧dS (fun _=>True) (gN 8) MH ((List.range n).map fun(i:Nat)=>A.int (0+(i:Int))) (fG ns ds L b k L' b' k' y5 y6 (aA x) y8) Ω=dR (fG ns ds L b k L' b' k' y5 y6 (aA x) z8) Ω':=by
 obtain⟨ρ1,Ω1,q,rV,z8,rfl,h',hl⟩:=LS (ok:=fun _=>True) (g:=gN 8) (b:=MH)
  (fun i ρ Ω'=>∃rV z8,ρ=fG ns ds L b k L' b' k' y5 y6 (aA x) z8∧uS Ω' 2 3 4 L b k L' b' k' rV∧rV.length=row.length+i) (fun _ _ _ _=>trivial)
  ((List.range n).map fun(i:Nat)=>A.int (0+(i:Int))) 0 (fG ns ds L b k L' b' k' y5 y6 (aA x) y8) Ω ⟨row,y8,rfl,h,rfl⟩
  (by
   rintro i a ρ Ω' ha ⟨rV,z8,rfl,h',hl⟩;have hi:i<n:=by simpa using(dI.mp ha).1
   have ex:a = .int (i:Int):=by
    rw [kG,List.getElem?_range hi]at ha;simpa using ha.symm
   subst ex;rw [wY]at hl ⊢;obtain⟨Ω2,h2,q2⟩:=ajJ h' (by omega) ns ds x y5 y6 (aA i);exact⟨fG ns ds L b k L' b' k' y5 y6 (aA x) (aA i),Ω',_,_,by simp [fG],.inl q2,rV++[x],aA i,rfl,h2,by simp;omega⟩)
 simp only [kQ,Zo,wY]at hl;exact⟨Ω1,rV,z8,h',hl,q⟩
theorem avI(us:List A)(i:Nat)(h:i+8≤us.length):∃a0 a1 a2 a3 a4 a5 a6 a7,nF us (some (i:Int)) (some ((i+8:Nat):Int))=[a0,a1,a2,a3,a4,a5,a6,a7]∧∀a∈[a0,a1,a2,a3,a4,a5,a6,a7],a∈us:=by
 have e:nF us (some (i:Int)) (some ((i+8:Nat):Int))=(us.drop i).take 8:=by
  unfold nF;rw [HT.IQ,HT.IQ,Nat.min_eq_left (by omega),Nat.min_eq_left (by omega)];congr 1;omega
 have hl:((us.drop i).take 8).length=8:=by simp;omega
 have hm:∀a∈(us.drop i).take 8,a∈us:=fun a ha=>Jj (Ji ha);rw [e];generalize (us.drop i).take 8=l at hl hm
 match l,hl,hm with
 | [a0,a1,a2,a3,a4,a5,a6,a7],_,hm=>exact⟨a0,a1,a2,a3,a4,a5,a6,a7,rfl,hm⟩
theorem alZ(h:uS Ω 2 3 4 L b k L' b' k' row)(i:Nat)(hi:i≤62)(hn:row.length+5≤400)(ns ds:List Int)(BU:ds.length=510)(hd:∀d∈ds,0≤d∧d<2147483587)(y6 y7 y8:Option A) :
  ∃Ω' rV z6 z7 z8,uS Ω' 2 3 4 L b k L' b' k' rV∧rV.length≤row.length+4∧SQ (fG ns (ds.map A.int) L b k L' b' k' (aA i) y6 y7 y8) Ω=dR (fG ns (ds.map A.int) L b k L' b' k' (aA i) z6 z7 z8) Ω':=by
 obtain⟨Yo,a1,a2,a3,a4,a5,a6,a7,ec,hm⟩:=avI (ds.map A.int) (6+8*i) (by simp;omega);have wG:∀a∈[Yo,a1,a2,a3,a4,a5,a6,a7],∃n,a = .int n:=fun a ha=>by
  obtain⟨n,_,e⟩:=mM.mp (hm a ha);exact⟨n,e.symm⟩
 obtain⟨x0,rfl⟩:=wG Yo (by simp);obtain⟨x1,rfl⟩:=wG a1 (by simp);obtain⟨x2,rfl⟩:=wG a2 (by simp);obtain⟨x3,rfl⟩:=wG a3 (by simp);obtain⟨x4,rfl⟩:=wG a4 (by simp);obtain⟨x5,rfl⟩:=wG a5 (by simp);obtain⟨x6,rfl⟩:=wG a6 (by simp);obtain⟨x7,rfl⟩:=wG a7 (by simp);clear wG hm;have i3:dY (ds.map A.int) 3=(aA (ds[3]'(by omega))):=zC ds 3 (by omega);have i4:dY (ds.map A.int) 4=(aA (ds[4]'(by omega))):=zC ds 4 (by omega);have q4:=hd (ds[4]'(by omega)) (NH _);generalize ds[3]'(by omega)=c3 at i3;generalize ds[4]'(by omega)=c4 at i4 q4;obtain⟨x,hx⟩:=axN x0 [x1,x2,x3,x4,x5,x6] (c3%5);have wJ:∀Ω,xG [.lst [.int x0,.int x1,.int x2,.int x3,.int x4,.int x5,.int x6],.int (c3%5)] Ω=aM (.int x) Ω:=hx;obtain⟨n,hn4,uK⟩:∃n:Nat,n≤4∧dY [A.int 1,.int 1,.int 1,.int 2,.int 3,.int 4] (x7%6)=(aA n):=by
  rcases(show x7%6=0∨x7%6=1∨x7%6=2∨x7%6=3∨x7%6=4∨x7%6=5 by omega)with e | e | e | e | e | e <;> rw [e]
  ·exact⟨1,by omega,rfl⟩
  ·exact⟨1,by omega,rfl⟩
  ·exact⟨1,by omega,rfl⟩
  ·exact⟨2,by omega,rfl⟩
  ·exact⟨3,by omega,rfl⟩
  ·exact⟨4,by omega,rfl⟩
 obtain⟨Ω1,aiZ,z8,h1,hl,q⟩:=apT h n (by omega) ns (ds.map A.int) x (aA i) (some (.lst [.int x0,.int x1,.int x2,.int x3,.int x4,.int x5,.int x6,.int x7])) y8;have hh:=Zn h1 (by omega) c4 q4.1 q4.2;have ec':nF (ds.map A.int) (some (6+8*(i:Int))) (some (14+8*(i:Int)))=[A.int x0,.int x1,.int x2,.int x3,.int x4,.int x5,.int x6,.int x7]:=by
  rw [← ec];congr 2 <;> push_cast <;> omega
 have cm:kI 8 (i:Int):=CN (by decide) (by decide);have s6:(6:Nat)≤sizeLine:=by decide
 have s7:(7:Nat)≤sizeLine:=by decide
 have s8:(8:Nat)≤sizeLine:=by decide
 have c7:nF [A.int x0,.int x1,.int x2,.int x3,.int x4,.int x5,.int x6,.int x7] none (some 7)=[A.int x0,.int x1,.int x2,.int x3,.int x4,.int x5,.int x6]:=Ws [A.int x0,.int x1,.int x2,.int x3,.int x4,.int x5,.int x6,.int x7] 7 (by simp);have a7:dY [A.int x0,.int x1,.int x2,.int x3,.int x4,.int x5,.int x6,.int x7] 7=(aA x7):=rfl;have li:cK Ω (.lst (ds.map A.int))=some (ds.map A.int):=rfl;refine⟨Ω1,aiZ,aT ([.int x0,.int x1,.int x2,.int x3,.int x4,.int x5,.int x6,.int x7]),aA x,z8,h1,by omega,?_⟩;generalize ds.map A.int=us at *;unfold SQ;rw [bM (ρ1:=fG ns us L b k L' b' k' (aA i) (some (.lst [.int x0,.int x1,.int x2,.int x3,.int x4,.int x5,.int x6,.int x7])) y7 y8) (Ω':=Ω) (by
  simp [fG,cm,ec',s8])]
 rw [bM (ρ1:=fG ns us L b k L' b' k' (aA i) (some (.lst [.int x0,.int x1,.int x2,.int x3,.int x4,.int x5,.int x6,.int x7])) (aA x) y8) (Ω':=Ω) (by
  simp [fG,bN,c7,s7,i3,wJ])]
 rw [bM (ρ1:=fG ns us L b k L' b' k' (aA i) (some (.lst [.int x0,.int x1,.int x2,.int x3,.int x4,.int x5,.int x6,.int x7])) (aA x) z8) (Ω':=Ω1) (by
  rw [pM (S:=sW 0 n) (Ω':=Ω) (QB (n:=n) (by simp [fG,a7,s6,uK]) (by omega))];exact q)]
 simp only [bA]at hh
 by_cases hc:(i:Int)=c4%64
 ·simp [fG,bN,i4,← hc,hh]
 ·simp [fG,bN,i4,hc]
end
theorem aoP(ns:List Int)(wK:ns.length≤63):∃W,aaB [.dB ns] [hJ]=aM (.bl true) W:=by
 obtain⟨ds,BU,hd,hq⟩:=axT ns wK 510 (by decide) [hJ];have uI:NS [.dB ns,.int 510] [hJ]=aM (.lst (ds.map A.int)) [hJ]:=hq;have i0:dY (ds.map A.int) 0=(aA (ds[0]'(by omega))):=zC ds 0 (by omega);have i1:dY (ds.map A.int) 1=(aA (ds[1]'(by omega))):=zC ds 1 (by omega);have i2:dY (ds.map A.int) 2=(aA (ds[2]'(by omega))):=zC ds 2 (by omega);have i5:dY (ds.map A.int) 5=(aA (ds[5]'(by omega))):=zC ds 5 (by omega);have q0:=hd (ds[0]'(by omega)) (NH _);have q1:=hd (ds[1]'(by omega)) (NH _);have q5:=hd (ds[5]'(by omega)) (NH _);generalize ds[0]'(by omega)=c0 at i0 q0;generalize ds[1]'(by omega)=c1 at i1 q1;generalize ds[2]'(by omega)=c2 at i2;generalize ds[5]'(by omega)=c5 at i5 q5;obtain⟨L,b,k,L1,L2,b1,b2,k1,k2,sz⟩:=Zk c0 q0.1;obtain⟨L',b',k',Jo,L2',Yk,b2',k1',k2',sz'⟩:=Zk c1 q1.1;obtain⟨n,hn⟩:=HF (show 0≤c2%64 by omega);have start:uS [hJ,.dead,.ins "Window" (wF L b k 0 [] []),.ins "Window" (wF L' b' k' 0 [] []),.lst []] 2 3 4 L b k L' b' k' [] :=
  ⟨⟨[],[],⟨rfl,Lg L1 b1,L1,L2,b1,b2,k1,k2⟩⟩,⟨[],[],⟨rfl,Lg Jo Yk,Jo,L2',Yk,b2',k1',k2'⟩⟩,rfl,rfl⟩
 obtain⟨ρ1,Ω1,q,row,z5,z6,z7,z8,rfl,h,hl⟩:=LS (ok:=fun _=>True) (g:=gN 5) (b:=SQ)
  (fun i ρ Ω'=>∃row z5 z6 z7 z8,ρ=fG ns (ds.map A.int) L b k L' b' k' z5 z6 z7 z8∧uS Ω' 2 3 4 L b k L' b' k' row∧row.length≤4*i) (fun _ _ _ _=>trivial)
  ((List.range n).map fun(i:Nat)=>A.int (0+(i:Int))) 0 (fG ns (ds.map A.int) L b k L' b' k' none none none none) [hJ,.dead,.ins "Window" (wF L b k 0 [] []),.ins "Window" (wF L' b' k' 0 [] []),.lst []] ⟨[],none,none,none,none,rfl,start,by simp⟩
  (by
   rintro i a ρ Ω' ha ⟨row,z5,z6,z7,z8,rfl,h',hl⟩;have hi:i<n:=by simpa using(dI.mp ha).1
   have ex:a = .int (i:Int):=by
    rw [kG,List.getElem?_range hi]at ha;simpa using ha.symm
   subst ex;rw [wY]at hl ⊢;obtain⟨Ω2,aiY,y6,y7,y8,h2,kX,q2⟩:=alZ h' i (by omega) (by omega) ns ds BU hd z6 z7 z8;exact⟨fG ns (ds.map A.int) L b k L' b' k' (aA i) z6 z7 z8,Ω',_,_,by simp [fG],.inl q2,aiY,aA i,y6,y7,y8,rfl,h2,by omega⟩)
 simp only [kQ,Zo,wY]at hl;have en:=Zn h (by omega) c5 q5.1 q5.2;have s2:(2:Nat)≤sizeLine:=by decide
 have h0z:(0:Nat)<sizeLine:=by decide
 have h1z:(1:Nat)<sizeLine:=by decide
 have An:=Zi L b k [hJ,.lst []];have Am:=Zi L' b' k' [hJ,.lst [.aD 2],.ins "Window" (wF L b k 0 [] [])];have e:SR [some (.dB ns),none,none,none,none,none,none,none,none] [hJ]=some (.ret (.bl true),fG ns (ds.map A.int) L b k L' b' k' z5 z6 z7 z8,Ω1):=by
  generalize ds.map A.int=us at *;unfold SR;rw [bM (ρ1:=[some (.dB ns),aT us,none,none,none,none,none,none,none]) (Ω':=[hJ]) (by simp [bN,uI])];rw [bM (ρ1:=[some (.dB ns),aT us,aT ([bA L b k,bA L' b' k']),none,none,none,none,none,none]) (Ω':=[hJ]) (by simp [bN,i0,i1,sz,sz',s2])];have lc:Hq [some (.dB ns),aT us,aT ([bA L b k,bA L' b' k']),none,none,none,none,none,none] [hJ]=aM (.lst [.aD 2,.aD 3]) [hJ,.dead,.ins "Window" (wF L b k 0 [] []),.ins "Window" (wF L' b' k' 0 [] [])]:=by
   unfold Hq lK;generalize hgm:FU "Window" 4 DI=gm at An Am;rw [cE (x:=srcOf (.lst [bA L b k,bA L' b' k']) [bA L b k,bA L' b' k']) (Ω':=[hJ]) (by simp)];simp at An Am;simp [oU,lP,An,Am,QP,h0z,h1z,fH,Cl]
  rw [bM (mL (by simp) lc)];show aV _ _ [some (.dB ns),aT us,aT ([bA L b k,bA L' b' k']),aT ([.aD 2,.aD 3]),none,none,none,none,none] _=_;rw [bM (ρ1:=fG ns us L b k L' b' k' none none none none) (Ω':=[hJ,.dead,.ins "Window" (wF L b k 0 [] []),.ins "Window" (wF L' b' k' 0 [] []),.lst []]) (by simp [fG,nO])];rw [bM (ρ1:=fG ns us L b k L' b' k' z5 z6 z7 z8) (Ω':=Ω1) (by
   rw [pM (S:=sW 0 n) (Ω':=[hJ,.dead,.ins "Window" (wF L b k 0 [] []),.ins "Window" (wF L' b' k' 0 [] []),.lst []]) (QB (n:=n) (by simp [fG,i2,hn]) (by omega))];exact q)]
  simp only [bA]at en;simp [fG,bN,i5,en]
 refine⟨(trim [hJ] (some (.ok (.bl true),Ω1))).elim [] (·.2),?_⟩;show trim [hJ] (gC (SR [some (.dB ns),none,none,none,none,none,none,none,none] [hJ]))=_;rw [e];simp only [pE,trim];split <;> rfl
end M
namespace Jq
open PySem L2 V2 PyProof.Rows M
def top(i:Nat):Stmt:=PySem.Challenge.pw_rankpouch_k86_whole_window.main.body.getD i (.Pass ⟨0,0,0,0⟩)
abbrev YT:Stmt:=top 5
abbrev YV:Stmt:=top 8
abbrev YS:Stmt:=top 9
abbrev PQ:Stmt:=top 10
abbrev YQ:Stmt:=top 11
abbrev YR:Stmt:=top 13
abbrev YX:Stmt:=top 14
abbrev YO:Stmt:=top 15
abbrev YW:Stmt:=top 16
abbrev xY:Stmt:=top 18
abbrev IL:Stmt:=top 20
abbrev EL:Stmt:=top 21
abbrev PN:Stmt:=top 24
abbrev PR:Stmt:=top 25
abbrev YU:Stmt:=top 26
abbrev ZD:Stmt:=top 28
abbrev ZG:Stmt:=top 29
abbrev ZC:Stmt:=top 30
abbrev YY:Stmt:=top 31
abbrev YZ:Stmt:=top 32
abbrev PU:Stmt:=top 33
abbrev IM:Stmt:=top 34
abbrev ZE:Stmt:=top 35
abbrev ZF:Stmt:=top 36
abbrev AH:Stmt:=inClass (top 23) 0
abbrev ZH:Stmt:=inClass (top 23) 1
abbrev ZK:Stmt:=inClass (top 23) 2
abbrev xZ:Stmt:=inClass (top 23) 3
abbrev AG:Stmt:=inClass (top 23) 4
abbrev yA:Stmt:=inClass (top 23) 5
abbrev PV:Stmt:=inClass (top 23) 6
abbrev ZJ:Stmt:=inClass (top 23) 7
abbrev ZI:Stmt:=inClass (top 23) 8
abbrev tZ:Stmt:=top 37
structure eU(mg:Str→Option Value):Prop where
 abs:mg "abs" = none
 bool:mg "bool" = none
 enumerate:mg "enumerate" = none
 int:mg "int" = none
 isinstance:mg "isinstance" = none
 len:mg "len" = none
 list:mg "list" = none
 max:mg "max" = none
 min:mg "min" = none
 range:mg "range" = none
 sorted:mg "sorted" = none
 sum:mg "sum" = none
 tuple:mg "tuple" = none
 zip:mg "zip" = none
section
variable(P:Program)(w:World)(K:Frag)(mg:Str→Option Value)(base:Heap)
abbrev Za:=cZ P w K mg base "near_enough" 1 ["before", "entry", "slack"] NQ
abbrev Io:=cZ P w K mg base "packed" 1 ["row"] HG
abbrev Ik:=cZ P w K mg base "bounds_ahead" 1 ["pouch", "at"] rF
abbrev UA:=cZ P w K mg base "summed" 1 ["bounds"] VF
abbrev uR:=cZ P w K mg base "beyond" 1 ["parts", "last"] zP
abbrev TZ:=cZ P w K mg base "_law_mix" 1 ["_law_cell", "_law_k"] rG
abbrev Yr:=cZ P w K mg base "_law_number" 1 ["_law_some", "_law_sort"] xG
abbrev TY:=cZ P w K mg base "_law_whole" 1 ["_law_found"] DG
abbrev Yq:=cZ P w K mg base "_law_sizes" 1 ["_law_cell"] HI
abbrev TX:=cZ P w K mg base "number_at" 2 ["row", "place"] Ka
abbrev Yz:=cZ P w K mg base "kept_entries" 2 ["entries", "slack"] NR
abbrev UB:=cZ P w K mg base "midway" 2 ["pouch"] VH
abbrev Yy:=cZ P w K mg base "_law_draws" 2 ["_law_script", "_law_many"] NS
abbrev Yx:=cZ P w K mg base "thinned" 3 ["pouch", "keep"] uW
abbrev Im:=cZ P w K mg base "pouch_of" 4 ["numbers"] qG
abbrev Il:=cZ P w K mg base "upto_asks" 3 ["pouch", "number"] NN
abbrev wX:=fL P w K mg base "Window" "look_last" 1 2 [] xI
abbrev wW:=fL P w K mg base "Window" "parts" 5 2 [] uZ
abbrev Yw:=fL P w K mg base "Window" "upto" 6 3 [] uX
abbrev Yv:=cZ P w K mg base "_law_upto_holds" 7 ["_law_window", "_law_lasts", "_law_number_here", "_law_last", "_law_off"] Kb
abbrev Yu:=cZ P w K mg base "_law_place_holds" 7 ["_law_window", "_law_row", "_law_lasts", "_law_place", "_law_last", "_law_off"] Kc
abbrev Yt:=cZ P w K mg base "_law_last_holds" 8 ["_law_window", "_law_sizes_here", "_law_row", "_law_last", "_law_cell"] Kd
abbrev Ys:=cZ P w K mg base "_law_holds" 9 ["_law_windows", "_law_sizes_here", "_law_row", "_law_cell"] VL
end
section
variable{P:Program}{w:World}{K:Frag}{mg:Str→Option Value}{base:Heap}
theorem aiI:dJ ["before", "entry", "slack"] ["before", "entry", "slack"] (aX YT):=fY
theorem auR(B:eU mg)(h:HasFn K mg "near_enough" YT):Za P w K mg base:=by
 refine cZ.of h aiI (fun _ _ _ _ _ _ us hl=>Mf us hl (fun _ _ _=>rfl)) (fun _ _ _ _ _ _ _ hr=>?_);exact(bU (eN (aa7 (sT (nN hr.units) (bT (vv 1) aJ bI) (bT (vv 0) aJ bI) (eI _)) (HV (sT qS (bT (vv 1) aJ bI) (aY (eG false) (aY (eG false) (bT (vv 0) aJ bI) (vv 2)) aJ) (eI _))))))
theorem EI:dJ ["row", "length", "at", "run", "times"] ["row"] (aX YV):=fY
theorem auT(B:eU mg)(h:HasFn K mg "look_row" YV)(Eb:∃t,mg "LONGEST" = some (.int 1000000000 t)):cZ P w K mg base "look_row" 1 ["row"] VJ:=by
 refine cZ.of h EI (fun _ _ _ _ _ _ us hl=>rQ us hl (fun _=>rfl)) (fun _ _ _ _ _ _ _ hr=>?_);exact(bE (cA (i:=1) EI.nd rfl bF aJ)
  (bE (oF bW.passes rfl (Lm rfl B.enumerate (vv 0)) (vL rfl (lX (fE (i:=2) EI.nd rfl bF) (lX (fE (i:=3) EI.nd rfl bF) vK)))
   (bE (cA (i:=4) EI.nd rfl bF (bT (vv 3) aJ bI))
   (bE (cA (i:=1) EI.nd rfl bF (aY (eG false) (vv 1) (vv 4)))
   (bU (iO (VW.vt (rN (fR sX (vv 4) aJ (eI _)) (xN (fR JC (vv 1) (abB rfl Eb) (eI _)))))
    (bU aa2)
    jC)))))
  (bU (eN (vv 1)))))
theorem PF:dJ ["row", "times_of", "number", "times"] ["row"] (aX PQ):=fY
theorem auO(B:eU mg)(h:HasFn K mg "packed" PQ):Io P w K mg base:=by
 refine cZ.of h PF (fun _ _ _ _ _ _ us hl=>rQ us hl (fun _=>rfl)) (fun _ _ _ _ _ _ _ hr=>?_);exact(bE (cA (i:=1) PF.nd rfl (Or.inr rfl) Lr)
  (bE (oF bW.passes rfl (lW (vv 0)) (vL rfl (lX (fE (i:=2) PF.nd rfl bF) (lX (fE (i:=3) PF.nd rfl bF) vK)))
   (bU (Ll (cH.OK hr) (vv 1) (vv 2) (aY (eG false) (abF (cH.OK hr) (vv 1) (vv 2) aJ ⟨rfl,rfl,rfl,rfl⟩) (vv 3)))))
  (bU (eN (sS false ["number"] [1] rfl (sA (aX PQ) ["row", "times_of", "number", "times"]) (lW (eE (awB rfl false) rfl B.sorted boot_sorted (aG (vv 1) aO))) (fun cl C s H fp=>⟨(fE (i:=0) (show(["number", "times_of"]:List Str).Nodup by decide +kernel) rfl bF),vJ,(rP (aG (vv 0) (aG (abG (cH.OK hr) (vv 1) (vv 0) bI) aO)))⟩))))))
theorem PJ:dJ ["pouch", "at", "entries", "low", "high"] ["pouch", "at"] (aX YX):=fY
theorem auY(B:eU mg)(h:HasFn K mg "bounds_ahead" YX):Ik P w K mg base:=by
 refine cZ.of h PJ (fun _ _ _ _ _ _ us hl=>pT us hl bI) (fun _ _ _ _ _ _ _ hr=>?_);exact(bE (cA (i:=2) PJ.nd rfl bF (bT (vv 0) aJ bI))
  (bE (cA (i:=3) PJ.nd rfl bF (Lq (fR JC (vv 1) aJ (eI _)) (bT (bT (vv 2) (aY lN (vv 1) aJ) bI) aJ bI) aJ))
  (bE (cA (i:=4) PJ.nd rfl bF (Lq (fR sX (vv 1) (eE jP rfl B.len PySem.boot_len (aG (vv 2) aO)) (eI _)) (aY lN (bT (bT (vv 2) (vv 1) bI) aJ bI) aJ) (bT (vv 0) aJ bI)))
  (bU (eN (rP (aG (vv 3) (aG (vv 4) aO))))))))
theorem aiG:dJ ["bounds"] ["bounds"] (aX IL):=fY
theorem auK(B:eU mg)(h:HasFn K mg "summed" IL):UA P w K mg base:=by
 refine cZ.of h aiG (fun _ _ _ _ _ _ us hl=>rQ us hl (fun _=>rfl)) (fun _ _ _ _ _ _ _ hr=>?_);exact(bU (eN (rP (aG (eE (GJ rfl) rfl B.sum boot_sum (aG (sS false ["pair"] [] rfl (sA (aX IL) ["bounds"]) (lW (vv 0)) (fun cl C s H fp=>⟨(fE (i:=0) (show(["pair"]:List Str).Nodup by decide +kernel) rfl bF),vJ,(bT (vv 0) aJ bI)⟩)) aO)) (aG (eE (GJ rfl) rfl B.sum boot_sum (aG (sS false ["pair"] [] rfl (sA (aX IL) ["bounds"]) (lW (vv 0)) (fun cl C s H fp=>⟨(fE (i:=0) (show(["pair"]:List Str).Nodup by decide +kernel) rfl bF),vJ,(bT (vv 0) aJ bI)⟩)) aO)) aO)))))
theorem Nz:dJ ["self", "length", "block", "keep"] ["self", "length", "block", "keep"] (aX AH):=fY
theorem Xx(B:eU mg)(oA:eM K ["Window"] "block")(lI:eM K ["Window"] "full")(vD:eM K ["Window"] "keep")(qH:eM K ["Window"] "many")(kR:eM K ["Window"] "newest")(rK:eM K ["Window"] "reach")(f:Addr)(aU:Value)(A:Around)(outer:List Env)(s:Shared)(H:Hp)(E:XK)(hr:cH 0 (A.deeper (envOfC "Window.__init__" (aX AH) s.heap.objs.size f aU))) :
  jG (nE P w K mg base ["self", "length", "block", "keep"] "Window.__init__" (aX AH) f aU A outer s H E) (fun _=>E) (dX AH) MO:=by
 exact(bE (xO (vv 0) (vv 1) rK)
  (bE (xO (vv 0) (vv 2) oA)
  (bE (xO (vv 0) (vv 3) vD)
  (bE (xO (vv 0) aJ qH)
  (bE (WD (xO (vv 0) (kS true aO) lI))
  (bU (WD (xO (vv 0) (kS true aO) kR))))))))
theorem auE(B:eU mg)(oA:eM K ["Window"] "block")(lI:eM K ["Window"] "full")(vD:eM K ["Window"] "keep")(qH:eM K ["Window"] "many")(kR:eM K ["Window"] "newest")(rK:eM K ["Window"] "reach"){cls:Str}(h:Jy K mg cls "Window.__init__" AH):GY P w K mg base cls 1 4 DI:=GY.of h Nz (fun _ _ _ _ _ _ us hl=>OJ us hl (fun _ _ _ _=>rfl)) (Xx B oA lI vD qH kR rK)
theorem aAI(B:eU mg)(oA:eM K ["Window"] "block")(lI:eM K ["Window"] "full")(vD:eM K ["Window"] "keep")(qH:eM K ["Window"] "many")(kR:eM K ["Window"] "newest")(rK:eM K ["Window"] "reach"){rk:Str}(h:Zz K mg rk "__init__" "Window.__init__" AH):UZ P w K mg base rk "__init__" 1 4 DI:=UZ.of h Nz (fun _ _ _ _ _ _ us hl=>OJ us hl (fun _ _ _ _=>rfl)) (Xx B oA lI vD qH kR rK)
theorem Ny:dJ ["self", "others"] ["self"] (aX ZK):=fY
theorem avG(B:eU mg)(oA:eM K ["Window"] "block")(lI:eM K ["Window"] "full")(kR:eM K ["Window"] "newest")(rK:eM K ["Window"] "reach"){cls:Str}(h:zO K mg cls "drop_oldest" "Window.drop_oldest" ZK):fL P w K mg base cls "drop_oldest" 1 1 [] NT:=by
 refine fL.of h Ny (fun _ _ _ _ _ _ us hl=>rQ us hl (fun _=>rfl)) (fun _ _ _ _ _ _ _ hr=>?_);exact(bE (cA (i:=1) Ny.nd rfl bF (aY (eG false) (aY oM (aY lN (OH (eE jP rfl B.len PySem.boot_len (aG (kT (vv 0) lI) aO))) aJ) (kT (vv 0) oA)) (OH (eE jP rfl B.len PySem.boot_len (aG (kT (vv 0) kR) aO)))))
  (bU (iO (fR Qk (vv 1) (kT (vv 0) rK) (eI _))
   (bU (OD (i:=0) (f := "full") (pR (sU PySem.F.plainAttrs_list PySem.F.slot_list_pop PySem.F.type_list_pop anT an7 (kT (vv 0) lI) (aG aJ aO)))))
   jC)))
theorem aiM:dJ ["self"] ["self"] (aX PV):=fY
theorem avF(B:eU mg)(lI:eM K ["Window"] "full")(kR:eM K ["Window"] "newest"){cls:Str}(h:zO K mg cls "held" "Window.held" PV):fL P w K mg base cls "held" 1 1 [] nX:=by
 refine fL.of h aiM (fun _ _ _ _ _ _ us hl=>rQ us hl (fun _=>rfl)) (fun _ _ _ _ _ _ _ hr=>?_);exact(bU (eN (Lp (i:=0) (f := "full") (aY (eG false) (OH (eE jP rfl B.len PySem.boot_len (aG (kT (vv 0) kR) aO))) (eE (GJ rfl) rfl B.sum boot_sum (aG (sS false ["part"] [] rfl (sA (aX PV) ["self"]) (lW (kT (vv 0) lI)) (fun cl C s H fp=>⟨(fE (i:=0) (show(["part"]:List Str).Nodup by decide +kernel) rfl bF),vJ,(eE jP rfl B.len PySem.boot_len (aG (bT (vv 0) aJ bI) aO))⟩)) aO))))))
theorem YM:dJ ["self", "last", "most"] ["self", "last"] (aX ZJ):=fY
theorem avE(B:eU mg)(qH:eM K ["Window"] "many")(rK:eM K ["Window"] "reach")(pP:zE K mg "NoPlace"){cls:Str}(h:zO K mg cls "look_last" "Window.look_last" ZJ):fL P w K mg base cls "look_last" 1 2 [] xI:=by
 refine fL.of h YM (fun _ _ _ _ _ _ us hl=>pT us hl bI) (fun _ _ _ _ _ _ _ hr=>?_);exact(bE (cA (i:=2) YM.nd rfl bF (eE (MF rfl) rfl B.min boot_min (aG (kT (vv 0) rK) (aG (kT (vv 0) qH) aO))))
  (bE (iO (fR amY (vv 1) WJ (eI _))
   (bU (cA (i:=1) YM.nd rfl bF (vv 2)))
   jC)
  (bE (iO (VW.vt (rN (fR sX (vv 1) aJ (eI _)) (xN (fR JC (vv 1) (vv 2) (eI _)))))
   (bU (OC bW rfl pP rfl (aG OF aO)))
   jC)
  (bU (eN (vv 1))))))
theorem aiJ:dJ ["parts", "last"] ["parts", "last"] (aX PR):=fY
theorem auZ(B:eU mg)(h:HasFn K mg "beyond" PR):uR P w K mg base:=by
 refine cZ.of h aiJ (fun _ _ _ _ _ _ us hl=>pT us hl bI) (fun _ _ _ _ _ _ _ hr=>?_);exact(bU (eN (aY lN (eE (GJ rfl) rfl B.sum boot_sum (aG (sS false ["part"] [] rfl (sA (aX PR) ["parts", "last"]) (lW (vv 0)) (fun cl C s H fp=>⟨(fE (i:=0) (show(["part"]:List Str).Nodup by decide +kernel) rfl bF),vJ,(bT (vv 0) aJ bI)⟩)) aO)) (vv 1))))
theorem Nx:dJ ["_law_cell", "_law_k", "_law_first"] ["_law_cell", "_law_k"] (aX ZD):=fY
theorem au5(B:eU mg)(h:HasFn K mg "_law_mix" ZD):TZ P w K mg base:=by
 refine cZ.of h Nx (fun _ _ _ _ _ _ us hl=>pT us hl bI) (fun _ _ _ _ _ _ _ hr=>?_);exact(bE (cA (i:=2) Nx.nd rfl bF (aY iR (aY oM (aY (eG false) (vv 0) aJ) (aY (eG false) aJ (aY oM aJ (vv 1)))) aJ))
  (bU (eN (aY iR (aY (eG false) (aY (eG false) (aY oM (aY oN (vv 2) aJ) aJ) (aY oM (vv 2) (aY (eG false) (aY oM (vv 1) (vv 1)) aJ))) (vv 1)) aJ))))
theorem PL:dJ ["_law_some", "_law_sort", "_law_whole_here", "_law_one"] ["_law_some", "_law_sort"] (aX ZC):=fY
theorem au4(B:eU mg)(h:HasFn K mg "_law_number" ZC):Yr P w K mg base:=by
 refine cZ.of h PL (fun _ _ _ _ _ _ us hl=>pT us hl bI) (fun _ _ _ _ _ _ _ hr=>?_);exact(bE (iO (fR (nN hr.units) (vv 1) aJ (eI _))
   (bU (eN (aY iR (bT (vv 0) aJ bI) aJ)))
   jC)
  (bE (iO (fR (nN hr.units) (vv 1) aJ (eI _))
   (bU (eN (aY lN (aY iR (bT (vv 0) aJ bI) aJ) aJ)))
   jC)
  (bE (iO (fR (nN hr.units) (vv 1) aJ (eI _))
   (bU (eN (bT (kS false (aG aJ (aG (aY lN aJ aJ) (aG aJ aO)))) (aY iR (bT (vv 0) aJ bI) aJ) bI)))
   jC)
  (bE (cA (i:=2) PL.nd rfl bF aJ)
  (bE (oF bW.passes rfl (lW (vv 0)) (fE (i:=3) PL.nd rfl bF)
   (bU (cA (i:=2) PL.nd rfl bF (aY (eG false) (aY oM (vv 2) aJ) (vv 3)))))
  (bE (iO (fR (nN hr.units) (vv 1) aJ (eI _))
   (bU (eN (aY lN (aY iR (vv 2) (aY (eG false) (aY oM aJ (aY JB aJ aJ)) aJ)) (aY JB aJ aJ))))
   jC)
  (bU (eN (aY (eG false) (aY lN (aY iR (vv 2) (aY lN (aY oM aJ (aY JB aJ aJ)) aJ)) (aY JB aJ aJ)) aJ)))))))))
theorem aiK:dJ ["_law_found"] ["_law_found"] (aX YY):=fY
theorem au0(B:eU mg)(h:HasFn K mg "_law_whole" YY):TY P w K mg base:=by
 refine cZ.of h aiK (fun _ _ _ _ _ _ us hl=>rQ us hl (fun _=>rfl)) (fun _ _ _ _ _ _ _ hr=>?_);exact(bU (eN (OI (eE Hc rfl B.isinstance boot_isinstance (aG (vv 0) (aG (WH rfl B.int PyProof.Rows.boot_int) aO))) (HV (aa8 (eE Hc rfl B.isinstance boot_isinstance (aG (vv 0) (aG (WH rfl B.bool PyProof.Rows.boot_bool) aO))))))))
theorem PK:dJ ["_law_cell", "_law_length", "_law_block"] ["_law_cell"] (aX YZ):=fY
theorem au2(B:eU mg)(h:HasFn K mg "_law_sizes" YZ):Yq P w K mg base:=by
 refine cZ.of h PK (fun _ _ _ _ _ _ us hl=>rQ us hl (fun _=>rfl)) (fun _ _ _ _ _ _ _ hr=>?_);exact(bE (cA (i:=1) PK.nd rfl bF (aY (eG false) aJ (aY iR (vv 0) aJ)))
  (bE (cA (i:=2) PK.nd rfl bF (aY (eG false) aJ (aY iR (aY oN (vv 0) aJ) aJ)))
  (bE (iO (fR (nN hr.units) (aY iR (aY oN (vv 0) aJ) aJ) aJ (eI _))
   (bU (cA (i:=2) PK.nd rfl bF (aY (eG false) aJ (aY iR (aY oN (vv 0) aJ) aJ))))
   jC)
  (bU (eN (rP (aG (vv 1) (aG (eE (Hb rfl) rfl B.max boot_max (aG (vv 2) (aG (aY oN (vv 1) aJ) aO))) (aG (aY (eG false) aJ (aY iR (aY oN (vv 0) aJ) aJ)) aO)))))))))
theorem II:dJ ["row", "place", "last_place", "number", "times"] ["row", "place"] (aX YS):=fY
theorem auQ(B:eU mg)(h:HasFn K mg "number_at" YS)(HK:Io P w K mg base)(pP:zE K mg "NoPlace"):TX P w K mg base:=by
 refine cZ.of h II (fun _ _ _ _ _ _ us hl=>pT us hl bI) (fun _ _ _ _ _ _ _ hr=>?_);exact(bE (iO (fR sX (vv 1) aJ (eI _))
   (bU (OC bW rfl pP rfl (aG OF aO)))
   jC)
  (bE (cA (i:=2) II.nd rfl bF aJ)
  (bE (oF bW.passes rfl (lW (fP bW HK hr.m rfl (aG (vv 0) aO))) (vL rfl (lX (fE (i:=3) II.nd rfl bF) (lX (fE (i:=4) II.nd rfl bF) vK)))
   (bE (cA (i:=2) II.nd rfl bF (aY (eG false) (vv 2) (vv 4)))
   (bU (iO (fR qS (vv 1) (vv 2) (eI _))
    (bU (eN (vv 3)))
    jC))))
  (bU (OC bW rfl pP rfl (aG OF aO))))))
theorem EH:dJ ["row", "places", "length", "number", "times"] ["row"] (aX YQ):=fY
theorem auN(B:eU mg)(h:HasFn K mg "places_of" YQ)(HK:Io P w K mg base):cZ P w K mg base "places_of" 2 ["row"] NO:=by
 refine cZ.of h EH (fun _ _ _ _ _ _ us hl=>rQ us hl (fun _=>rfl)) (fun _ _ _ _ _ _ _ hr=>?_);exact(bE (cA (i:=1) EH.nd rfl bF Lr)
  (bE (cA (i:=2) EH.nd rfl bF aJ)
  (bE (oF bW.passes rfl (lW (fP bW HK hr.m rfl (aG (vv 0) aO))) (vL rfl (lX (fE (i:=3) EH.nd rfl bF) (lX (fE (i:=4) EH.nd rfl bF) vK)))
   (bE (Ll (cH.OK hr) (vv 1) (vv 3) (rP (aG (aY (eG false) (vv 2) aJ) (aG (aY (eG false) (vv 2) (vv 4)) aO))))
   (bU (cA (i:=2) EH.nd rfl bF (aY (eG false) (vv 2) (vv 4))))))
  (bU (eN (vv 1))))))
theorem IJ:dJ ["entries", "slack", "kept", "last", "at", "entry"] ["entries", "slack"] (aX YW):=fY
theorem auV(B:eU mg)(h:HasFn K mg "kept_entries" YW)(Ki:Za P w K mg base):Yz P w K mg base:=by
 refine cZ.of h IJ (fun _ _ _ _ _ _ us hl=>pT us hl bI) (fun _ _ _ _ _ _ _ hr=>?_);exact(bE (cA (i:=2) IJ.nd rfl bF (kS true aO))
  (bE (cA (i:=3) IJ.nd rfl bF (aY lN (eE jP rfl B.len PySem.boot_len (aG (vv 0) aO)) aJ))
  (bE (oF bW.passes rfl (Lm rfl B.enumerate (vv 0)) (vL rfl (lX (fE (i:=4) IJ.nd rfl bF) (lX (fE (i:=5) IJ.nd rfl bF) vK)))
   (bU (iO (VW.vt (rN (fR (nN hr.units) (vv 4) aJ (eI _)) (rN (fR (nN hr.units) (vv 4) (vv 3) (eI _)) (xN (rO (sQ (fP bW Ki hr.m rfl (aG (bT (vv 2) (Lo aJ) bI) (aG (bT (vv 0) (aY (eG false) (vv 4) aJ) bI) (aG (vv 1) aO))))))))))
    (bU (pR (sU PySem.F.plainAttrs_list PySem.F.slot_list_append PySem.F.type_list_append vX wD (vv 2) (aG (vv 5) aO))))
    jC)))
  (bU (eN (vf 2))))))
theorem EJ:dJ ["entries", "holds", "start", "end", "middle"] ["entries", "holds"] (aX EL):=fY
theorem awI(B:eU mg){qual:Str}{params:Arguments}{body:Expr}{scope:Scope}{y:Str}{cs:List Str}{fb:Ev→Mo A}(S0:HE scope y cs)(BX:∀(u:Value) cl pm c' fZ,bindArgs (kla_fn "<lambda>" qual params body scope cl pm (.ref c') fZ) ⟨[u],[]⟩=pure [(y,u)])(hV0:Zv P w K mg base qual body scope y cs fb) :
  ∀(lf:Addr) (cV:List (Str×Int)),cV.map (·.1)=cs→∀(f:Addr) (aU:Value) (A:Around) (outer:List Env) (s:Shared) (H:Hp) (E:XK),cH 1 (A.deeper (envOfC "first_where" (aX EL) s.heap.objs.size f aU))→uU s.heap H lf qual params body scope cV →
   jG (nE P w K mg base ["entries", "holds", "start", "end", "middle"] "first_where" (aX EL) f aU A outer s H E) (fun _=>E) (dX EL) (MJ lf (qW fb (cV.map (·.2)))):=by
 intro lf cV hc f aU A outer s H E hr La;subst hc;have S:=S0;have hV:=hV0;exact(bE (cA (i:=2) EJ.nd rfl bF aJ)
  (bE (cA (i:=3) EJ.nd rfl bF (eE jP rfl B.len PySem.boot_len (aG (vv 0) aO)))
  (bE (Lk (fun _ _=>1000000) bW.passes (fR sX (vv 2) (vv 3) (eI _))
   (bE (cA (i:=4) EJ.nd rfl bF (aY oN (aY (eG false) (vv 2) (vv 3)) aJ))
   (bU (iO (sQ (abA (i:=1) rfl La S hr.m BX hV rfl bF (bT (vv 0) (vv 4) bI)))
    (bU (cA (i:=3) EJ.nd rfl bF (vv 4)))
    (bU (cA (i:=2) EJ.nd rfl bF (aY (eG false) (vv 4) aJ)))))))
  (bU (eN (vv 2))))))
theorem AF:dJ ["pouch", "runs", "ahead", "at", "entry", "through"] ["pouch"] (aX YU):=fY
theorem auS(B:eU mg)(h:HasFn K mg "midway" YU)(HL:Ik P w K mg base):UB P w K mg base:=by
 refine cZ.of h AF (fun _ _ _ _ _ _ us hl=>rQ us hl (fun _=>rfl)) (fun _ _ _ _ _ _ _ hr=>?_);exact(bE (cA (i:=1) AF.nd rfl bF (kS true aO))
  (bE (cA (i:=2) AF.nd rfl bF aJ)
  (bE (oF bW.passes rfl (aa5 rfl B.enumerate (bT (vv 0) aJ bI)) (vL rfl (lX (fE (i:=3) AF.nd rfl bF) (lX (fE (i:=4) AF.nd rfl bF) vK)))
   (bE (cA (i:=5) AF.nd rfl bF (aY oN (eE (awA rfl) rfl B.sum boot_sum (aG (fP bW HL hr.m rfl (aG (vv 0) (aG (vv 3) aO))) aO)) aJ))
   (bE (pR (sU PySem.F.plainAttrs_list PySem.F.slot_list_append PySem.F.type_list_append vX wD (vv 1) (aG (rP (aG (bT (vv 4) aJ bI) (aG (aY lN (vv 5) (vv 2)) aO))) aO)))
   (bU (cA (i:=2) AF.nd rfl bF (vv 5))))))
  (bU (eN (vf 1))))))
theorem xX:dJ ["_law_script", "_law_many", "_law_rest", "_law_odd", "_law_seeds", "_law_found", "_law_k", "_law_at"] ["_law_script", "_law_many"] (aX ZG):=fY
theorem au8(B:eU mg)(h:HasFn K mg "_law_draws" ZG)(tW:TZ P w K mg base):Yy P w K mg base:=by
 refine cZ.of h xX (fun _ _ _ _ _ _ us hl=>pT us hl bI) (fun _ _ _ _ _ _ _ hr=>?_);exact(bE (cA (i:=2) xX.nd rfl bF (WL (Xm true) rfl B.list PyProof.Rows.boot_list (aG (zW false (vv 0) DS (xP aJ)) aO)))
  (bE (iO (fR (nN hr.units) (vv 2) (kS false aO) (eI _))
   (bU (cA (i:=2) xX.nd rfl bF (kS true (aG aJ aO))))
   jC)
  (bE (cA (i:=3) xX.nd rfl bF (aY iR (bT (vv 2) aJ bI) aJ))
  (bE (WE (aY oN (bT (vv 2) aJ bI) aJ) (Ln (vv 2) aJ))
  (bE (cA (i:=4) xX.nd rfl bF (WL (Xm false) rfl B.list PyProof.Rows.boot_list (aG (vv 2) aO)))
  (bE (cA (i:=5) xX.nd rfl bF (kS true aO))
  (bE (Lk (fun _ _=>1000000) bW.passes (fR sX (eE jP rfl B.len PySem.boot_len (aG (vv 5) aO)) (vv 1) (eI _))
   (bU (oF bW.passes rfl (OE rfl B.range (aG (eE jP rfl B.len PySem.boot_len (aG (vv 2) aO)) aO)) (fE (i:=6) xX.nd rfl bF)
    (bE (cA (i:=7) xX.nd rfl bF (eE jP rfl B.len PySem.boot_len (aG (vv 5) aO)))
    (bU (iO (VW.vt (rN (fR (nN hr.units) (bT (vv 2) (vv 6) bI) aJ (eI _)) (xN (fR (nN hr.units) (vv 3) aJ (eI _)))))
     (bU (pR (sU PySem.F.plainAttrs_list PySem.F.slot_list_append PySem.F.type_list_append vX wD (vv 5) (aG (fP bW tW hr.m rfl (aG (fP bW tW hr.m rfl (aG (aY iR (bT (vv 4) (vv 6) bI) aJ) (aG (aY (eG false) (vv 7) aJ) aO))) (aG (aY (eG false) (aY iR (aY oM (vv 7) (vv 7)) aJ) aJ) aO))) aO))))
     (bE (pR (sU PySem.F.plainAttrs_list PySem.F.slot_list_append PySem.F.type_list_append vX wD (vv 5) (aG (aY iR (bT (vv 2) (vv 6) bI) aJ) aO)))
     (bU (WE (aY amZ (bT (vv 2) (vv 6) bI) aJ) (Ln (vv 2) (vv 6)))))))))))
  (bU (eN (zW false (vv 5) DS (xP (vv 1))))))))))))
theorem PH:dJ ["row", "entries", "number", "stands"] ["row"] (aX YR):=fY
theorem auP(B:eU mg)(h:HasFn K mg "of_row" YR)(Kj:cZ P w K mg base "look_row" 1 ["row"] VJ)(Kg:cZ P w K mg base "places_of" 2 ["row"] NO):cZ P w K mg base "of_row" 3 ["row"] NP:=by
 refine cZ.of h PH (fun _ _ _ _ _ _ us hl=>rQ us hl (fun _=>rfl)) (fun _ _ _ _ _ _ _ hr=>?_);exact(bE (cA (i:=1) PH.nd rfl bF (kS true aO))
  (bE (oF bW.passes rfl (aa6 (fP bW Kg hr.m rfl (aG (vv 0) aO))) (vL rfl (lX (fE (i:=2) PH.nd rfl bF) (lX (fE (i:=3) PH.nd rfl bF) vK)))
   (bE (pR (sU PySem.F.plainAttrs_list PySem.F.slot_list_append PySem.F.type_list_append vX wD (vv 1) (aG (rP (aG (vv 2) (aG (bT (vv 3) aJ bI) (aG (bT (vv 3) aJ bI) aO)))) aO)))
   (bU (iO (fR (Ad hr.units) (bT (vv 3) aJ bI) (bT (vv 3) aJ bI) (eI _))
    (bU (pR (sU PySem.F.plainAttrs_list PySem.F.slot_list_append PySem.F.type_list_append vX wD (vv 1) (aG (rP (aG (vv 2) (aG (bT (vv 3) aJ bI) (aG (bT (vv 3) aJ bI) aO)))) aO))))
    jC))))
  (bU (eN (rP (aG (fP bW Kj hr.m rfl (aG (vv 0) aO)) (aG aJ (aG aJ (aG (vf 1) aO)))))))))
theorem YI:dJ ["pouch", "keep", "size", "slack"] ["pouch", "keep"] (aX YO):=fY
theorem auJ(B:eU mg)(h:HasFn K mg "thinned" YO)(Kk:Yz P w K mg base):Yx P w K mg base:=by
 refine cZ.of h YI (fun _ _ _ _ _ _ us hl=>pT us hl bI) (fun _ _ _ _ _ _ _ hr=>?_);exact(bE (cA (i:=2) YI.nd rfl bF (bT (vv 0) aJ bI))
  (bE (cA (i:=3) YI.nd rfl bF (aY (eG false) (bT (vv 0) aJ bI) (aY oN (vv 2) (vv 1))))
  (bU (eN (rP (aG (vv 2) (aG (vv 3) (aG (aY (eG false) (bT (vv 0) aJ bI) aJ) (aG (fP bW Kk hr.m rfl (aG (bT (vv 0) aJ bI) (aG (vv 3) aO))) aO)))))))))
theorem aiF:dJ ["pouch", "number"] ["pouch", "number"] (aX xY):=fY
theorem auI(B:eU mg)(h:HasFn K mg "upto" xY)(HL:Ik P w K mg base)(Ea:HasFn K mg "first_where" EL)(UD:Iq K mg base "upto"):cZ P w K mg base "upto" 3 ["pouch", "number"] NN:=by
 refine cZ.ofT h UD aiF (fun _ _ _ _ _ _ us hl=>pT us hl bI) (fun c Pt tb th f A outer s H E hr=>?_);exact(bU (eN (fP bW HL hr.m rfl (aG (vv 0) (aG (abC (k:=0) (js:=[1]) (cs:=["number"]) (y := "entry") (fb:=GN) (bfw:=MJ) (kf:=1) tb th UD.blt rfl rfl rfl (VD.of (aX xY) ["pouch", "number"] rfl rfl (by decide +kernel)) Ea rfl EJ (fun _ _ _ _ _ _ us hl=>pT us hl bI) (fun S0=>awI B S0 (fun _ _ _ _ _=>rfl) (fun f cd cl A outer s H hr=>(sT JC (bT (vv 0) aJ bI) (vv 1) (eI _)))) (fun lf ns a Ω r h=>M.as7 lf _ a Ω r h) hr.m rfl (bT (vv 0) aJ bI)) aO)))))
theorem aiH:dJ ["numbers"] ["numbers"] (aX PN):=fY
theorem auM(B:eU mg)(h:HasFn K mg "pouch_of" PN)(Kh:cZ P w K mg base "of_row" 3 ["row"] NP):Im P w K mg base:=by
 refine cZ.of h aiH (fun _ _ _ _ _ _ us hl=>rQ us hl (fun _=>rfl)) (fun _ _ _ _ _ _ _ hr=>?_);exact(bU (eN (fP bW Kh hr.m rfl (aG (sS false ["number"] [] rfl (sA (aX PN) ["numbers"]) (lW (vv 0)) (fun cl C s H fp=>⟨(fE (i:=0) (show(["number"]:List Str).Nodup by decide +kernel) rfl bF),vJ,(rP (aG (vv 0) (aG aJ aO)))⟩)) aO))))
theorem aiL:dJ ["self", "number"] ["self", "number"] (aX ZH):=fY
theorem avB(B:eU mg)(HJ:Im P w K mg base)(Kf:Yx P w K mg base)(oA:eM K ["Window"] "block")(lI:eM K ["Window"] "full")(vD:eM K ["Window"] "keep")(qH:eM K ["Window"] "many")(kR:eM K ["Window"] "newest")(Jg:fL P w K mg base "Window" "drop_oldest" 1 1 [] NT){cls:Str}(h:zO K mg cls "put" "Window.put" ZH):fL P w K mg base cls "put" 5 2 [] uY:=by
 refine fL.of h aiL (fun _ _ _ _ _ _ us hl=>pT us hl bI) (fun _ _ _ _ _ _ _ hr=>?_);exact(bE (xO (vv 0) (aY (eG false) (kT (vv 0) qH) aJ) qH)
  (bE (pR (abE (sU PySem.F.plainAttrs_list PySem.F.slot_list_append PySem.F.type_list_append vX wD (kT (vv 0) kR) (aG (vv 1) aO)) (ajK 1)))
  (bE (iO (fR (nN hr.units) (OH (eE jP rfl B.len PySem.boot_len (aG (kT (vv 0) kR) aO))) (kT (vv 0) oA) (eI _))
   (bE (OD (i:=0) (f := "full") (OD (i:=0) (f := "newest") (pR (sU PySem.F.plainAttrs_list PySem.F.slot_list_append PySem.F.type_list_append vX wD (kT (vv 0) lI) (aG (fP bW Kf hr.m rfl (aG (fP bW HJ hr.m rfl (aG (kT (vv 0) kR) aO)) (aG (kT (vv 0) vD) aO))) aO)))))
   (bU (WD (xO (vv 0) (kS true aO) kR))))
   jC)
  (bU (pR (OG bW (eB.cons Jg hr.m eB.nil) (vv 0)))))))
theorem YL:dJ ["self", "last", "newest", "blocks"] ["self", "last"] (aX ZI):=fY
theorem avC(B:eU mg)(HJ:Im P w K mg base)(oA:eM K ["Window"] "block")(lI:eM K ["Window"] "full")(kR:eM K ["Window"] "newest"){cls:Str}(h:zO K mg cls "parts" "Window.parts" ZI):fL P w K mg base cls "parts" 5 2 [] uZ:=by
 refine fL.of h YL (fun _ _ _ _ _ _ us hl=>pT us hl bI) (fun _ _ _ _ _ _ _ hr=>?_);exact(bE (OD (i:=0) (f := "newest") (cA (i:=2) YL.nd rfl bF (zW false (kT (vv 0) kR) (xP (Lo (vv 1))) DS)))
  (bE (cA (i:=3) YL.nd rfl bF (aY oN (aY lN (aY (eG false) (aY lN (vv 1) (eE jP rfl B.len PySem.boot_len (aG (vv 2) aO))) (kT (vv 0) oA)) aJ) (kT (vv 0) oA)))
  (bU (eN (Lp (i:=0) (f := "full") (aY (eG false) (zW false (kT (vv 0) lI) (xP (aY lN (eE jP rfl B.len PySem.boot_len (aG (kT (vv 0) lI) aO)) (vv 3))) DS) (kS false (aG (fP bW HJ hr.m rfl (aG (vv 2) aO)) aO))))))))
theorem IK:dJ ["self", "number", "last", "parts", "bounds"] ["self", "number", "last"] (aX xZ):=fY
theorem Xu(B:eU mg)(jX:uR P w K mg base)(zR:UA P w K mg base)(zQ:Il P w K mg base)(jW:wX P w K mg base)(jV:wW P w K mg base)(f:Addr)(aU:Value)(A:Around)(outer:List Env)(s:Shared)(H:Hp)(E:XK)(hr:cH 5 (A.deeper (envOfC "Window.upto" (aX xZ) s.heap.objs.size f aU))) :
  jG (nE P w K mg base ["self", "number", "last", "parts", "bounds"] "Window.upto" (aX xZ) f aU A outer s H E) (fun _=>E) (dX xZ) ML:=by
 exact(bE (cA (i:=2) IK.nd rfl bF (pC bW (eB.cons jW hr.m eB.nil) (vv 0) (aG (vv 2) aO)))
  (bE (cA (i:=3) IK.nd rfl bF (pC bW (eB.cons jV hr.m eB.nil) (vv 0) (aG (vv 2) aO)))
  (bE (cA (i:=4) IK.nd rfl bF (fP bW zR hr.m rfl (aG (sS false ["part"] [1] rfl (sA (aX xZ) ["self", "number", "last", "parts", "bounds"]) (lW (vv 3)) (fun cl C s H fp=>⟨(fE (i:=0) (show(["part", "number"]:List Str).Nodup by decide +kernel) rfl bF),vJ,(abH (ps:=["pouch", "number"]) zQ.calm (by exact hr.mono (by first | decide | omega)) (by exact rfl) (aG (vv 0) (aG (vv 1) aO)))⟩)) aO)))
  (bU (eN (rP (aG (eE (Hb rfl) rfl B.max boot_max (aG aJ (aG (aY lN (bT (vv 4) aJ bI) (fP bW jX hr.m rfl (aG (vv 3) (aG (vv 2) aO)))) aO))) (aG (eE (MF rfl) rfl B.min boot_min (aG (vv 2) (aG (bT (vv 4) aJ bI) aO))) aO))))))))
theorem au9(B:eU mg)(jX:uR P w K mg base)(zR:UA P w K mg base)(zQ:Il P w K mg base)(jW:wX P w K mg base)(jV:wW P w K mg base){cls:Str}(h:zN K mg cls "upto" "Window.upto" xZ #[.none]):fL P w K mg base cls "upto" 6 3 [] uX:=fL.ofD (ds:=[]) (dvs:=[]) h .nil (fun _ _ => .nil) IK (fun _ _ _ _ _ _ _ us hl=>match us,hl with | [_,_,_],_=>⟨_,rfl,rfl⟩) (Xu B jX zR zQ jW jV)
theorem at9(B:eU mg)(jX:uR P w K mg base)(zR:UA P w K mg base)(zQ:Il P w K mg base)(jW:wX P w K mg base)(jV:wW P w K mg base){cls:Str}(h:zN K mg cls "upto" "Window.upto" xZ #[.none]):fL P w K mg base cls "upto" 6 3 [.bR] uX:=fL.ofD (ds:=[.none]) (dvs:=[.bR]) h (.cons rfl .nil) (fun _ _ => .cons (by simp only [V2.Den]) .nil) IK (fun _ _ _ _ _ _ _ us hl=>match us,hl with | [_,_],_=>⟨_,rfl,rfl⟩) (Xu B jX zR zQ jW jV)
theorem EK:dJ ["self", "place", "last", "parts", "runs", "part"] ["self", "place", "last"] (aX AG):=fY
theorem Xv(B:eU mg)(jX:uR P w K mg base)(zT:UB P w K mg base)(zS:TX P w K mg base)(jW:wX P w K mg base)(jV:wW P w K mg base)(pP:zE K mg "NoPlace")(f:Addr)(aU:Value)(A:Around)(outer:List Env)(s:Shared)(H:Hp)(E:XK)(hr:cH 5 (A.deeper (envOfC "Window.so_manieth" (aX AG) s.heap.objs.size f aU))) :
  jG (nE P w K mg base ["self", "place", "last", "parts", "runs", "part"] "Window.so_manieth" (aX AG) f aU A outer s H E) (fun _=>E) (dX AG) MM:=by
 exact(bE (cA (i:=2) EK.nd rfl bF (pC bW (eB.cons jW hr.m eB.nil) (vv 0) (aG (vv 2) aO)))
  (bE (iO (VW.vt (rN (fR sX (vv 1) aJ (eI _)) (xN (fR JC (vv 1) (vv 2) (eI _)))))
   (bU (OC bW rfl pP rfl (aG OF aO)))
   jC)
  (bE (cA (i:=3) EK.nd rfl bF (pC bW (eB.cons jV hr.m eB.nil) (vv 0) (aG (vv 2) aO)))
  (bE (cA (i:=4) EK.nd rfl bF (kS true aO))
  (bE (oF bW.passes rfl (lW (vv 3)) (fE (i:=5) EK.nd rfl bF)
   (bU (pR (sU PySem.F.plainAttrs_list PySem.F.slot_list_extend PySem.F.type_list_extend anU an8 (vv 4) (aG (fP bW zT hr.m rfl (aG (vv 5) aO)) aO)))))
  (aaZ 4 (bU (eN (fP bW zS hr.m rfl (aG (vv 4) (aG (aY (eG false) (vv 1) (aY oN (fP bW jX hr.m rfl (aG (vv 3) (aG (vv 2) aO))) aJ)) aO)))))))))))
theorem avA(B:eU mg)(jX:uR P w K mg base)(zT:UB P w K mg base)(zS:TX P w K mg base)(jW:wX P w K mg base)(jV:wW P w K mg base)(pP:zE K mg "NoPlace"){cls:Str}(h:zN K mg cls "so_manieth" "Window.so_manieth" AG #[.none]):fL P w K mg base cls "so_manieth" 6 3 [] xH:=fL.ofD (ds:=[]) (dvs:=[]) h .nil (fun _ _ => .nil) EK (fun _ _ _ _ _ _ _ us hl=>match us,hl with | [_,_,_],_=>⟨_,rfl,rfl⟩) (Xv B jX zT zS jW jV pP)
theorem auA(B:eU mg)(jX:uR P w K mg base)(zT:UB P w K mg base)(zS:TX P w K mg base)(jW:wX P w K mg base)(jV:wW P w K mg base)(pP:zE K mg "NoPlace"){cls:Str}(h:zN K mg cls "so_manieth" "Window.so_manieth" AG #[.none]):fL P w K mg base cls "so_manieth" 6 3 [.bR] xH:=fL.ofD (ds:=[.none]) (dvs:=[.bR]) h (.cons rfl .nil) (fun _ _ => .cons (by simp only [V2.Den]) .nil) EK (fun _ _ _ _ _ _ _ us hl=>match us,hl with | [_,_],_=>⟨_,rfl,rfl⟩) (Xv B jX zT zS jW jV pP)
theorem PM:dJ ["self", "last", "parts"] ["self", "last"] (aX yA):=fY
theorem Xw(B:eU mg)(jX:uR P w K mg base)(jW:wX P w K mg base)(jV:wW P w K mg base)(f:Addr)(aU:Value)(A:Around)(outer:List Env)(s:Shared)(H:Hp)(E:XK)(hr:cH 5 (A.deeper (envOfC "Window.off" (aX yA) s.heap.objs.size f aU))) :
  jG (nE P w K mg base ["self", "last", "parts"] "Window.off" (aX yA) f aU A outer s H E) (fun _=>E) (dX yA) MN:=by
 exact(bE (cA (i:=1) PM.nd rfl bF (pC bW (eB.cons jW hr.m eB.nil) (vv 0) (aG (vv 1) aO)))
  (bE (cA (i:=2) PM.nd rfl bF (pC bW (eB.cons jV hr.m eB.nil) (vv 0) (aG (vv 1) aO)))
  (bU (eN (aY (eG false) (fP bW jX hr.m rfl (aG (vv 2) (aG (vv 1) aO))) (eE (GJ rfl) rfl B.sum boot_sum (aG (sS false ["part"] [] rfl (sA (aX yA) ["self", "last", "parts"]) (lW (vv 2)) (fun cl C s H fp=>⟨(fE (i:=0) (show(["part"]:List Str).Nodup by decide +kernel) rfl bF),vJ,(bT (vv 0) aJ bI)⟩)) aO)))))))
theorem avD(B:eU mg)(jX:uR P w K mg base)(jW:wX P w K mg base)(jV:wW P w K mg base){cls:Str}(h:zN K mg cls "off" "Window.off" yA #[.none]):fL P w K mg base cls "off" 6 2 [] DH:=fL.ofD (ds:=[]) (dvs:=[]) h .nil (fun _ _ => .nil) PM (fun _ _ _ _ _ _ _ us hl=>match us,hl with | [_,_],_=>⟨_,rfl,rfl⟩) (Xw B jX jW jV)
theorem auB(B:eU mg)(jX:uR P w K mg base)(jW:wX P w K mg base)(jV:wW P w K mg base){cls:Str}(h:zN K mg cls "off" "Window.off" yA #[.none]):fL P w K mg base cls "off" 6 2 [.bR] DH:=fL.ofD (ds:=[.none]) (dvs:=[.bR]) h (.cons rfl .nil) (fun _ _ => .cons (by simp only [V2.Den]) .nil) PM (fun _ _ _ _ _ _ _ us hl=>match us,hl with | [_],_=>⟨_,rfl,rfl⟩) (Xw B jX jW jV)
theorem YJ:dJ ["_law_window", "_law_lasts", "_law_number_here", "_law_last", "_law_off", "_law_found", "_law_due"] ["_law_window", "_law_lasts", "_law_number_here", "_law_last", "_law_off"] (aX PU):=fY
theorem au1(B:eU mg)(h:HasFn K mg "_law_upto_holds" PU)(vB:TY P w K mg base)(CZ:Yw P w K mg base):Yv P w K mg base:=by
 refine cZ.of h YJ (fun _ _ _ _ _ _ us hl=>WZ us hl (fun _ _ _ _ _=>rfl)) (fun _ _ _ _ _ _ _ hr=>?_);exact(bE (cA (i:=5) YJ.nd rfl bF (pC bW (eB.cons CZ hr.m eB.nil) (vv 0) (aG (vv 2) (aG (vv 3) aO))))
  (bE (iO (VW.vt (rN (rO (sQ (eE Hc rfl B.isinstance boot_isinstance (aG (vv 5) (aG (WH rfl B.tuple PyProof.Rows.boot_tuple) aO))))) (rN (fR (Ad hr.units) (eE jP rfl B.len PySem.boot_len (aG (vv 5) aO)) aJ (eI _)) (rN (rO (sQ (fP bW vB hr.m rfl (aG (bT (vv 5) aJ bI) aO)))) (xN (rO (sQ (fP bW vB hr.m rfl (aG (bT (vv 5) aJ bI) aO)))))))))
   (bU (eN xQ))
   jC)
  (bE (cA (i:=6) YJ.nd rfl bF (eE jP rfl B.len PySem.boot_len (aG (sS false ["_law_value"] [2] rfl (sA (aX PU) ["_law_window", "_law_lasts", "_law_number_here", "_law_last", "_law_off", "_law_found", "_law_due"]) (lW (vv 1)) (fun cl C s H fp=>⟨(fE (i:=0) (show(["_law_value", "_law_number_here"]:List Str).Nodup by decide +kernel) rfl bF),(WG (fR qS (vv 0) (vv 1) (eI _))),(vv 0)⟩)) aO)))
  (bU (eN (OI (abI qS qS qS qS aJ (bT (vv 5) aJ bI) (vv 6) (bT (vv 5) aJ bI) (eE jP rfl B.len PySem.boot_len (aG (vv 1) aO))) (HV (sT qS (aY lN (bT (vv 5) aJ bI) (bT (vv 5) aJ bI)) (vv 4) (eI _)))))))))
theorem YK:dJ ["_law_window", "_law_row", "_law_lasts", "_law_place", "_law_last", "_law_off", "_law_found", "_law_under"] ["_law_window", "_law_row", "_law_lasts", "_law_place", "_law_last", "_law_off"] (aX IM):=fY
theorem au3(B:eU mg)(h:HasFn K mg "_law_place_holds" IM)(vB:TY P w K mg base)(UI:fL P w K mg base "Window" "so_manieth" 6 3 [] xH):Yu P w K mg base:=by
 refine cZ.of h YK (fun _ _ _ _ _ _ us hl=>us6 us hl (fun _ _ _ _ _ _=>rfl)) (fun _ _ _ _ _ _ _ hr=>?_);exact(bE (cA (i:=6) YK.nd rfl (Or.inr rfl) (pC bW (eB.cons UI hr.m eB.nil) (vv 0) (aG (vv 3) (aG (vv 4) aO))))
  (bE (iO (VW.vt (rN (rO (sQ (fP bW vB hr.m rfl (aG (vv 6) aO)))) (rN (fR (amX hr.units) (vv 6) (vv 1) rfl) (xN (fR (Ad hr.units) (pC bW (eB.cons UI hr.m eB.nil) (vv 0) (aG (vv 3) (aG (vv 4) aO))) (vv 6) (eI _))))))
   (bU (eN xQ))
   jC)
  (bE (cA (i:=7) YK.nd rfl bF (eE jP rfl B.len PySem.boot_len (aG (sS false ["_law_value"] [6] rfl (sA (aX IM) ["_law_window", "_law_row", "_law_lasts", "_law_place", "_law_last", "_law_off", "_law_found", "_law_under"]) (lW (vv 2)) (fun cl C s H fp=>⟨(fE (i:=0) (show(["_law_value", "_law_found"]:List Str).Nodup by decide +kernel) rfl bF),(WG (fR sX (vv 0) (vv 1) (eI _))),(vv 0)⟩)) aO)))
  (bU (eN (OI (sT sX (vv 7) (aY (eG false) (vv 3) (vv 5)) (eI _)) (HV (sT Qk (eE jP rfl B.len PySem.boot_len (aG (sS false ["_law_value"] [6] rfl (sA (aX IM) ["_law_window", "_law_row", "_law_lasts", "_law_place", "_law_last", "_law_off", "_law_found", "_law_under"]) (lW (vv 2)) (fun cl C s H fp=>⟨(fE (i:=0) (show(["_law_value", "_law_found"]:List Str).Nodup by decide +kernel) rfl bF),(WG (fR qS (vv 0) (vv 1) (eI _))),(vv 0)⟩)) aO)) (aY lN (vv 3) (vv 5)) (eI _)))))))))
theorem rT:dJ ["_law_window", "_law_sizes_here", "_law_row", "_law_last", "_law_cell", "_law_length", "_law_block", "_law_keep", "_law_many", "_law_lasts", "_law_off", "_law_k", "_law_number_here", "_law_place"] ["_law_window", "_law_sizes_here", "_law_row", "_law_last", "_law_cell"] (aX ZE):=fY
theorem au6(B:eU mg)(h:HasFn K mg "_law_last_holds" ZE)(tW:TZ P w K mg base)(Km:Yu P w K mg base)(Kl:Yv P w K mg base)(vB:TY P w K mg base)(UK:fL P w K mg base "Window" "off" 6 2 [] DH):Yt P w K mg base:=by
 refine cZ.of h rT (fun _ _ _ _ _ _ us hl=>WZ us hl (fun _ _ _ _ _=>rfl)) (fun _ _ _ _ _ _ _ hr=>?_);exact(bE (WE (vv 1) (vL rfl (lX (fE (i:=5) rT.nd rfl bF) (lX (fE (i:=6) rT.nd rfl bF) (lX (fE (i:=7) rT.nd rfl bF) vK)))))
  (bE (cA (i:=8) rT.nd rfl bF (eE (MF rfl) rfl B.min boot_min (aG (vv 5) (aG (eE jP rfl B.len PySem.boot_len (aG (vv 2) aO)) aO))))
  (bE (iO (fR amW (vv 3) WJ (eI _))
   (bU (cA (i:=8) rT.nd rfl bF (vv 3)))
   jC)
  (bE (cA (i:=9) rT.nd rfl bF (zW false (vv 2) (xP (aY lN (eE jP rfl B.len PySem.boot_len (aG (vv 2) aO)) (vv 8))) DS))
  (bE (cA (i:=10) rT.nd rfl bF (pC bW (eB.cons UK hr.m eB.nil) (vv 0) (aG (vv 3) aO)))
  (bE (iO (VW.vt (rN (rO (sQ (fP bW vB hr.m rfl (aG (vv 10) aO)))) (xN (rO (Lj qS qS aJ (vv 10) (aY (eG false) (aY lN (vv 6) aJ) (aY oM (aY (eG false) (aY oN (vv 8) (vv 6)) aJ) (aY oN (vv 6) (vv 7)))))))))
   (bU (eN xQ))
   jC)
  (bE (oF bW.passes rfl (OE rfl B.range (aG aJ aO)) (fE (i:=11) rT.nd rfl bF)
   (bE (cA (i:=12) rT.nd rfl bF (bT (vv 2) (aY iR (fP bW tW hr.m rfl (aG (vv 4) (aG (vv 11) aO))) (eE jP rfl B.len PySem.boot_len (aG (vv 2) aO))) bI))
   (bE (cA (i:=12) rT.nd rfl bF (aY (eG false) (vv 12) (aY oM (bT (kS false (aG aJ (aG aJ (aG (aY lN aJ aJ) aO)))) (vv 11) bI) (WL awD rfl B.int PyProof.Rows.boot_int (aG (sT sX (eE awE rfl B.abs PyProof.Rows.boot_abs (aG (vv 12) aO)) (aY JB aJ aJ) (eI _)) aO)))))
   (bU (iO (rO (sQ (fP bW Kl hr.m rfl (aG (vv 0) (aG (vv 9) (aG (vv 12) (aG (vv 3) (aG (vv 10) aO))))))))
    (bU (eN xQ))
    jC)))))
  (bE (oF bW.passes rfl (lW (kS false (aG (bT (kS false (aG aJ (aG (vv 8) aO))) (aY iR (vv 4) aJ) bI) (aG (aY (eG false) aJ (aY iR (vv 4) (vv 8))) aO)))) (fE (i:=13) rT.nd rfl bF)
   (bU (iO (rO (sQ (fP bW Km hr.m rfl (aG (vv 0) (aG (vv 2) (aG (vv 9) (aG (vv 13) (aG (vv 3) (aG (vv 10) aO)))))))))
    (bU (eN xQ))
    jC)))
  (bU (eN (sT (nN hr.units) (pC bW (eB.cons UK hr.m eB.nil) (vv 0) (aG (vv 3) aO)) (vv 10) (eI _))))))))))))
theorem xW:dJ ["_law_windows", "_law_sizes_here", "_law_row", "_law_cell", "_law_window", "_law_size", "_law_most", "_law_last", "_law_both", "_law_one", "_law_other"] ["_law_windows", "_law_sizes_here", "_law_row", "_law_cell"] (aX ZF):=fY
theorem au7(B:eU mg)(h:HasFn K mg "_law_holds" ZF)(Ko:Yt P w K mg base)(tW:TZ P w K mg base)(ND:fL P w K mg base "Window" "held" 1 1 [] nX)(CZ:Yw P w K mg base):Ys P w K mg base:=by
 refine cZ.of h xW (fun _ _ _ _ _ _ us hl=>OJ us hl (fun _ _ _ _=>rfl)) (fun _ _ _ _ _ _ _ hr=>?_);exact(bE (iO (fR (nN hr.units) (vv 2) (kS false aO) (eI _))
   (bU (eN (OI (sT (nN hr.units) (OG bW (eB.cons ND hr.m eB.nil) (bT (vv 0) aJ bI)) aJ (eI _)) (HV (sT (nN hr.units) (OG bW (eB.cons ND hr.m eB.nil) (bT (vv 0) aJ bI)) aJ (eI _))))))
   jC)
  (bE (oF bW.passes rfl (aa4 rfl B.zip (vv 0) (vv 1)) (vL rfl (lX (fE (i:=4) xW.nd rfl bF) (lX (fE (i:=5) xW.nd rfl bF) vK)))
   (bE (cA (i:=6) xW.nd rfl bF (eE (MF rfl) rfl B.min boot_min (aG (bT (vv 5) aJ bI) (aG (eE jP rfl B.len PySem.boot_len (aG (vv 2) aO)) aO))))
   (bE (iO (rO (Lj sX qS aJ (OG bW (eB.cons ND hr.m eB.nil) (vv 4)) (aY (eG false) (aY oM (aY oM (aY (eG false) (aY oN (bT (vv 5) aJ bI) (bT (vv 5) aJ bI)) aJ) aJ) (bT (vv 5) aJ bI)) (bT (vv 5) aJ bI))))
    (bU (eN xQ))
    jC)
   (bU (oF bW.passes rfl (lW (kS false (aG WJ (aG (bT (kS false (aG aJ (aG (vv 6) aO))) (aY iR (aY oN (vv 3) aJ) aJ) bI) (aG (aY (eG false) aJ (aY iR (vv 3) (vv 6))) (aG (aY (eG false) aJ (aY iR (fP bW tW hr.m rfl (aG (vv 3) (aG aJ aO))) (vv 6))) aO)))))) (fE (i:=7) xW.nd rfl bF)
    (bU (iO (rO (sQ (fP bW Ko hr.m rfl (aG (vv 4) (aG (vv 5) (aG (vv 2) (aG (vv 7) (aG (fP bW tW hr.m rfl (aG (vv 3) (aG aJ aO))) aO))))))))
     (bU (eN xQ))
     jC)))))))
  (bE (cA (i:=8) xW.nd rfl bF (eE (awC rfl) rfl B.min boot_min (aG (bT (bT (vv 1) aJ bI) aJ bI) (aG (bT (bT (vv 1) aJ bI) aJ bI) (aG (eE jP rfl B.len PySem.boot_len (aG (vv 2) aO)) aO)))))
  (bE (cA (i:=9) xW.nd rfl bF (pC bW (eB.cons CZ hr.m eB.nil) (bT (vv 0) aJ bI) (aG (bT (vv 2) (aY iR (vv 3) (eE jP rfl B.len PySem.boot_len (aG (vv 2) aO))) bI) (aG (vv 8) aO))))
  (bE (cA (i:=10) xW.nd rfl bF (pC bW (eB.cons CZ hr.m eB.nil) (bT (vv 0) aJ bI) (aG (bT (vv 2) (aY iR (vv 3) (eE jP rfl B.len PySem.boot_len (aG (vv 2) aO))) bI) (aG (vv 8) aO))))
  (bU (eN (sT qS (eE (Hb rfl) rfl B.max boot_max (aG (bT (vv 9) aJ bI) (aG (bT (vv 10) aJ bI) aO))) (eE (MF rfl) rfl B.min boot_min (aG (bT (vv 9) aJ bI) (aG (bT (vv 10) aJ bI) aO))) (eI _)))))))))
theorem vP:dJ ["_law_script", "_law_draws_here", "_law_sizes_here", "_law_windows", "_law_row", "_law_k", "_law_some", "_law_number_here", "_law_j"] ["_law_script"] (aX tZ):=fY
theorem auU{f:Addr}{fd:FuncData}(B:eU mg)(F:qF K "law" "law" tZ f fd)(Kp:Yy P w K mg base)(VN:Ys P w K mg base)(Kn:Yr P w K mg base)(VM:Yq P w K mg base)(Jp:GY P w K mg base "Window" 1 4 DI)(UJ:fL P w K mg base "Window" "put" 5 2 [] uY):iG P w K mg base (pB P w) 10 f fd ["_law_script"] (qP K 1 aaB):=by
 refine Vm F vP (fun _ _ _ _ _ _ _ hr=>?_);exact(bE (cA (i:=1) vP.nd rfl bF (fP bW Kp hr.m rfl (aG (vv 0) (aG aJ aO))))
  (bE (cA (i:=2) vP.nd rfl bF (kS false (aG (fP bW VM hr.m rfl (aG (bT (vv 1) aJ bI) aO)) (aG (fP bW VM hr.m rfl (aG (bT (vv 1) aJ bI) aO)) aO))))
  (bE (aa0 (i:=3) false ["_law_one"] [] vP.nd rfl bF rfl (sA (aX tZ) ["_law_script", "_law_draws_here", "_law_sizes_here", "_law_windows", "_law_row", "_law_k", "_law_some", "_law_number_here", "_law_j"]) (lW (vv 2)) (fun cl C s H fp=>⟨(fE (i:=0) (show(["_law_one"]:List Str).Nodup by decide +kernel) rfl bF),vJ,(aa9 Jp hr.m rfl (aG (bT (vv 0) aJ bI) (aG (bT (vv 0) aJ bI) (aG (bT (vv 0) aJ bI) aO))))⟩))
  (bE (cA (i:=4) vP.nd rfl bF (kS true aO))
  (bE (oF bW.passes rfl (OE rfl B.range (aG (aY iR (bT (vv 1) aJ bI) aJ) aO)) (fE (i:=5) vP.nd rfl bF)
   (bE (cA (i:=6) vP.nd rfl bF (zW false (vv 1) (xP (aY (eG false) aJ (aY oM aJ (vv 5)))) (xP (aY (eG false) aJ (aY oM aJ (vv 5))))))
   (bE (cA (i:=7) vP.nd rfl bF (fP bW Kn hr.m rfl (aG (zW false (vv 6) DS (xP aJ)) (aG (aY iR (bT (vv 1) aJ bI) aJ) aO))))
   (bE (oF bW.passes rfl (OE rfl B.range (aG (bT (kS false (aG aJ (aG aJ (aG aJ (aG aJ (aG aJ (aG aJ aO))))))) (aY iR (bT (vv 6) aJ bI) aJ) bI) aO)) (fE (i:=8) vP.nd rfl bF)
    (bE (pR (sU PySem.F.plainAttrs_list PySem.F.slot_list_append PySem.F.type_list_append vX wD (vv 4) (aG (vv 7) aO)))
    (bE (pR (pC bW (eB.cons UJ hr.m eB.nil) (bT (vv 3) aJ bI) (aG (vv 7) aO)))
    (bU (pR (pC bW (eB.cons UJ hr.m eB.nil) (bT (vv 3) aJ bI) (aG (vv 7) aO)))))))
   (bU (iO (VW.vt (aaY (fR (nN hr.units) (vv 5) (aY iR (bT (vv 1) aJ bI) aJ) (eI _)) (aaX (rO (sQ (fP bW VN hr.m rfl (aG (vv 3) (aG (vv 2) (aG (vv 4) (aG (bT (vv 1) aJ bI) aO))))))))))
    (bU (eN xQ))
    jC))))))
  (bU (eN (fP bW VN hr.m rfl (aG (vv 3) (aG (vv 2) (aG (vv 4) (aG (bT (vv 1) aJ bI) aO))))))))))))
end
theorem all_mk{l:OpenLaw}{w:World}{K:Frag}{h:Heap}{mg:Str→Option Value}{fa fl:Addr}{od an:Option Addr}{sl:Array (Option Value)}{oc kV dc pm cd ct:Value}(X:K.In h)(G:h.Ns mainGlobals mg)(hfa:mg "law" = some (.ref fa))
  (al:nsIn K mainGlobals "law" = some (some (.ref fl))) (ll:K.lookup fl=some ⟨oc,od,.func (fnOf "law" "law" (iV tZ) (dX tZ) (aX tZ) .none kV dc pm an cd ct),sl⟩) (lc:codeIn K cd "law" = true) (lk:keepIn K (.ref fl)=true)
  {RN OQ EB:Addr} {amR amQ awX:Option Addr} {ahX ahT:Array (Option Value)} {WC:Array Value} {amT ao5 auH akD avJ:Value} (Ih:nsIn K mainGlobals "upto" = some (some (.ref RN))) (Rm:K.lookup RN=some ⟨amT,amQ,.func (fnOf "upto" "upto" (iV xY) (dX xY) (aX xY) .none ao5 auH akD awX (.ref OQ) avJ),ahT⟩) (avN:codeIn K (.ref OQ) "upto" = true) (aoV:keepIn K (.ref RN)=true)
  (B:eU mg)
  (ar4:HasFn K mg "near_enough" YT)
  (ar6:HasFn K mg "look_row" YV)
  (ar3:HasFn K mg "number_at" YS)
  (ar1:HasFn K mg "packed" PQ)
  (ar0:HasFn K mg "places_of" YQ)
  (ar2:HasFn K mg "of_row" YR)
  (ar8:HasFn K mg "bounds_ahead" YX)
  (arX:HasFn K mg "thinned" YO)
  (ar7:HasFn K mg "kept_entries" YW)
  (arY:HasFn K mg "summed" IL)
  (Ea:HasFn K mg "first_where" EL)
  (arZ:HasFn K mg "pouch_of" PN)
  (ar9:HasFn K mg "beyond" PR)
  (ar5:HasFn K mg "midway" YU)
  (asF:HasFn K mg "_law_mix" ZD)
  (asI:HasFn K mg "_law_draws" ZG)
  (asE:HasFn K mg "_law_number" ZC)
  (asA:HasFn K mg "_law_whole" YY)
  (asC:HasFn K mg "_law_sizes" YZ)
  (asB:HasFn K mg "_law_upto_holds" PU)
  (asD:HasFn K mg "_law_place_holds" IM)
  (asG:HasFn K mg "_law_last_holds" ZE)
  (asH:HasFn K mg "_law_holds" ZF)
  (Eb:∃t,mg "LONGEST" = some (.int 1000000000 t))
  (pP:zE K mg "NoPlace")
  {nV:Addr} (mX:nsIn K mainGlobals "Window" = some (some (.ref nV))) (nW:nY K nV)
  (anP:findIn K (.ref nV) "block" = some none)
  (anO:findIn K (.ref nV) "full" = some none)
  (anN:findIn K (.ref nV) "keep" = some none)
  (anM:findIn K (.ref nV) "many" = some none)
  (anL:findIn K (.ref nV) "newest" = some none)
  (anK:findIn K (.ref nV) "reach" = some none)
  (ajE:VB K nV "Window.__init__" AH)
  (ai9:zG K nV "put" "Window.put" ZH)
  (ajD:zG K nV "drop_oldest" "Window.drop_oldest" ZK)
  (Oy:GW K nV "upto" "Window.upto" xZ #[.none])
  (Oz:GW K nV "so_manieth" "Window.so_manieth" AG #[.none])
  (Pa:GW K nV "off" "Window.off" yA #[.none])
  (ajC:zG K nV "held" "Window.held" PV)
  (ajB:zG K nV "look_last" "Window.look_last" ZJ)
  (ajA:zG K nV "parts" "Window.parts" ZI)
  (awZ:nsIn K mainGlobals "upto_asks" = some (some (.ref RN)))
  {ts:List Addr}
  (aoL:K.lookup OQ=some ⟨.type "code",amR,.fields WC,ahX⟩)
  (hv_upto:WC[11]? = some (.ref EB)) (hh_upto:Ub WC OQ EB=true)
  (hsub:EB∈ts) (hnd:[EB].Nodup) (hall:∀P∈ts,P=EB)
  : ∃fd:FuncData,(∀(s:Shared) (v:Value),BindsTo s fd ⟨[v],[]⟩ [("_law_script",v)])∧(∀P∈ts,∃c,codeHdIn K c P=true)∧∀base:Heap,K.In base→base.Ns mainGlobals mg→vC base mg→iG l.prog w K mg base nZ 10 fa fd ["_law_script"] (OY K ts):=by
 have e:=hfa.symm.trans (mg_of X G al);cases e;have oA:eM K ["Window"] "block":=GG mX nW anP (GD);have lI:eM K ["Window"] "full":=GG mX nW anO (GD);have vD:eM K ["Window"] "keep":=GG mX nW anN (GD);have qH:eM K ["Window"] "many":=GG mX nW anM (GD);have kR:eM K ["Window"] "newest":=GG mX nW anL (GD);have rK:eM K ["Window"] "reach":=GG mX nW anK (GD);have FL:=RM (st:=tZ) ll lc lk;have arW:HasFn K mg "upto" xY:=jU X G Ih Rm avN aoV;obtain⟨Mq,Mp⟩:=acJ (st:=xY) Ih Rm aoL hv_upto hh_upto;refine⟨fnOf "law" "law" (iV tZ) (dX tZ) (aX tZ) .none kV dc pm an cd ct,fun s v => .of_eq rfl,?_,fun base KB GB BB=>?_⟩
 ·intro P hP
  rcases hall P hP with e
  ·rw [e];exact⟨_,Mp⟩
 have UD:Iq K mg base "upto":=⟨KB,GB,BB,_,_,Mq,Mp⟩;have Ki:=@auR l.prog w K mg base B ar4;have Kj:=@auT l.prog w K mg base B ar6 Eb;have HK:=@auO l.prog w K mg base B ar1;have HL:=@auY l.prog w K mg base B ar8;have zR:=@auK l.prog w K mg base B arY;have jX:=@auZ l.prog w K mg base B ar9;have tW:=@au5 l.prog w K mg base B asF;have Kn:=@au4 l.prog w K mg base B asE;have vB:=@au0 l.prog w K mg base B asA;have VM:=@au2 l.prog w K mg base B asC;have Jp:=@auE l.prog w K mg base B oA lI vD qH kR rK _ (ajE.has X G mX);have Jg:=@avG l.prog w K mg base B oA lI kR rK _ (ajD.has X G mX nW);have ND:=@avF l.prog w K mg base B lI kR _ (ajC.has X G mX nW);have jW:=@avE l.prog w K mg base B qH rK pP _ (ajB.has X G mX nW);have zS:=@auQ l.prog w K mg base B ar3 HK pP;have Kg:=@auN l.prog w K mg base B ar0 HK;have Kk:=@auV l.prog w K mg base B ar7 Ki;have zT:=@auS l.prog w K mg base B ar5 HL;have Kp:=@au8 l.prog w K mg base B asI tW;have Kh:=@auP l.prog w K mg base B ar2 Kj Kg;have Kf:=@auJ l.prog w K mg base B arX Kk;have ax2:=@auI l.prog w K mg base B arW HL Ea UD;have zQ:=ax2.alias (y := "upto_asks") ((mg_of X G awZ).trans (mg_of X G Ih).symm);have HJ:=@auM l.prog w K mg base B arZ Kh;have UJ:=@avB l.prog w K mg base B HJ Kf oA lI vD qH kR Jg _ (ai9.has X G mX nW);have jV:=@avC l.prog w K mg base B HJ oA lI kR _ (ajA.has X G mX nW);have CZ:=@au9 l.prog w K mg base B jX zR zQ jW jV _ (Oy.has X G mX nW);have aAW:=@at9 l.prog w K mg base B jX zR zQ jW jV _ (Oy.has X G mX nW);have UI:=@avA l.prog w K mg base B jX zT zS jW jV pP _ (Oz.has X G mX nW);have aAX:=@auA l.prog w K mg base B jX zT zS jW jV pP _ (Oz.has X G mX nW);have UK:=@avD l.prog w K mg base B jX jW jV _ (Pa.has X G mX nW);have aAY:=@auB l.prog w K mg base B jX jW jV _ (Pa.has X G mX nW);have Kl:=@au1 l.prog w K mg base B asB vB CZ;have Km:=@au3 l.prog w K mg base B asD vB UI;have Ko:=@au6 l.prog w K mg base B asG tW Km Kl vB UK;have VN:=@au7 l.prog w K mg base B asH Ko tW ND CZ;exact aoN [(EB, "upto",⟨71,53,71,84⟩,uD "upto")] hnd (by simp only [dN,rE,qR,forall_eq_or_imp,forall_eq];exact hsub) (by simp only [dN,rE,qR,forall_eq_or_imp,forall_eq];exact⟨_,Mq⟩) (auU B FL Kp VN Kn VM Jp UJ) M.aoP
theorem walk{l:OpenLaw}{q:Program}{loose:List Str}{XP:(Str→Option Value)→Heap→Prop}{YP:World→Heap→Prop}{d:DefRec}{K:Params→Frag}{ts:List Addr}(hn:l.most=some 63)(KQ:d.params.defaults=[])
  (hY:∀(w:World) (h:Heap),YP w h→(K w.params).In h∧∀P∈ts,h.get? P=some (tabObj #[])) (LC:∀w:World,noTabs (K w.params)=true)
  (F:∀(w:World) (mg:Str→Option Value) (fa:Addr) (h:Heap),(K w.params).In h→h.Ns mainGlobals mg→mg d.name=some (.ref fa) →
   ∃fd:FuncData,(∀(s:Shared) (u:Value),BindsTo s fd ⟨[u],[]⟩ [("_law_script",u)])∧(∀P∈ts,∃c,codeHdIn (K w.params) c P=true)∧∀base:Heap,(K w.params).In base→base.Ns mainGlobals mg→vC base mg→iG l.prog w (K w.params) mg base nZ 10 fa fd ["_law_script"] (OY (K w.params) ts)) :
  PySem.W.WalkO q loose XP YP l.row.toRowW d [] (fun f vs=>PySem.call f vs) :=
 L2.aaT (n:=63) (k:=10) (x := "_law_script") (CX:=fun _=>nZ) (sp:=fun w=>OY (K w.params) ts) hn (by decide) KQ ⟨rfl,by decide,by decide⟩ hY LC F (fun _ _ a ns hl _ LB hS=>⟨a,ns,rfl,hS,hl,LB,fun _=>rfl⟩) fun _ _ _ _ _ z=>z
end Jq
open PySem PySem.W PyProof.Rows
namespace HD
open PySem PySem.W PyProof.Rows
def QA(B:String→Option Builtin)(p:Program)(w:World)(lo:Nat)(an:Option Value):Nat→SharedT→Thread→Option SharedT
 | 0,_,_=>none
 | m+1,x,th=>bif through th then some x else bif stepOk lo an th then(stepT (denote B) p w x th).bind (fun y=>QA B p w lo an m y.1 y.2)else none
theorem aiU{B:String→Option Builtin}{p:Program}{w:World}{lo:Nat}{an:Option Value}(m:Nat) :
  ∀(x y:SharedT) (th:Thread),QA B p w lo an m x th=some y→topRun B p w lo an m x.abs th=some y.abs:=by
 induction m with
 | zero=>intro x y th z;cases z
 | succ m ih =>
  intro x y th z;unfold QA at z;unfold topRun;cases a:through th <;> rw [a]at z
  ·cases b:stepOk lo an th <;> rw [b]at z
   ·cases z
   ·obtain⟨u,hu,z'⟩:=Option.bind_eq_some_iff.mp (show(stepT (denote B) p w x th).bind _=some y from z);dsimp only;rw [stepT_spec (s':=u.1) (t':=u.2) hu];exact ih _ _ _ z'
  ·cases z;rfl
def grow:List Obj→BT→Nat→BT
 | [],T,_=>T
 | o::l,T,n=>grow l (T.ins n o) (n+1)
noncomputable def boot(w:World)(os:OsState):SharedT:=⟨grow (boot_heap w.params).objs.toList .nil 0,11,(boot_heap w.params).life,#[],boot_drawn,boot_toks,os⟩
noncomputable def ends(p:Program)(N:Nat)(w:World)(os:OsState):Option SharedT:=QA treeTable p w 11 (some (.ref 6)) N (boot w os) (topStub p)
theorem awG(w:World):((boot_heap w.params).isNs mainGlobals&&(#[]:Array GenState).size == 0,(boot_heap w.params).objs.size,(boot_heap w.params).nsMap mainGlobals "__annotations__")=(true,11,some (Value.ref 6)):=by kernel_rfl
theorem boot_abs(w:World)(os:OsState):(boot w os).abs=⟨boot_heap w.params,#[],boot_drawn,boot_toks,os⟩:=by kernel_rfl
def fits(p:Program)(h:Heap)(y:SharedT):Bool:=staticsOk (importedModules p.main.body) h y.abs.heap&&namesBound p y.abs.heap&&gensDone y.abs&&laidKept h y.abs.heap
theorem left{p q:Program}{loose:List Str}{Xt:Shared→Bool}{α:Type}{Yf:Shared→α}{Ya:World→α}{N:Nat}{g0:Bool}
  (plain:opening p=plainProg p.main.scope.names) (hN:Nat.ble 600 N=true) (fence:∀s,fenceModules? p s=some s)
  (tests:∀(w:World) (os:OsState),(ends p N w os).map (fits p (boot_heap w.params))=some true)
  (Au:∀(w:World) (os:OsState),(ends p N w os).map (fun y=>openSeen q loose (importedModules p.main.body) Xt g0 y.abs)=some (openGood q loose))
  (hook:∀(w:World) (os:OsState),(ends p N w os).map (fun y=>Yf y.abs)=some (Ya w)) :
  LeftO p q loose Xt Yf Ya N g0:=by
 intro w;obtain⟨⟨hp,ge,dr,tk,os⟩,ho,hq⟩:=zF.mp (boot_open plain hN fence w);simp only [MX]at hq;obtain⟨rfl,rfl,rfl,rfl⟩:=hq;have bs:=awG w;simp only [MX]at bs;obtain⟨y,hy,a1⟩:=zF.mp (tests w os);have a2:=Au w os;have a3:=hook w os;rw [hy]at a2 a3;have rr:=aiU _ _ _ _ hy;rw [boot_abs]at rr;have tt:topFrom treeTable p w N ⟨boot_heap w.params,#[],boot_drawn,boot_toks,os⟩=some y.abs:=by
  unfold topFrom;dsimp only;rw [bs.1,bs.2.1,bs.2.2,rr];show(match fits p (boot_heap w.params) y with | true=>some y.abs | false=>none)=some y.abs;rw [a1]
 show((fencedOpening treeTable p w N).bind (topFrom treeTable p w N)).map _=_;rw [ho,Option.bind_some,tt,UE,kD,MX];exact⟨jJ a2,jJ a3⟩
set_option maxRecDepth 100000
set_option maxHeartbeats 0
noncomputable def ao4(ds:List Nat)(l:List Stmt):List Stmt:=@List.rec Stmt (fun _=>Nat→List Stmt) (fun _=>[]) (fun s _ f i=>@Bool.rec (fun _=>List Stmt) (s::f (Nat.succ i)) (f (Nat.succ i)) (ds.any (Nat.beq i))) l 0
noncomputable def kept:Program:={ PySem.Challenge.pw_rankpouch_k86_whole_window with main:={ PySem.Challenge.pw_rankpouch_k86_whole_window.main with body:=ao4 [0,4,6,12,17,22,27] PySem.Challenge.pw_rankpouch_k86_whole_window.main.body } }
noncomputable def seenX(s:Shared):Bool:=xlAt kept [] s&&recOk (RowW.records (OpenRow.toRowW (OpenLaw.row PySem.Challenge.rw_rankpouch_k86_whole_window))) s
theorem said:OpenLaw.wellSaid PySem.Challenge.rw_rankpouch_k86_whole_window=true:=by kernel_rfl
theorem plain:opening PySem.Challenge.pw_rankpouch_k86_whole_window=plainProg PySem.Challenge.pw_rankpouch_k86_whole_window.main.scope.names:=by kernel_rfl
theorem fence(s:Shared):fenceModules? PySem.Challenge.pw_rankpouch_k86_whole_window s=some s:=by kernel_rfl
theorem tests(w:World)(os:OsState):(ends PySem.Challenge.pw_rankpouch_k86_whole_window 4106 w os).map (fits PySem.Challenge.pw_rankpouch_k86_whole_window (boot_heap w.params))=some true:=by kernel_rfl
theorem Au(w:World)(os:OsState):(ends PySem.Challenge.pw_rankpouch_k86_whole_window 4106 w os).map (fun y=>openSeen kept [Str.ofString "upto_asks"] (importedModules PySem.Challenge.pw_rankpouch_k86_whole_window.main.body) seenX true y.abs)=some (openGood kept [Str.ofString "upto_asks"]):=by kernel_rfl
end HD
open PySem PySem.W PyProof.Rows
local macro_rules
 | `(tactic| o_head $H) => `(tactic| refine holds_open (q := HD.kept) (loose := [Str.ofString "upto_asks"]) (N := 4106) (Xt := HD.seenX)
   (XP := XL HD.kept []) (Yf := Hook.obs $H) (Ya := Hook.val $H) (YP := Hook.says $H)
   ?_ (Hook.of $H) (Hook.keeps $H) (fun s e => xl_of s (Bool.and_eq_true_iff.mp e).1) XL.keeps
   (by rfl) (by rfl) (by rfl) (fun s e => recFacts_of (Bool.and_eq_true_iff.mp e).2)
   (by rfl) (by assumption) (by decide +kernel) ⟨rfl, rfl, rfl, rfl, rfl, by decide +kernel⟩ ?_ ?_)
set_option maxRecDepth 100000 in
set_option maxHeartbeats 0 in
theorem PySem.Challenge.cw_rankpouch_k86_whole_window_holds : PySem.Challenge.rw_rankpouch_k86_whole_window.Holds := by
 w_on
 refine holds_law HD.said fun said=>?_
 k_head
 ·clear said
  refine HD.left HD.plain (by kernel_rfl) HD.fence HD.tests HD.Au ?_
  intro w os
  kernel_rfl
 ·clear said
  w_witness2
 clear said
 k_fill
 refine Jq.walk (l:=PySem.Challenge.rw_rankpouch_k86_whole_window) rfl rfl (fun w h Y=>⟨PySem.W.km_in_of Y,PySem.W.km_tabs_of Y⟩) (fun w=>by kernel_rfl) ?F
 case F =>
  intro w mg fa h KX G JZ
  refine' Jq.all_mk KX G JZ ?t1 ?t2 ?t3 ?t4 ?t5 ?t6 ?t7 ?t8 ⟨qU KX G ?t9,qU KX G ?t10,qU KX G ?t11,qU KX G ?t12,qU KX G ?t13,qU KX G ?t14,qU KX G ?t15,qU KX G ?t16,qU KX G ?t17,qU KX G ?t18,qU KX G ?t19,qU KX G ?t20,qU KX G ?t21,qU KX G ?t22⟩ (L2.jU KX G ?t23 ?t24 ?t25 ?t26) (L2.jU KX G ?t27 ?t28 ?t29 ?t30) (L2.jU KX G ?t31 ?t32 ?t33 ?t34) (L2.jU KX G ?t35 ?t36 ?t37 ?t38) (L2.jU KX G ?t39 ?t40 ?t41 ?t42) (L2.jU KX G ?t43 ?t44 ?t45 ?t46) (L2.jU KX G ?t47 ?t48 ?t49 ?t50) (L2.jU KX G ?t51 ?t52 ?t53 ?t54) (L2.jU KX G ?t55 ?t56 ?t57 ?t58) (L2.jU KX G ?t59 ?t60 ?t61 ?t62) (L2.jU KX G ?t63 ?t64 ?t65 ?t66) (L2.jU KX G ?t67 ?t68 ?t69 ?t70) (L2.jU KX G ?t71 ?t72 ?t73 ?t74) (L2.jU KX G ?t75 ?t76 ?t77 ?t78) (L2.jU KX G ?t79 ?t80 ?Mz ?t82) (L2.jU KX G ?t83 ?t84 ?t85 ?t86) (L2.jU KX G ?t87 ?t88 ?t89 ?t90) (L2.jU KX G ?t91 ?t92 ?t93 ?t94) (L2.jU KX G ?t95 ?t96 ?t97 ?t98) (L2.jU KX G ?t99 ?ahH ?ahG ?ahF) (L2.jU KX G ?ahE ?ahD ?ahC ?ahB) (L2.jU KX G ?ahA ?ag9 ?ag8 ?ag6) (L2.jU KX G ?ag5 ?ag4 ?ag3 ?ag2) (V2.avK KX G ?ag1) (V2.alW KX G ?ag0 ?t117) ?t118 ⟨?t119,?agY,?agX,?t122⟩ ?agW ?agV ?agU ?agT ?agS ?agR (V2.apU ?agQ ?agO ?agN ?agM ?t133 ?agL ?t135) (V2.JF ?agK ?agJ ?agI ?agH ?t140) (V2.JF ?t141 ?agF ?agE ?agD ?t145) (V2.Aj ?t146 ?agC ?agB ?agA ?t150 ?t151) (V2.Aj ?af8 ?af7 ?af6 ?af5 ?t156 ?t157) (V2.Aj ?af4 ?af3 ?af1 ?af0 ?t162 ?t163) (V2.JF ?afZ ?afY ?afX ?afW ?t168) (V2.JF ?t169 ?afU ?afT ?afS ?t173) (V2.JF ?t174 ?afR ?afQ ?afP ?t178) ?t179 ?afN ?hv_upto ?hh_upto ?hsub ?hnd ?hall
  case t1 | t2 | t3 | t4 | t5 | t6 | t7 | t8 | t9 | t10 | t11 | t12 | t13 | t14 | t15 | t16 | t17 | t18 | t19 | t20 | t21 | t22 | t23 | t24 | t25 | t26 | t27 | t28 | t29 | t30 | t31 | t32 | t33 | t34 | t35 | t36 | t37 | t38 | t39 | t40 | t41 | t42 | t43 | t44 | t45 | t46 | t47 | t48 | t49 | t50 | t51 | t52 | t53 | t54 | t55 | t56 | t57 | t58 | t59 | t60 | t61 | t62 | t63 | t64 | t65 | t66 | t67 | t68 | t69 | t70 | t71 | t72 | t73 | t74 | t75 | t76 | t77 | t78 | t79 | t80 | Mz | t82 | t83 | t84 | t85 | t86 | t87 | t88 | t89 | t90 | t91 | t92 | t93 | t94 | t95 | t96 | t97 | t98 | t99 | ahH | ahG | ahF | ahE | ahD | ahC | ahB | ahA | ag9 | ag8 | ag6 | ag5 | ag4 | ag3 | ag2 | ag1 | ag0=>k_is
  case t117=>k_exc
  case t118=>k_is
  case t119 | agY | agX=>kernel_rfl
  case t122 | agW | agV | agU | agT | agS | agR | agQ | agO | agN | agM=>k_is
  case t133 | agL=>kernel_rfl
  case t135 | agK | agJ | agI | agH=>k_is
  case t140=>kernel_rfl
  case t141 | agF | agE | agD=>k_is
  case t145=>kernel_rfl
  case t146 | agC | agB | agA=>k_is
  case t150=>kernel_rfl
  case t151 | af8 | af7 | af6 | af5=>k_is
  case t156=>kernel_rfl
  case t157 | af4 | af3 | af1 | af0=>k_is
  case t162=>kernel_rfl
  case t163 | afZ | afY | afX | afW=>k_is
  case t168=>kernel_rfl
  case t169 | afU | afT | afS=>k_is
  case t173=>kernel_rfl
  case t174 | afR | afQ | afP=>k_is
  case t178=>kernel_rfl
  case t179 | afN=>k_is
  (case hv_upto=>exact rfl)
  (case hh_upto=>exact rfl)
  (case hsub=>decide)
  (case hnd=>decide)
  (case hall=>intro P hP;first | simpa using hP | (simp at hP;omega) | (simp only [dN,rE,qR]at hP;rcases hP with e | e <;> simp [e];done) | (simp only [dN,rE,qR]at hP;rcases hP with e | e | e <;> simp [e]))
